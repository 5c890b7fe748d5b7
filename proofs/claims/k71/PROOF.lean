import PyProof.Rows.All
import Wide.All
import OpenK.AllK
import Wide.FinOn
import Lean
import PyProof.EqAt
import PyProof.EqKinds
import PyProof.TupleCall
import PyProof.NeKinds
import PyProof.Rows.SortWalk
import PyProof.Rows.SortRuns
import KE.KMinKey
import PyProof.IsRules
import PySem.SetOps
import PyProof.SetScanFacts
import PyProof.TupleKey
import PyProof.SetKind
import PyProof.Rows.SetFrom
import KE.KRevSl
import PyProof.Rows.SumAny
import PyProof.EnumMake
import PyProof.SeqI3
import PyProof.TupleOfGen
import PyProof.ListRange
import PyProof.CollectIter
import PySem.Challenge.RW_unlikesteps_k71_corners_put_to
set_option Elab.async false
set_option linter.all false
local macro_rules|`(.o)=>`(by omega)
local macro_rules|`(.d)=>`(by decide)
set_option autoImplicit true
set_option relaxedAutoImplicit true
set_option maxRecDepth 100000
set_option maxHeartbeats 0
def AN:=@PySem.wpAny_bind
def OF:=@PySem.Heap.get?_push_of_some
def Zaa:=@PyProof.Rows.wpS_pure
def Zab:=@List.getElem?_eq_some_iff
def Zae:=@Nat.le_refl
def Zai:=@PyProof.Rows.wpS_bind
def Zaj:=@beq_iff_eq
def Zak:=@PySem.wpAny_pure
def Zal:=@List.getElem?_eq_getElem
def Zam:=@if_neg
def Zan:=@List.size_toArray
def Zao:=@List.mem_cons
def Zap:=@List.mem_cons_of_mem
def Zaq:=@if_pos
def Zar:=@PySem.Heap.lt_size
def Zas:=@List.length_append
def Zat:=@List.length_map
def Zau:=@List.mem_cons_self
def Zav:=@Bool.false_ne_true
def Zax:=@PySem.Heap.get?_push_size
def Zay:=@Array.length_toList
def ZaD:=@List.mem_append_right
def ZaE:=@Nat.lt_of_lt_of_le
def ZaI:=@List.mem_singleton
def ZaK:=@decide_eq_false
def ZaL:=@List.mem_append
def ZaO:=@Nat.ne_of_lt
def ZaP:=@PySem.sizeLine_eq
def ZaQ:=@Option.some.inj
def ZaR:=@Bool.and_eq_true
def ZaS:=@Array.getElem?_toList
def ZaT:=@decide_eq_true
def ZaU:=@List.length_take
def Za2:=@Nat.zero_le
def Za4:=@Nat.max_eq_right
def Za7:=@List.mem_append_left
def Zbc:=@List.mem_of_getElem?
def Zbj:=@List.all_eq_true
def Zbk:=@List.not_mem_nil
def Zbm:=@PySem.F.plainAttrs_list
def Zbo:=@Bool.false_eq_true
def Zbp:=@List.append_assoc
def Zbq:=@Array.getElem?_eq_some_iff
def Zbr:=@List.pairwise_append
def Zbs:=@Option.map_eq_some_iff
def Zbt:=@List.mem_range
def Zbu:=@PySem.wpAny_mono
def Zbv:=@Bool.not_eq_true'
def Zbw:=@List.take_append_drop
def Zbx:=@PyProof.Rows.boot_isinstance
def Zby:=@PySem.F.slot_list_append
def Zbz:=@PySem.F.type_list_append
def ZbA:=@List.length_cons
def ZbB:=@PyProof.Rows.wpS_forRange
def ZbC:=@List.map_append
def ZbD:=@List.length_drop
def ZbE:=@List.nodup_iff_pairwise_ne
def ZbF:=@List.mem_map
def ZbG:=@List.getElem?_map
def ZbH:=@List.mem_of_mem_drop
def ZbI:=@Nat.lt_irrefl
def ZbJ:=@List.map_cons
def ZbK:=@Array.toList_push
def ZbL:=@List.getD_eq_getElem?_getD
def ZbM:=@List.mem_filter
def ZbN:=@List.Pairwise.sublist
def ZbO:=@List.take_add_one
def ZbP:=@List.append_nil
def ZbQ:=@PySem.Heap.get?_update_other
def ZbR:=@PySem.wpAny_field
def ZbS:=@PySem.wpAny_newObj_type
def ZbT:=@PySem.wpAny_holding
def ZbU:=@List.pairwise_cons
def ZbV:=@PySem.mem_of_lookup
def ZbW:=@Array.getElem?_eq_getElem
def ZbX:=@List.drop_eq_nil_of_le
def ZbY:=@List.take_of_length_le
def ZbZ:=@PySem.Around.under_plainId
def Zb0:=@List.forall_mem_cons
def Zb1:=@List.take_length
def Zb2:=@PyProof.Rows.callWith_type1
def Zb3:=@PyProof.Rows.slot_tuple_getitem
def Zb4:=@decide_eq_true_eq
def Zb5:=@PySem.wpAny_seqItems
def Zb6:=@Nat.zero_add
def Zb7:=@PySem.wpAny_callSpecial?_slot
def Zb8:=@Array.toList_append
def Zb9:=@Int.toNat_of_nonneg
def Zca:=@or_false
def Zcb:=@List.length_range
def Zcc:=@Classical.byContradiction
def Zcd:=@Nat.le_trans
def Zce:=@List.mem_of_mem_take
def Zcf:=@PySem.Paired.length
def Zc4:=@List.mem_filterMap
def Zc5:=@List.getElem?_take_of_lt
def Zc8:=@PySem.W.kia_one
def Zc9:=@List.length_replicate
def Zda:=@PySem.codeAny_builtin
def Zdb:=@List.getElem_of_mem
def Zdc:=@PySem.W.mg_of
def Zdd:=@List.getElem?_append_right
def Zde:=@Array.perm_iff_toList_perm
def Zdf:=@PySem.F.excBase_ValueError
def Zdg:=@List.getElem?_of_mem
def Zdh:=@PySem.wpAny_Call_Name_kw
def Zdi:=@List.replicate_succ
def Zdj:=@PySem.Heap.SameBut.update
def Zdk:=@of_decide_eq_true
def Zdl:=@PySem.Heap.get?_update_self
def Zdm:=@List.filterMap_cons_some
def Zdn:=@List.pairwise_map
def Zdo:=@List.Pairwise.imp
def Zdp:=@if_false
def Zdq:=@PySem.Heap.size_push
def Zdr:=@PySem.wpAny_call_entry
def Zds:=@PySem.wpAny_truthy_bool
def Zdt:=@List.getElem?_append_left
def Zdu:=@List.drop_eq_getElem_cons
def Zdv:=@List.nodup_cons
def Zdw:=@List.length_nil
def Zdx:=@List.length_singleton
def Zdy:=@List.nil_append
def Zdz:=@Nat.add_zero
def ZdA:=@PySem.wpAny_rule
def ZdG:=@Option.isSome_iff_exists
def ZdH:=@PySem.SeqAt.EqAt.int_int
def ZdI:=@List.getElem?_drop
def ZdJ:=@Bool.not_eq_false'
def ZdK:=@Int.emod_lt_of_pos
def ZdL:=@Ne.symm
def ZdM:=@List.getElem?_replicate
def ZdN:=@List.pairwise_singleton
def ZdO:=@List.filter_cons_of_pos
def ZdP:=@List.filter_cons_of_neg
def ZdQ:=@PySem.codeAny_mono
def ZdR:=@PyProof.Rows.F.plain_set_update_loop
def ZdS:=@List.take_sublist
def ZdT:=@Int.toNat_natCast
def ZdU:=@Nat.lt_succ_of_lt
def ZdV:=@List.drop_sublist
def ZdW:=@List.filterMap_cons
def ZdX:=@Bool.eq_iff_iff
def ZdY:=@List.mem_map_of_mem
def ZdZ:=@List.getElem?_set_self
def Zd1:=@PySem.F.slot_tuple_iterator_next
def Zd5:=@List.perm_ext_iff_of_nodup
def Zd6:=@PySem.call_meets
def Zea:=@List.nodup_range
def Zeb:=@PySem.W.of_hideAll
def Zec:=@Nat.le_of_lt
def Zed:=@List.zip_cons_cons
def Zee:=@Nat.lt_of_le_of_lt
def Zef:=@PySem.Obj.data_mapFields
def Zeg:=@PySem.plainId_quiet
def Zeh:=@List.Perm.append_left
def Zei:=@Nat.sub_add_cancel
def Zej:=@List.filter_append
def Zek:=@Bool.false_and
def Zel:=@Bool.and_false
def Zem:=@List.getElem?_set_ne
def Zen:=@List.find?_cons
def Zeo:=@PySem.wpAny_comprehension_free
def Zep:=@Nat.min_eq_left
def Zeq:=@List.range_succ
def Zer:=@Nat.not_lt_zero
def Zes:=@Int.emod_nonneg
def Zet:=@PySem.wpAny_setState_of
def Zeu:=@Nat.lt_of_succ_lt
def Zev:=@PyProof.Rows.boot_tuple
def Zew:=@PySem.PassesOwn.never
def Zex:=@congrArg
def Zey:=@PySem.wpAny_standAt
def Zez:=@List.pairwise_filterMap
def ZeA:=@Option.getD_some
def ZeB:=@List.lookup_cons
def ZeC:=@List.getElem_mem
def ZeD:=@List.mem_flatMap
def ZeE:=@PyProof.Rows.joinParts_cons
def ZeF:=@List.drop_zero
def ZeG:=@PyProof.Rows.wpS_modify
def ZeH:=@List.drop_drop
def ZeI:=@PySem.F.slot_tuple_mul
def ZeJ:=@PySem.wpAny_setField_rec
def ZeK:=@of_decide_eq_false
def ZeL:=@if_true
def ZeM:=@List.foldl_cons
def ZeN:=@Option.map_some
def ZeO:=@PySem.W.kia_tup
def ZeP:=@List.length_filter_le
def ZeQ:=@Int.zero_add
def ZeR:=@PySem.wpAny_pyIter_list
def ZeS:=@List.flatten_cons
def ZeT:=@PyProof.Rows.wpS_mono
def ZeU:=@PySem.boot_len
def ZeV:=@Array.toList_reverse
def ZeW:=@PySem.wpAny_setField
def ZeX:=@PySem.wpAny_tryCatch
def ZeY:=@List.pairwise_iff_getElem
def ZeZ:=@PyProof.Rows.F.entry_set_update_loop
def Ze0:=@PySem.wpAny_pyIter_zip
def Ze1:=@beq_eq_false_iff_ne
def Ze2:=@PySem.W.hideAll_get
def Ze3:=@Nat.le_succ
def Ze4:=@Nat.add_le_add_left
def Ze5:=@PySem.Paired.snoc
def Ze6:=@PyProof.Rows.slot_tupleiter_next
def Ze7:=@List.reverse_append
def Ze8:=@Nat.ne_of_gt
def Ze9:=@PySem.F.args_tuple_add_2
def Zfa:=@PySem.wpAny_typeOf
def Zfb:=@PySem.AutoSeq1.wpAny_loadPart'
def Zfc:=@PySem.F.slot_list_getattribute
def Zfd:=@List.Pairwise.imp_of_mem
def Zfe:=@List.length_filterMap_le
def Zff:=@List.eq_of_mem_replicate
def Zfg:=@PySem.wpAny_passesOwn
def Zfh:=@PySem.F.entry_tuple_add
def Zfi:=@PyProof.Rows.boot_list
def Zfj:=@Bool.or_eq_true
def Zfk:=@PySem.F.slot_tuple_add
def Zfl:=@PySem.Calls.callWith_builtin
def Zfm:=@List.Perm.append_right
def Zfn:=@PySem.F.plain_min_loop
def Zfo:=@List.pairwise_lt_range
def Zfp:=@PySem.W.kitx_list
def Zfq:=@PySem.WalksT.enumerateD
def Zfr:=@PySem.wpAny_pyIter_enum
def Zfs:=@Bool.eq_false_iff
def Zft:=@Array.append_push
def Zfu:=@PyProof.Rows.callWith_builtin1
def Zfv:=@Nat.lt_trans
def Zfw:=@PySem.F.slot_dict_get
def Zfx:=@PySem.Obj.isFreed_of_fields
def Zfy:=@PyProof.Rows.formatField_int_small
def Zfz:=@PySem.wpAny_forIn_list
def ZfA:=@List.ext_getElem
def ZfB:=@Nat.le_add_right
def ZfC:=@PyProof.Rows.wpS_get
def ZfD:=@List.mem_reverse
def ZfE:=@PySem.F.plain_min_loop
def ZfF:=@PySem.W.hideAll_none
def ZfG:=@PySem.Heap.get?_none_of_le
def ZfH:=@PySem.Calls.evalArgs_plain
def ZfI:=@PySem.wpAny_newFunctionEnv
def ZfJ:=@PyProof.Rows.FormattedValue_plain
def ZfK:=@PySem.codeAny_call_builtin
def ZfL:=@PySem.W.looks_findIn
def ZfM:=@List.any_cons
def ZfN:=@PySem.F.args_tuple_iterator_next_1
def ZfO:=@Bool.not_true
def ZfP:=@PySem.F.entry_tuple_iterator_next
def ZfQ:=@PySem.wpAny_letGo
def ZfR:=@PySem.F.slot_zip_next
def ZfS:=@Array.getD_eq_getD_getElem?
def ZfT:=@PySem.Calls.Name_function_global
def ZfU:=@PyProof.Rows.vals1
def ZfV:=@Array.toList_setIfInBounds
def ZfW:=@Array.append_assoc
def ZfX:=@PyProof.Rows.assignInOrder_cons
def ZfY:=@PySem.wpAny_pyIter_tuple
def ZfZ:=@PySem.Calls.spliced_cons
def Zf0:=@PySem.W.callWith_K
def Zf1:=@List.map_map
def Zf2:=@Nat.succ_pos
def Zf3:=@decide_eq_true_iff
def Zf4:=@PySem.wpAny_binaryOp_repeat_ref
def Zf5:=@List.getElem?_eq_none_iff
def Zf6:=@List.getElem?_zip_eq_some
def Zf7:=@Bool.not_false
def Zf8:=@List.filterMap_eq_nil_iff
def Zf9:=@PySem.Calls.spliced_nil
def Zga:=@List.reverse_cons
def Zgb:=@PySem.F.args_tuple_mul_2
def Zgc:=@Array.size_setIfInBounds
def Zgd:=@Nat.lt_trichotomy
def Zge:=@List.nodup_append
def Zgf:=@List.flatMap_cons
def Zgg:=@List.all_cons
def Zgh:=@PySem.F.args_dict_get_2
def Zgi:=@PySem.wpAny_of_eq
def Zgj:=@PySem.wpAny_attempt
def Zgk:=@PySem.F.slot_tuple_rmul
def Zgl:=@PySem.F.entry_tuple_mul
def Zgm:=@Nat.add_assoc
def Zgn:=@PyProof.Rows.wpS_lift
def Zgo:=@Prod.mk.injEq
def Zgp:=@PySem.wpAny_execs_cons
def Zgq:=@PySem.W.kitx_int
def Zgr:=@PySem.noFill_tuple_add
def Zgs:=@beq_self_eq_true
def Zgt:=@Nat.lt_succ_self
def Zgu:=@List.getElem_map
def Zgv:=@List.zipIdx_cons
def Zgw:=@PySem.Heap.size_update
def Zgx:=@decide_eq_decide
def Zgy:=@PySem.W.cellsFrom_some
def Zgz:=@PySem.F.entry_dict_get
def ZgA:=@Array.toList_filterMap
def ZgB:=@PySem.wpAny_execs_nil
def ZgC:=@List.of_mem_zip
def ZgD:=@PySem.wpAny_loadPart'
def ZgE:=@List.map_nil
def ZgF:=@List.forIn_cons
def ZgG:=@PySem.codeAny_of_tree
def ZgH:=@PySem.F.slot_int_rmul
def ZgI:=@List.perm_append_comm
def ZgJ:=@List.getElem?_eq_none
def ZgK:=@PyProof.Rows.pairsOf_size
def ZgL:=@PySem.wpAny_updateSeq
def ZgM:=@List.filterMap_append
def ZgN:=@List.pairwise_flatMap
def ZgO:=@PySem.wpAny_call
def ZgP:=@PySem.typeIs_int
def ZgQ:=@Nat.mod_lt
def ZgR:=@bne_iff_ne
def ZgS:=@PySem.W.hideAll_size
def ZgT:=@List.replicate_succ'
def ZgU:=@List.take_zero
def ZgV:=@List.take_take
def ZgW:=@PySem.F.called_tuple
def ZgX:=@PySem.seqIndex_of
def ZgY:=@PySem.wpAny_throw
def ZgZ:=@PySem.W.looks_mroIn
def Zg0:=@List.toList_toArray
def Zg1:=@List.flatMap_append
def Zg2:=@PySem.W.codeHd_of_K
def Zg3:=@PySem.rangeSize_one
def Zg4:=@PySem.W.kitx_tuple
def Zg5:=@PySem.seq_tuple_add
def Zg6:=@PySem.eval_ListComp
def Zg7:=@PySem.W.KF.slot_gs
def Zg8:=@PySem.wpAny_onRaise
def Zg9:=@Array.append_empty
def Zha:=@Nat.eq_zero_or_pos
def Zhb:=@List.set_cons_zero
def Zhc:=@PySem.wpAny_newList
def Zhd:=@Nat.lt_or_eq_of_le
def Zhe:=@Bool.and_self
def Zhf:=@Array.forIn_toList
def Zhg:=@List.getElem_range
def Zhh:=@List.map_replicate
def Zhi:=@List.any_eq_false
def Zhj:=@PySem.W.kitx_none
def Zhk:=@PySem.W.kitx_dict
def Zhl:=@PySem.list_append
def Zhm:=@PySem.Walks.list
def Zhn:=@List.getElem_take
def Zho:=@List.ext_getElem?
def Zhp:=@bne_self_eq_false
def Zhq:=@Nat.mul_comm
def Zhr:=@Nat.sub_zero
def Zhs:=@and_false
abbrev Zht:=PySem.W.Frag
namespace L2
open PySem PySem.Spec PyProof.Rows
def Ly:0<=sizeLine:=Nat.zero_le _
def bZ:1<=sizeLine:=.d
def aZ:2<=sizeLine:=.d
def yf:3<=sizeLine:=.d
def qZ:4<=sizeLine:=.d
def Lx:5<=sizeLine:=.d
def Cw:7<=sizeLine:=.d
def Lw:8<=sizeLine:=.d
abbrev Key:=Sum Int Str
def qc:Key->Value->Bool
 | .inl k,v=>Value.isInt k v
 | .inr x,v=>Value.isStrOf x v
def Oi (w:World):Key->Int
 | .inl k=>hashInt k
 | .inr x=>hashStr w x
def ZX:∀{k:Key}{v:Value},qc k v=true->(∃i t,k=Sum.inl i/\v=Value.int i t)∨(∃x t,k=Sum.inr x/\v=Value.str x t)
 | .inl i,v,h=>by
  obtain⟨t,e⟩:=Value.isInt_shape (k:=i) (v:=v) h
  exact .inl ⟨i,t,rfl,e⟩
 | .inr x,v,h=>by
  obtain⟨t,e⟩:=Value.isStrOf_shape (x:=x) (v:=v) h
  exact .inr ⟨x,t,rfl,e⟩
def ZcN (i:Int) (t:Tok):qc (.inl i) (.int i t)=true:=by simp[qc,Value.isInt]
def ZcM (x:Str) (t:Tok):qc (.inr x) (.str x t)=true:=by simp[qc,Value.isStrOf]
def Vl (a b:Int):decide ((Sum.inl a:Key)=Sum.inl b)=(a==b):=by
 by_cases e:a=b
 ·subst e;simp
 ·have h:¬(Sum.inl a:Key)=Sum.inl b:=fun q=>e (Sum.inl.inj q)
  rw[ZaK h]
  exact(Ze1.mpr e).symm
def Vo (a b:Str):decide ((Sum.inr a:Key)=Sum.inr b)=decide (a=b):=by
 by_cases e:a=b
 ·subst e;simp
 ·have h:¬(Sum.inr a:Key)=Sum.inr b:=fun q=>e (Sum.inr.inj q)
  rw[ZaK h,ZaK e]
def Vm (a:Int) (b:Str):decide ((Sum.inl a:Key)=Sum.inr b)=false:=ZaK (fun q=>nomatch q)
def Vn (a:Str) (b:Int):decide ((Sum.inr a:Key)=Sum.inl b)=false:=ZaK (fun q=>nomatch q)
def fv (prog:Program) (w:World):PySem.KeyKind prog w Key where
 is:=qc
 hash:=Oi w
 inj:=fun v a b ha hb=>by
  rcases ZX ha with ⟨i,t,rfl,rfl⟩ |⟨x,t,rfl,rfl⟩
  ·rcases ZX hb with ⟨j,u,rfl,e⟩ |⟨y,u,rfl,e⟩
   ·injection e with e1 _;rw[e1]
   ·exact nomatch e
  ·rcases ZX hb with ⟨j,u,rfl,e⟩ |⟨y,u,rfl,e⟩
   ·exact nomatch e
   ·injection e with e1 _;rw[e1]
 byValue:=fun k v h=>by
  rcases ZX h with ⟨i,t,rfl,rfl⟩ |⟨x,t,rfl,rfl⟩<;>rfl
 pyHash:=fun hv h=>by
  rcases ZX hv with ⟨i,t,rfl,rfl⟩ |⟨x,t,rfl,rfl⟩
  ·exact wpAny_pyHash_int h
  ·exact wpAny_pyHash_str h
 eqBool:=fun hu hv h=>by
  rcases ZX hu with ⟨i,t,rfl,rfl⟩ |⟨x,t,rfl,rfl⟩
  ·rcases ZX hv with ⟨j,u,rfl,rfl⟩ |⟨y,u,rfl,rfl⟩
   ·rw[Vl]at h;exact wpAny_eqBool_int h
   ·rw[Vm]at h;exact SeqAt.EqAt.int_str i t y u _ _ _ _ h
  ·rcases ZX hv with ⟨j,u,rfl,rfl⟩ |⟨y,u,rfl,rfl⟩
   ·rw[Vn]at h;exact SeqAt.EqAt.str_int x t j u _ _ _ _ h
   ·rw[Vo]at h;exact wpAny_eqBool_str h
 «strs» :=fun k x t v h=>by
  rcases ZX h with ⟨i,u,rfl,e⟩ |⟨y,u,rfl,e⟩
  ·exact nomatch e
  ·injection e with e1 _
   subst e1
   cases v<;>rfl
def ZaA (prog:Program) (w:World) (i:Int) (t:Tok):(fv prog w).is (.inl i) (.int i t)=true:=ZcN i t
def Zaz (prog:Program) (w:World) (x:Str) (t:Tok):(fv prog w).is (.inr x) (.str x t)=true:=ZcM x t
inductive V where
 |af |bl (b:Bool) |int (i:Int) |str (x:Str) |iP (b:Array UInt8) |hG (b:UInt64) |ref (a:Addr) |ty (n:String)
 deriving DecidableEq
def RelV:V->Value->Prop
 | .af,u=>u=Value.none
 | .bl b,u=>u=Value.bool b
 | .int i,u=> ∃t,u=Value.int i t
 | .str x,u=> ∃t,u=Value.str x t
 | .iP b,u=> ∃t,u=Value.bytes b t
 | .hG b,u=> ∃t,u=Value.float b t
 | .ref a,u=>u=Value.ref a
 | .ty n,u=>u=Value.type n
abbrev Vals:List V->List Value->Prop:=Paired RelV
def Vals.length {xs:List V}{us:List Value}(r:Vals xs us):xs.length=us.length:=Zcf r
def Vals.get:∀{xs:List V}{us:List Value}{i:Nat}{x:V},Vals xs us->xs[i]? =some x->∃u,us[i]? =some u/\RelV x u
 |_,_,_,_,.nil,e=>by simp at e
 |_,_,0,_,.cons r _,e=>by simp at e;subst e;exact⟨_,rfl,r⟩
 |_,_,i+1,x,.cons _ t,e=>by
  obtain⟨u,h1,h2⟩:=Vals.get (i:=i) (x:=x) t (by simpa using e)
  exact⟨u,by simpa using h1,h2⟩
def Vals.set {x:V}{u:Value}(r:RelV x u):∀{xs:List V}{us:List Value}(i:Nat),Vals xs us->Vals (xs.set i x) (us.set i u)
 |_,_,_,.nil=> .nil
 |_,_,0,.cons _ t=> .cons r t
 |_,_,i+1,.cons q t=> .cons q (Vals.set r i t)
def Vals.append:∀{xs ys:List V}{us ws:List Value},Vals xs us->Vals ys ws->Vals (xs++ys) (us++ws)
 |_,_,_,_,.nil,s=>s
 |_,_,_,_,.cons r t,s=> .cons r (Vals.append t s)
def Vals.take:∀{xs:List V}{us:List Value}(n:Nat),Vals xs us->Vals (xs.take n) (us.take n)
 |_,_,0,_=> .nil
 |_,_,_+1,.nil=> .nil
 |_,_,n+1,.cons r t=> .cons r (Vals.take n t)
def Vals.drop:∀{xs:List V}{us:List Value}(n:Nat),Vals xs us->Vals (xs.drop n) (us.drop n)
 |_,_,0,r=>r
 |_,_,_+1,.nil=> .nil
 |_,_,n+1,.cons _ t=>Vals.drop n t
def lh:Option V->Option Value->Prop
 |some v,some u=>RelV v u
 |none,none=>True
 |_,_=>False
def KV {κ:Type} :List (κ×V)->List (κ×Value)->Prop:=Paired fun(p:κ×V) (q:κ×Value)=>p.1=q.1/\RelV p.2 q.2
def kV:Key->V
 | .inl i=> .int i
 | .inr x=> .str x
inductive HO where
  |lst (xs:List V)
  |tup (xs:List V)
  |par (xs:List V)
  |dK (kvs:List (Key×V)) |dT (kvs:List (List Key×V))
  |set (S:Int->Bool) (n:Nat)
  |ins (C dx:Addr) (fs:List (Str×V))
  |own (x:Addr)
  |xd (fs:List (Str×V))
  |met (f x:Addr)
  |fN (lo hi:Int)
  |cJ (o:Obj) (u:HO)
  |bY (ps:Array Value)
  |ext (φ:Heap->Prop)
abbrev Hp:=Addr->Option HO
def upd (H:Hp) (a:Addr) (o:HO):Hp:=fun b=>if b=a then some o else H b
def Ze {H:Hp}{a:Addr}{o:HO} :upd H a o a=some o:=by unfold upd;rw[Zaq rfl]
def Zg {H:Hp}{a b:Addr}{o:HO}(h:b≠a):upd H a o b=H b:=by unfold upd;rw[Zam h]
def Ym {H:Hp}{a b:Addr}{o u:HO}(h:H a=some o) (h':H b=some u) (d:o≠u):a≠b:=by
 intro e;subst e;rw[h]at h';exact d (ZaQ h')
def Zi {H:Hp}{a b:Addr}{o:HO}(h:H a=some o) (h':H b=none):a≠b:=by
 intro e;subst e;rw[h]at h';cases h'
section
variable (P:Program) (w:World)
def bw (H:Hp) (h:Heap) (a:Addr):HO->Prop
 | .lst xs=>xs.length<=sizeLine/\∃(its:List Value) (n:Nat),Vals xs its/\h.get? a=some {cls:=.type "list",data:=.seq its.toArray n}
 | .tup xs=>xs.length<=sizeLine/\∃its:List Value,Vals xs its/\IsTup h a its.toArray/\∃o,h.get? a=some o/\o.dict=none
 | .par xs=>xs.length<=sizeLine/\∃its:List Value,Vals xs its/\IsTup h a its.toArray
 | .dK kvs=>kvs.length<=sizeLine/\(a==sysModules)=false/\∃vs,KV kvs vs/\h.DictOf (fv P w) a vs
 | .dT kvs=>kvs.length<=sizeLine/\(a==sysModules)=false/\∃xs:List (List Key×Addr×Value),
   Paired (fun(p:List Key×V) (q:List Key×Addr×Value)=>p.1=q.1/\H q.2.1=some (.tup (p.1.map kV))/\RelV p.2 q.2.2) kvs xs/\
   ∃o es ep,h.get? a=some o/\o.ExactDict/\o.data=.dict es ep/\es.toList=xs.map (entryOfKey (tupleKind (fv P w)))/\(xs.map (·.1)).Nodup
 | .set S n=>h.SetOf (intKind P w) a S n
 | .ins C dx fs=>H dx=some (.own a)/\fs.length<=1000/\dx≠a/\h.get? a=some (PySem.W.instObj C dx)/\
   ∃mA,h.Ns1 dx mA/\(∀f,lh (fs.lookup f) (mA f))/\PySem.Within mA (fs.map (·.1))
 | .own _=> ∃o,h.get? a=some o
 | .xd fs=> ∃mA,h.Ns1 a mA/\∀f,lh (fs.lookup f) (mA f)
 | .fN lo hi=> ∃t u v,h.get? a=some {cls:=.type "range",data:=.fields #[.int lo t,.int hi u,.int 1 v]}
 | .cJ o u=>h.get? a=some o/\bw H h a u
 | .bY ps=>h.get? a=some {cls:=.none,data:=.fields ps}
 | .met f x=>h.get? a=some (PySem.W.methodObj (.ref f) (.ref x))
 | .ext φ=>φ h/\(∃o,h.get? a=some o)/\∀h1 h2:Heap,φ h1->(∀o,h1.get? a=some o->h2.get? a=some o)->φ h2
def bM (H:Hp) (h:Heap):Prop:=∀a o,H a=some o->bw P w H h a o
end
section
variable {P:Program}{w:World}{H H':Hp}{h h':Heap}{a:Addr}{o:HO}
def bw.lt (x:bw P w H h a o):a<h.objs.size:=by
 cases o with
 |lst xs=>obtain⟨_,_,_,_,e⟩:=x;exact Zar e
 |tup xs=>obtain⟨_,_,_,p,_⟩:=x;exact p.lt
 |par xs=>obtain⟨_,_,_,p⟩:=x;exact p.lt
 |dK kvs=>obtain⟨_,_,_,_,o,_,_,e,_⟩:=x;exact Zar e
 |dT kvs=>obtain⟨_,_,_,_,o,_,_,e,_⟩:=x;exact Zar e
 |set S n=>obtain⟨o,_,_,_,e,_⟩:=x;exact Zar e
 |ins C dx fs=>obtain⟨_,_,_,e,_⟩:=x;exact Zar e
 |own y=>obtain⟨_,e⟩:=x;exact Zar e
 |xd fs=>obtain⟨_,⟨_,_,_,e,_⟩,_⟩:=x;exact Zar e
 |fN lo hi=>obtain⟨_,_,_,e⟩:=x;exact Zar e
 |cJ ob u=>obtain⟨e,_⟩:=x;exact Zar e
 |bY ps=>exact Zar (show h.get? a=some _ from x)
 |met f y=>exact Zar (show h.get? a=some _ from x)
 |ext φ=>obtain⟨_,⟨_,e⟩,_⟩:=x;exact Zar e
def Paired.dS {α β:Type}{F G:α->β->Prop} :∀{lQ:List α}{lP:List β},Paired F lQ lP->(∀a b,F a b->G a b)->Paired G lQ lP
 |_,_,.nil,_=> .nil
 |_,_,.cons r t,f=> .cons (f _ _ r) (Paired.dS t f)
def bw.cb (x:bw P w H h a o) (k:∀b u,(b=a∨H b=some (.own a))->h.get? b=some u->h'.get? b=some u)
  (ho:∀b,H b=some (.own a)->H' b=some (.own a)) (ht:∀b xs,H b=some (.tup xs)->H' b=some (.tup xs)):bw P w H' h' a o:=by
 induction o with
 |lst xs=>obtain⟨z,its,n,r,e⟩:=x;exact⟨z,its,n,r,k _ _ (.inl rfl) e⟩
 |tup xs=>obtain⟨z,its,r,⟨ob,e,c⟩,o2,e2,c2⟩:=x;exact⟨z,its,r,⟨ob,k _ _ (.inl rfl) e,c⟩,o2,k _ _ (.inl rfl) e2,c2⟩
 |par xs=>obtain⟨z,its,r,ob,e,c⟩:=x;exact⟨z,its,r,ob,k _ _ (.inl rfl) e,c⟩
 |dK kvs=>obtain⟨z,y,vs,r,ob,es,ep,e,c⟩:=x;exact⟨z,y,vs,r,ob,es,ep,k _ _ (.inl rfl) e,c⟩
 |dT kvs=>
  obtain⟨z,y,xs,r,ob,es,ep,e,c⟩:=x
  exact⟨z,y,xs,Paired.dS r fun p q z=> ⟨z.1,ht _ _ z.2.1,z.2.2⟩,ob,es,ep,k _ _ (.inl rfl) e,c⟩
 |set S n=>obtain⟨ob,es,ep,t,e,c⟩:=x;exact⟨ob,es,ep,t,k _ _ (.inl rfl) e,c⟩
 |ins C dx fs=>
  obtain⟨d,z,ne,e,mA,⟨od,es,ep,e2,c⟩,r⟩:=x
  exact⟨ho _ d,z,ne,k _ _ (.inl rfl) e,mA,⟨od,es,ep,k _ _ (.inr d) e2,c⟩,r⟩
 |own y=>obtain⟨ob,e⟩:=x;exact⟨ob,k _ _ (.inl rfl) e⟩
 |xd fs=>obtain⟨mA,⟨od,es,ep,e,c⟩,r⟩:=x;exact⟨mA,⟨od,es,ep,k _ _ (.inl rfl) e,c⟩,r⟩
 |fN lo hi=>obtain⟨t,u,v,e⟩:=x;exact⟨t,u,v,k _ _ (.inl rfl) e⟩
 |cJ ob u ih=>obtain⟨e,q⟩:=x;exact⟨k _ _ (.inl rfl) e,ih q⟩
 |bY ps=>
  have e:h.get? a=some {cls:=.none,data:=.fields ps} :=x
  show h'.get? a=some {cls:=.none,data:=.fields ps}
  exact k a _ (.inl rfl) e
 |met f y=>
  have e:h.get? a=some (PySem.W.methodObj (.ref f) (.ref y)):=x
  show h'.get? a=some (PySem.W.methodObj (.ref f) (.ref y))
  exact k a _ (.inl rfl) e
 |ext φ=>obtain⟨p,⟨o,e⟩,st⟩:=x;exact⟨st _ _ p fun o q=>k _ _ (.inl rfl) q,⟨o,k _ _ (.inl rfl) e⟩,st⟩
def bM.lt (x:bM P w H h) (e:H a=some o):a<h.objs.size:=(x a o e).lt
def bM.fresh (x:bM P w H h) (e:h.objs.size<=a):H a=none:=by
 cases q:H a with
 |none=>rfl
 |some u=>exact absurd (ZaE (x.lt q) e) (ZbI _)
def bM.kept (x:bM P w H h) (k:∀b u,h.get? b=some u->h'.get? b=some u):bM P w H h':=fun a o e=>
 (x a o e).cb (fun b u _ q=>k b u q) (fun _ q=>q) fun _ _ q=>q
def bM.laid (x:bM P w H h) (k:∀b u,h.get? b=some u->h'.get? b=some u) (hp:h.objs.size<=a) (new:bw P w (upd H a o) h' a o):bM P w (upd H a o) h':=fun b u e=>by
 have hn:=x.fresh hp
 by_cases hb:b=a
 ·subst hb;rw[Ze]at e;cases e;exact new
 ·rw[Zg hb]at e
  exact(x b u e).cb (fun c v _ q=>k c v q) (fun c q=>by rw[Zg (Zi q hn)];exact q) fun c xs q=>by rw[Zg (Zi q hn)];exact q
end
def Rd (H:Hp) (a:Addr) (u:HO):Prop:=H a=some u∨∃o,H a=some (.cJ o u)
def Rd.ok (r:Rd H a u) (x:bM P w H h):bw P w H h a u:=by
 rcases r with r |⟨o,r⟩
 ·exact x a u r
 ·obtain⟨_,q⟩:=x a _ r
  exact q
def tV:Option HO->Prop
 |some (.lst _)=>True
 |some (.dK _)=>True
 |some (.dT _)=>True
 |some (.set _ _)=>True
 |some (.ins _ _ _)=>True
 |some (.ext _)=>True
 |_=>False
section
variable {P:Program}{w:World}{H:Hp}{h h':Heap}{x e:Addr}{o':HO}
def bM.write (ok:bM P w H h) (mu:tV (H x)) (he:e=x∨H e=some (.own x)) (k:∀b u,b≠e->h.get? b=some u->h'.get? b=some u) (qt:∃u,h'.get? e=some u)
  (new:bw P w (upd H x o') h' x o'):bM P w (upd H x o') h':=fun b u q=>by
 have Ds:∀c y,H c=some (.own y)->c≠x:=fun c y r z=>by subst z;rw[r]at mu;exact mu
 have Nm:∀c xs,H c=some (.tup xs)->c≠x:=fun c xs r z=>by subst z;rw[r]at mu;exact mu
 by_cases hb:b=x
 ·subst hb;rw[Ze]at q;cases q;exact new
 ·rw[Zg hb]at q
  by_cases jO:b=e
  ·have q':H b=some (.own x):=by
    rcases he with z |z
    ·exact absurd (jO.trans z) hb
    ·rw[jO];exact z
   rw[q]at q';cases q'
   obtain⟨v,hv⟩:=qt
   exact⟨v,by rw[jO];exact hv⟩
  ·refine(ok b u q).cb (fun c v hc r=>k c v ?_ r) (fun c r=>by rw[Zg (Ds c b r)];exact r) fun c xs r=>by rw[Zg (Nm c xs r)];exact r
   rcases hc with rfl |hc
   ·exact jO
   ·rintro rfl
    rcases he with z |z
    ·exact Ds c b hc z
    ·rw[hc]at z;cases z;exact hb rfl
end
structure Un (fs ex:List Addr) (H H':Hp) (h h':Heap):Prop where
 keep:∀b o,h.get? b=some o->H b=none->b∉fs->b∉ex->h'.get? b=some o
 slot:∀b o,h.get? b=some o->H b=none->b∈fs->b∉ex->∃sl,h'.get? b=some {o with slots:=sl}
 free:∀b o,h.get? b=some o->H b=none->b∉ex->H' b=none
 there:∀b o,h.get? b=some o->b∉ex->∃o',h'.get? b=some o'
 eK:∀b xs,H b=some (.tup xs)->H' b=some (.tup xs)
 eJ:∀b o u,H b=some (.cJ o u)->H' b=some (.cJ o u)
 dY:∀b ps,H b=some (.bY ps)->∃more,H' b=some (.bY (ps++more))
section
variable {fs oE ex FH:List Addr}{H H1 H2:Hp}{h h1 h2 h':Heap}{a x e:Addr}{o:HO}
def Un.any (u:Un fs ex H H1 h h1) (q:h.get? b=some ob) (n:H b=none) (hx:b∉ex):∃sl,h1.get? b=some {ob with slots:=sl} :=by
 by_cases hb:b∈fs
 ·exact u.slot b ob q n hb hx
 ·exact⟨ob.slots,u.keep b ob q n hb hx⟩
def Un.trans (a:Un fs ex H H1 h h1) (b:Un fs ex H1 H2 h1 h2):Un fs ex H H2 h h2 where
 keep:=fun c ob q n hc hx=>b.keep c ob (a.keep c ob q n hc hx) (a.free c ob q n hx) hc hx
 slot:=fun c ob q n hc hx=>by
  obtain⟨sl,e1⟩:=a.slot c ob q n hc hx
  obtain⟨pH,e2⟩:=b.slot c _ e1 (a.free c ob q n hx) hc hx
  exact⟨pH,e2⟩
 free:=fun c ob q n hx=>by
  obtain⟨o',e1⟩:=a.there c ob q hx
  exact b.free c o' e1 (a.free c ob q n hx) hx
 there:=fun c ob q hx=>by
  obtain⟨o',e1⟩:=a.there c ob q hx
  exact b.there c o' e1 hx
 eK:=fun c xs q=>b.eK c xs (a.eK c xs q)
 eJ:=fun c ob xs q=>b.eJ c ob xs (a.eJ c ob xs q)
 dY:=fun c ps q=>by
  obtain⟨m1,e1⟩:=a.dY c ps q
  obtain⟨m2,e2⟩:=b.dY c _ e1
  exact⟨m1++m2,by rw[e2,ZfW]⟩
def Un.kept (k:∀b u,h.get? b=some u->h'.get? b=some u):Un fs ex H H h h':=
 ⟨fun b ob q _ _ _=>k b ob q,fun b ob q _ _ _=> ⟨ob.slots,k b ob q⟩,fun _ _ _ n _=>n,fun b ob q _=> ⟨ob,k b ob q⟩,fun _ _ q=>q,fun _ _ _ q=>q,fun _ ps q=> ⟨#[],by rw[q];simp⟩⟩
def Un.refl:Un fs ex H H h h:=Un.kept fun _ _ q=>q
def Un.laid (k:∀b u,h.get? b=some u->h'.get? b=some u) (hp:h.objs.size<=a) (hn:H a=none):Un fs ex H (upd H a o) h h' where
 keep:=fun b u q _ _ _=>k b u q
 slot:=fun b u q _ _ _=> ⟨u.slots,k b u q⟩
 free:=fun b u q n _=>by rw[Zg (ZaO (ZaE (Zar q) hp))];exact n
 there:=fun b u q _=> ⟨u,k b u q⟩
 eK:=fun b xs q=>by rw[Zg (Zi q hn)];exact q
 eJ:=fun b u xs q=>by rw[Zg (Zi q hn)];exact q
 dY:=fun b ps q=> ⟨#[],by rw[Zg (Zi q hn),q];simp⟩
def Un.write (mu:tV (H x)) (he:e=x∨H e=some (.own x)) (k:∀b u,b≠e->h.get? b=some u->h'.get? b=some u) (qt:∃u,h'.get? e=some u):Un fs ex H (upd H x o) h h':=by
 have hx:∀b,H b=none->b≠x:=fun b n z=>by subst z;rw[n]at mu;exact mu
 have hb:∀b,H b=none->b≠e:=fun b n z=>by
  subst z
  rcases he with r |r
  ·exact hx b n r
  ·rw[n]at r;cases r
 have hm:∀b u,H b=some u->¬tV (some u)->b≠x:=fun b u q nm z=>by subst z;rw[q]at mu;exact nm mu
 refine⟨fun b u q n _ _=>k b u (hb b n) q,fun b u q n _ _=> ⟨u.slots,k b u (hb b n) q⟩,fun b u q n _=>by rw[Zg (hx b n)];exact n,fun b u q _=> ?_,
  fun b xs q=>by rw[Zg (hm b _ q fun z=>z)];exact q,fun b u xs q=>by rw[Zg (hm b _ q fun z=>z)];exact q,fun b ps q=> ⟨#[],by rw[Zg (hm b _ q fun z=>z),q];simp⟩⟩
 by_cases jO:b=e
 ·subst jO;exact qt
 ·exact⟨u,k b u jO q⟩
def Un.mono (u:Un fs ex H H1 h h1) (hs:∀b∈fs,b∈oE) (hx:∀b∈ex,b∈FH):Un oE FH H H1 h h1:=
 ⟨fun b ob q n hb he=>u.keep b ob q n (fun z=>hb (hs b z)) fun z=>he (hx b z),fun _ _ q n _ he=>u.any q n fun z=>he (hx _ z),fun b ob q n he=>u.free b ob q n fun z=>he (hx b z),fun b ob q he=>u.there b ob q fun z=>he (hx b z),u.eK,u.eJ,u.dY⟩
end
def cF (h:Heap) (H:Hp):List Addr:=(List.range h.objs.size).filter fun a=> (H a).isSome
def iK (h:Heap) (H:Hp):Heap:=PySem.W.hideAll h (cF h H)
def UC (h:Heap) (H:Hp):(iK h H).objs.size=h.objs.size:=ZgS _ _
def II {h:Heap}(e:h.get? b=some o) (n:H b=none):(iK h H).get? b=some o:=
 Ze2 _ e fun hm=>by
  have q:(H b).isSome=true:=(ZbM.mp hm).2
  rw[n]at q;simp at q
def HL {h:Heap}(e:(iK h H).get? b=some o):h.get? b=some o/\H b=none:=by
 have e':h.get? b=some o:=Zeb (cF h H) e
 refine⟨e',?_⟩
 cases q:H b with
 |none=>rfl
 |some x=>
  have hm:b∈cF h H:=ZbM.mpr ⟨Zbt.mpr (Zar e'),by simp[q]⟩
  have z:(iK h H).get? b=none:=ZfF (cF h H) hm
  rw[z]at e;cases e
def Tn (g h:Heap) (L:Addr):List (Addr×Obj):=(List.range h.objs.size).filterMap fun a=>if a=L∨(g.get? a).isSome=true then none else (h.get? a).map fun o=> (a,o)
def rest (g h:Heap) (L d:Addr):List (Addr×Obj):=(Tn g h L).filter fun p=>decide (p.1≠d)
structure Mod (K:Zht) (mg:Str->Option Value) (base:Heap):Prop where
 nJ:K.In base
 glob:base.Ns mainGlobals mg
 blt:∃mb,base.Ns builtinsNs mb/\∀x:Str,x≠ "__name__" ->mb x=bootBuiltins x
 nolimit:base.NoLimit
structure Cx where
 prog:Program
 w:World
 K:Zht
 mg:Str->Option Value
 base:Heap
 A:Around
 N:List Str
 cK:Shared
 lC:Hp
 env:Env
 outer:List Env
 stack:List Env
 ex:List Addr
 fn:Str->Bool
 calm:Bool
 pn:List (Addr×Obj)
 xe:Value->Shared->Prop
def aR (l:List Env):List Addr:=l.filterMap (·.frame)
abbrev Cx.fs (X:Cx):List Addr:=aR X.outer
def tP (sc:Scope) (x:Str):Prop:=sc.names.lookup x=some .local∨sc.names.lookup x=some .cell∨sc.names.lookup x=some .free
def Loc (sc:Scope) (x:Str):Prop:=sc.names.lookup x=some .local∨sc.names.lookup x=some .cell
def Look (env:Env) (h:Heap) (m:Str->Option Value) (x:Str) (u:Value):Prop:=
 (env.kindOf x=some .local/\m x=some u)∨((env.kindOf x=some .cell∨env.kindOf x=some .free)/\∃c,env.cells.lookup x=some c/\h.IsCell c (some u))
structure Cx.Ok (X:Cx):Prop where
 mod:Mod X.K X.mg X.base
 kind:X.env.scope.kind=.function
 glob:X.env.globals=mainGlobals
 blt:X.env.builtins=builtinsNs
 above:X.cK.heap.objs.size<=X.env.locals
 inj:∀x y c,X.env.cells.lookup x=some c->X.env.cells.lookup y=some c->x=y
 has:∀x,(X.env.kindOf x=some .cell∨X.env.kindOf x=some .free)->∃c,X.env.cells.lookup x=some c
 kX:∀x c,X.fn x=true->X.env.cells.lookup x=some c->X.cK.heap.objs.size<=c
 hd:X.calm=true->X.A.handled=none
 frames:X.A.frames=some X.stack
 mZ:X.stack=X.outer∨(X.stack=X.env::X.outer/\X.env.frame=some X.env.locals)
 kW:∀b∈X.ex,b≠X.env.locals/\∀x c,X.env.cells.lookup x=some c->c≠b
 bs:∀b o,X.base.get? b=some o->X.cK.heap.get? b=some o/\X.lC b=none
 jy:X.base.objs.size<=X.cK.heap.objs.size
 lO:∀b o,X.base.get? b=some o->b∉X.ex
 kU:∀b∈X.ex,b∉X.fs
 eI:X.cK.heap.FunFrames X.base X.outer
 gL:∀b∈X.fs,X.lC b=none
structure Inv (X:Cx) (pins:List (Addr×Obj)) (σ:List (Option V)) (H:Hp) (s:Shared):Prop where
 ok:X.Ok
 os:s.os=X.cK.os
 bare:AllBare s.gens
 base:Un X.fs X.ex X.lC H X.cK.heap s.heap
 loc:∃m,s.heap.Ns X.env.locals m/\∀(i:Nat) (x:Str) (v:V),X.N[i]? =some x->σ[i]? =some (some v)->tP X.env.scope x->∃u,RelV v u/\Look X.env s.heap m x u
 cell:∀x c,X.env.cells.lookup x=some c->∃v,s.heap.IsCell c v
 free:H X.env.locals=none
 gk:∀x c,X.env.cells.lookup x=some c->H c=none
 pin:∀p∈X.pn++pins,s.heap.get? p.1=some p.2/\H p.1=none/\p.1≠X.env.locals/\p.1∉X.fs/\∀v,p.2.data≠.cell v
 ai:bM X.prog X.w H s.heap
 len:σ.length=X.N.length
section
variable {X:Cx}{pins:List (Addr×Obj)}{σ:List (Option V)}{H H':Hp}{s:Shared}{h':Heap}
def Cx.Ok.Nu (ok:X.Ok) (e:X.base.get? b=some o):b∉X.fs:=fun hb=>by
 have:=(ok.eI.mem hb).1
 rw[e]at this;cases this
def Inv.bs (I:Inv X pins σ H s):∀b o,X.base.get? b=some o->s.heap.get? b=some o/\H b=none:=fun b o e=>
 ⟨I.base.keep b o (I.ok.bs b o e).1 (I.ok.bs b o e).2 (I.ok.Nu e) (I.ok.lO b o e),I.base.free b o (I.ok.bs b o e).1 (I.ok.bs b o e).2 (I.ok.lO b o e)⟩
def Inv.bk (I:Inv X pins σ H s):∀b o,X.base.get? b=some o->s.heap.get? b=some o:=fun b o e=> (I.bs b o e).1
def Inv.mod (I:Inv X pins σ H s):Mod X.K X.mg X.base:=I.ok.mod
def Inv.cD (I:Inv X pins σ H s):X.K.In s.heap:=I.ok.mod.nJ.keeps I.bk
def Inv.lt (I:Inv X pins σ H s):X.env.locals<s.heap.objs.size:=let ⟨_,hn,_⟩:=I.loc;hn.lt
def Inv.sz (I:Inv X pins σ H s):X.cK.heap.objs.size<=s.heap.objs.size:=Zcd I.ok.above (Zec I.lt)
def Inv.Nr (I:Inv X pins σ H s) (h:s.heap.objs.size<=a):a∉X.fs:=fun hb=>by
 obtain⟨_,o,ho,_⟩:=I.ok.eI.mem hb
 exact absurd (ZaE (Zar ho) (Zcd I.sz h)) (ZbI _)
def Inv.iO (I:Inv X pins σ H s):∀x c,X.env.cells.lookup x=some c->c≠X.env.locals:=fun x c e z=>by
 obtain⟨v,o,ho,hd⟩:=I.cell x c e
 obtain⟨m,⟨o',es,ep,dc,jj,_⟩,_⟩:=I.loc
 rw[z,dc]at ho;cases ho;rw[jj]at hd;cases hd
def Inv.eI (I:Inv X pins σ H s):s.heap.FunFrames X.base X.outer:=by
 have all:∀(l:List Env),(∀b∈aR l,b∈X.fs)->X.cK.heap.FunFrames X.base l->s.heap.FunFrames X.base l:=by
  intro l
  induction l with
  |nil=>intro _ _;trivial
  |cons env r ih=>
   intro hs hl
   obtain⟨hk,⟨L,o,hf,hn,ho,hd⟩,hr⟩:=hl
   have hL:L∈X.fs:=hs L (by unfold aR;rw[ZdW,hf];exact Zau)
   obtain⟨sl,e⟩:=I.base.slot L o ho (I.ok.gL L hL) hL fun z=>I.ok.kU L z hL
   exact⟨hk,⟨L,_,hf,hn,e,hd⟩,ih (fun b hb=>hs b (by unfold aR;rw[ZdW,hf];exact Zap _ hb)) hr⟩
 exact all X.outer (fun _ hb=>hb) I.ok.eI
def Inv.stack (I:Inv X pins σ H s):s.heap.FunFrames X.base X.stack:=by
 rcases I.ok.mZ with e |⟨e,hf⟩
 ·rw[e];exact I.eI
 ·rw[e]
  obtain⟨m,hn,_⟩:=I.loc
  refine .cons (by rw[I.ok.kind];decide) hf hn ?_ I.eI
  exact ZfG (Zcd I.ok.jy I.ok.above)
def Inv.uF (I:Inv X pins σ H s):∀b∈aR X.stack,b∈X.env.locals::X.fs:=fun b hb=>by
 rcases I.ok.mZ with e |⟨e,hf⟩
 ·rw[e]at hb;exact Zap _ hb
 ·rw[e]at hb
  unfold aR at hb
  rw[ZdW,hf]at hb
  exact hb
def Inv.q0 (I:Inv X pins σ H s):∀b∈aR X.stack,H b=none:=fun b hb=>by
 rcases Zao.mp (I.uF b hb) with e |hb
 ·rw[e];exact I.free
 ·obtain⟨_,o,ho,_⟩:=I.ok.eI.mem hb
  exact I.base.free b o ho (I.ok.gL b hb) fun z=>I.ok.kU b z hb
def Inv.step {g':Array GenState}{t':Nat}{d':Drawn}{ch:List Addr}(I:Inv X pins σ H s)
  (jM:∀b∈ch,(b∈X.ex∨X.cK.heap.objs.size<=b)/\b≠X.env.locals/\(∀x c,X.env.cells.lookup x=some c->c≠b)/\∀p∈X.pn++pins,p.1≠b)
  (keep:∀b o,b≠X.env.locals->b∉X.fs->b∉ch->s.heap.get? b=some o->H b=none->h'.get? b=some o)
  (slot:∀b o,b≠X.env.locals->b∈X.fs->b∉ch->s.heap.get? b=some o->H b=none->∃sl,h'.get? b=some {o with slots:=sl}) (free:∀b o,b∉ch->s.heap.get? b=some o->H b=none->H' b=none)
  (there:∀b o,b∉ch->s.heap.get? b=some o->∃o',h'.get? b=some o')
  (eK:∀b xs,H b=some (.tup xs)->H' b=some (.tup xs)) (eJ:∀b o u,H b=some (.cJ o u)->H' b=some (.cJ o u)) (dY:∀b ps,H b=some (.bY ps)->∃more,H' b=some (.bY (ps++more)))
  (ns:∀m,s.heap.Ns X.env.locals m->h'.Ns X.env.locals m) (ai:bM X.prog X.w H' h') (hg:AllBare g'):
  Inv X pins σ H' {s with heap:=h',gens:=g',drawn:=d',toks:=t'} :=by
 have nE:∀b o,X.cK.heap.get? b=some o->b≠X.env.locals:=fun b o e=>ZaO (ZaE (Zar e) I.ok.above)
 have fo:∀b o,X.cK.heap.get? b=some o->b∉X.ex->b∉ch:=fun b o e hx hb=>by
  rcases (jM b hb).1 with z |z
  ·exact hx z
  ·exact absurd (ZaE (Zar e) z) (ZbI _)
 have cellK:∀x c,X.env.cells.lookup x=some c->∀v,s.heap.IsCell c v->h'.IsCell c v:=fun x c e v ⟨o,ho,hd⟩=>by
  have rS:c∉ch:=fun z=> (jM c z).2.2.1 x c e rfl
  by_cases hc:c∈X.fs
  ·obtain⟨sl,q⟩:=slot c o (I.iO x c e) hc rS ho (I.gk x c e)
   exact⟨_,q,hd⟩
  ·exact⟨o,keep c o (I.iO x c e) hc rS ho (I.gk x c e),hd⟩
 refine⟨I.ok,I.os,hg,⟨fun b o e n hb hx=> ?_,fun b o e n hb hx=> ?_,fun b o e n hx=> ?_,fun b o e hx=> ?_,fun b xs e=>eK b xs (I.base.eK b xs e),fun b o xs e=>eJ b o xs (I.base.eJ b o xs e),fun b ps e=> ?_⟩,?_,fun x c e=> ?_,?_,fun x c e=> ?_,fun p hp=> ?_,ai,I.len⟩
 ·exact keep b o (nE b o e) hb (fo b o e hx) (I.base.keep b o e n hb hx) (I.base.free b o e n hx)
 ·obtain⟨sl,e1⟩:=I.base.slot b o e n hb hx
  obtain⟨pH,e2⟩:=slot b _ (nE b o e) hb (fo b o e hx) e1 (I.base.free b o e n hx)
  exact⟨pH,e2⟩
 ·obtain⟨o',e1⟩:=I.base.there b o e hx
  exact free b o' (fo b o e hx) e1 (I.base.free b o e n hx)
 ·obtain⟨o',e1⟩:=I.base.there b o e hx
  exact there b o' (fo b o e hx) e1
 ·obtain⟨m1,e1⟩:=I.base.dY b ps e
  obtain⟨m2,e2⟩:=dY b _ e1
  exact⟨m1++m2,by rw[e2,ZfW]⟩
 ·obtain⟨m,hn,hl⟩:=I.loc
  refine⟨m,ns m hn,fun i x v e1 e2 e3=> ?_⟩
  obtain⟨u,r,l⟩:=hl i x v e1 e2 e3
  refine⟨u,r,?_⟩
  rcases l with l |⟨k,c,e,z⟩
  ·exact .inl l
  ·exact .inr ⟨k,c,e,cellK x c e _ z⟩
 ·obtain⟨v,z⟩:=I.cell x c e
  exact⟨v,cellK x c e v z⟩
 ·obtain⟨m,⟨o,_,_,ho,_⟩,_⟩:=I.loc
  exact free _ o (fun z=> (jM _ z).2.1 rfl) ho I.free
 ·obtain⟨v,o,ho,hd⟩:=I.cell x c e
  exact free c o (fun z=> (jM c z).2.2.1 x c e rfl) ho (I.gk x c e)
 ·obtain⟨e,n,ne,nf,d⟩:=I.pin p hp
  have rS:p.1∉ch:=fun z=> (jM p.1 z).2.2.2 p hp rfl
  exact⟨keep p.1 p.2 ne nf rS e n,free p.1 p.2 rS e n,ne,nf,d⟩
def Inv.un {t':Nat}(I:Inv X pins σ H s) (u:Un X.fs [] H H' s.heap h') (ai:bM X.prog X.w H' h'):Inv X pins σ H' {s with heap:=h',toks:=t'} :=by
 obtain⟨m,⟨o,es,ep,ho,r⟩,_⟩:=id I.loc
 obtain⟨sl,hL⟩:=u.any ho I.free (by simp)
 exact I.step (g':=s.gens) (d':=s.drawn) (ch:=[]) (fun _ z=>nomatch z) (fun b o _ hb _ e n=>u.keep b o e n hb (by simp)) (fun b o _ hb _ e n=>u.slot b o e n hb (by simp)) (fun b o _ e n=>u.free b o e n (by simp)) (fun b o _ e=>u.there b o e (by simp)) u.eK u.eJ u.dY (fun m' hm=>by
  obtain⟨o',hJ,Bd,dc,r'⟩:=hm
  rw[ho]at dc;cases dc
  exact⟨_,hJ,Bd,hL,r'⟩) ai I.bare
def Inv.call {g':Array GenState}{t':Nat}{d':Drawn}{ch:List Addr}(I:Inv X pins σ H s) (u:Un (aR X.stack) ch H H' s.heap h') (ai:bM X.prog X.w H' h') (hg:AllBare g')
  (jM:∀b∈ch,(b∈X.ex∨X.cK.heap.objs.size<=b)/\b≠X.env.locals/\(∀x c,X.env.cells.lookup x=some c->c≠b)/\∀p∈X.pn++pins,p.1≠b):
  Inv X pins σ H' {s with heap:=h',gens:=g',drawn:=d',toks:=t'} :=by
 obtain⟨m,⟨o,es,ep,ho,r⟩,_⟩:=id I.loc
 obtain⟨sl,hL⟩:=u.any ho I.free fun z=> (jM _ z).2.1 rfl
 exact I.step (ch:=ch) jM (fun b o hL hb hc e n=>u.keep b o e n (fun z=> (Zao.mp (I.uF b z)).elim hL hb) hc) (fun b o _ _ hc e n=>u.any e n hc) (fun b o hc e n=>u.free b o e n hc) (fun b o hc e=>u.there b o e hc) u.eK u.eJ u.dY (fun m' hm=>by
  obtain⟨o',hJ,Bd,dc,r'⟩:=hm
  rw[ho]at dc;cases dc
  exact⟨_,hJ,Bd,hL,r'⟩) ai hg
def Inv.turned {t':Nat}{it:Addr}(I:Inv X pins σ H s) (k:∀b o,b≠it->s.heap.get? b=some o->h'.get? b=some o) (hn:H it=none) (hL:it≠X.env.locals)
  (h1:it∈X.ex∨X.cK.heap.objs.size<=it) (h2:∀x c,X.env.cells.lookup x=some c->c≠it) (h3:∀p∈X.pn++pins,p.1≠it):Inv X pins σ H {s with heap:=h',toks:=t'} :=by
 have DB:∀b u,H b=some u->b≠it:=fun b u e z=>by rw[z,hn]at e;cases e
 refine I.step (g':=s.gens) (d':=s.drawn) (ch:=[it]) (fun b hb=> ?_) (fun b o _ _ hc e _=>k b o (fun z=>hc (by simp[z])) e) (fun b o _ _ hc e _=> ⟨o.slots,k b o (fun z=>hc (by simp[z])) e⟩) (fun _ _ _ _ n=>n)
  (fun b o hc e=> ⟨o,k b o (fun z=>hc (by simp[z])) e⟩) (fun _ _ e=>e) (fun _ _ _ e=>e) (fun b ps e=> ⟨#[],by rw[e];simp⟩) (fun m hm=> ?_) (fun b u e=> ?_) I.bare
 ·have e:b=it:=by simpa using hb
  subst e
  exact⟨h1,hL,h2,h3⟩
 ·obtain⟨o,es,ep,ho,r⟩:=hm
  exact⟨o,es,ep,k _ o (ZdL hL) ho,r⟩
 ·refine(I.ai b u e).cb (fun c v hc q=>k c v ?_ q) (fun _ q=>q) fun _ _ q=>q
  rcases hc with z |z
  ·rw[z];exact DB b u e
  ·exact DB c _ z
def Inv.tok (I:Inv X pins σ H s) (t:Nat):Inv X pins σ H {s with toks:=t} :=I.un (h':=s.heap) (t':=t) Un.refl I.ai
def Inv.kept {t':Nat}(I:Inv X pins σ H s) (k:∀b u,s.heap.get? b=some u->h'.get? b=some u):Inv X pins σ H {s with heap:=h',toks:=t'} :=I.un (Un.kept k) (I.ai.kept k)
def Inv.laid {t':Nat}(I:Inv X pins σ H s) (k:∀b u,s.heap.get? b=some u->h'.get? b=some u) (hp:s.heap.objs.size<=a) (new:bw X.prog X.w (upd H a o) h' a o):
  Inv X pins σ (upd H a o) {s with heap:=h',toks:=t'} :=I.un (Un.laid k hp (I.ai.fresh hp)) (I.ai.laid k hp new)
def Inv.write {t':Nat}(I:Inv X pins σ H s) (mu:tV (H x)) (he:e=x∨H e=some (.own x)) (k:∀b u,b≠e->s.heap.get? b=some u->h'.get? b=some u) (qt:∃u,h'.get? e=some u)
  (new:bw X.prog X.w (upd H x o) h' x o):Inv X pins σ (upd H x o) {s with heap:=h',toks:=t'} :=I.un (Un.write mu he k qt) (I.ai.write mu he k qt new)
def Inv.Dh (I:Inv X pins σ H s) (h:∀p∈Di,s.heap.get? p.1=some p.2/\H p.1=none/\p.1≠X.env.locals/\p.1∉X.fs/\∀v,p.2.data≠.cell v):Inv X Di σ H s:=
 ⟨I.ok,I.os,I.bare,I.base,I.loc,I.cell,I.free,I.gk,fun p hp=> (ZaL.mp hp).elim (fun z=>I.pin p (Za7 _ z)) (h p),I.ai,I.len⟩
def WB {N:List Str}(hN:N.Nodup) {i j:Nat}{x:Str}(a:N[i]? =some x) (b:N[j]? =some x):i=j:=by
 obtain⟨h1,e1⟩:=Zab.mp a
 obtain⟨h2,e2⟩:=Zab.mp b
 exact(List.getElem_inj hN).mp (e1.trans e2.symm)
def Uo {M:Model}{A:Around}{E:Value->Shared->Prop}{i:Nat}{x:Str}{v:V}{u:Value}{Q:Unit->Shared->Prop}(I:Inv X pins σ H s) (hN:X.N.Nodup) (hi:X.N[i]? =some x) (hx:Loc X.env.scope x) (r:RelV v u)
  (h:∀s',Inv X pins (σ.set i (some v)) H s'->(∃a,Heap.SameBut a s.heap s'.heap/\(a=X.env.locals∨X.env.cells.lookup x=some a))->Q () s') (hf:X.fn x=true∨X.env.scope.names.lookup x=some .local:=by first |exact .inl rfl |exact .inr rfl |assumption):wpAny M A (storeName X.env x u) Q E s:=by
 obtain⟨m,hn,hl⟩:=id I.loc
 have AQ:(X.env.scope.kind==.class||(X.env.scope.kind==.module&&X.env.locals !=X.env.globals))=false:=by rw[I.ok.kind];rfl
 have EK:i<σ.length:=by rw[I.len];exact(Zab.mp hi).1
 have iO:=I.iO
 have tracked:∀{a:Addr}{h':Heap},(∃o,s.heap.get? a=some o/\H a=none)->Heap.SameBut a s.heap h'->bM X.prog X.w H h':=fun {a h'} ha hs b ob e=>by
  obtain⟨_,_,EN⟩:=ha
  refine(I.ai b ob e).cb (fun c w' hc q=> (hs.2 c ?_).trans q) (fun _ q=>q) fun _ _ q=>q
  rintro rfl
  rcases hc with rfl |hc
  ·rw[EN]at e;cases e
  ·rw[EN]at hc;cases hc
 rcases hx with hk |hk
 ·refine wpAny_storeName_local hk hn (fun h' sI hs=> ?_) AQ
  obtain⟨oL,_,_,hoL,_⟩:=id hn
  refine h _ ⟨I.ok,I.os,I.bare,⟨fun b o e n hb hx=> ?_,fun b o e n hb hx=> ?_,I.base.free,fun b o e hx=> ?_,I.base.eK,I.base.eJ,I.base.dY⟩,⟨_,sI,fun j y v' e1 e2 e3=> ?_⟩,fun y c e=> ?_,I.free,I.gk,fun p hp=> ?_,tracked ⟨oL,hoL,I.free⟩ hs,by simpa using I.len⟩ ⟨_,hs,.inl rfl⟩
  ·exact(hs.2 b (ZaO (ZaE (Zar e) I.ok.above))).trans (I.base.keep b o e n hb hx)
  ·obtain⟨sl,e1⟩:=I.base.slot b o e n hb hx
   exact⟨sl,(hs.2 b (ZaO (ZaE (Zar e) I.ok.above))).trans e1⟩
  ·obtain⟨o',e1⟩:=I.base.there b o e hx
   exact⟨o',(hs.2 b (ZaO (ZaE (Zar e) I.ok.above))).trans e1⟩
  ·by_cases hj:j=i
   ·subst hj
    rw[hi]at e1;cases e1
    rw[ZdZ EK]at e2
    cases e2
    exact⟨u,r,.inl ⟨hk,by simp⟩⟩
   ·rw[Zem (ZdL hj)]at e2
    obtain⟨u',r',q⟩:=hl j y v' e1 e2 e3
    refine⟨u',r',?_⟩
    rcases q with ⟨k,e⟩ |⟨k,c,e,z⟩
    ·refine .inl ⟨k,?_⟩
     have:y≠x:=fun e=>hj (WB hN e1 (e▸hi))
     simp[this,e]
    ·exact .inr ⟨k,c,e,z.sameBut hs (iO y c e)⟩
  ·obtain⟨w',z⟩:=I.cell y c e
   exact⟨w',z.sameBut hs (iO y c e)⟩
  ·obtain⟨e,n,ne,nf,d⟩:=I.pin p hp
   exact⟨(hs.2 p.1 ne).trans e,n,ne,nf,d⟩
 ·have fG:X.fn x=true:=by
   rcases hf with z |z
   ·exact z
   ·rw[z]at hk;cases hk
  obtain⟨c,hc⟩:=I.ok.has x (.inl hk)
  obtain⟨w',z⟩:=I.cell x c hc
  refine wpAny_storeName_cell I.ok.kind hk hc z (fun h' bH hs=> ?_)
  obtain⟨oc,Eu,Pn⟩:=id z
  refine h {s with heap:=h'} ⟨I.ok,I.os,I.bare,⟨fun b o e n hb hx=> ?_,fun b o e n hb hx=> ?_,I.base.free,fun b o e hx=> ?_,I.base.eK,I.base.eJ,I.base.dY⟩,⟨m,hn.sameBut hs (ZdL (iO x c hc)),fun j y v' e1 e2 e3=> ?_⟩,fun y c' e=> ?_,I.free,I.gk,fun p hp=> ?_,tracked ⟨oc,Eu,I.gk x c hc⟩ hs,by simpa using I.len⟩ ⟨c,hs,.inr hc⟩
  ·exact(hs.2 b (ZaO (ZaE (Zar e) (I.ok.kX x c fG hc)))).trans (I.base.keep b o e n hb hx)
  ·obtain⟨sl,e1⟩:=I.base.slot b o e n hb hx
   exact⟨sl,(hs.2 b (ZaO (ZaE (Zar e) (I.ok.kX x c fG hc)))).trans e1⟩
  ·obtain⟨o',e1⟩:=I.base.there b o e hx
   exact⟨o',(hs.2 b (ZaO (ZaE (Zar e) (I.ok.kX x c fG hc)))).trans e1⟩
  ·by_cases hj:j=i
   ·subst hj
    rw[hi]at e1;cases e1
    rw[ZdZ EK]at e2
    cases e2
    exact⟨u,r,.inr ⟨.inl hk,c,hc,bH⟩⟩
   ·rw[Zem (ZdL hj)]at e2
    obtain⟨u',r',q⟩:=hl j y v' e1 e2 e3
    refine⟨u',r',?_⟩
    rcases q with q |⟨k,c',e,z'⟩
    ·exact .inl q
    ·refine .inr ⟨k,c',e,z'.sameBut hs ?_⟩
     rintro rfl
     exact hj (WB hN e1 (I.ok.inj _ _ _ e hc▸hi))
  ·by_cases jN:c'=c
   ·subst jN;exact⟨_,bH⟩
   ·obtain⟨w2,z2⟩:=I.cell y c' e
    exact⟨w2,z2.sameBut hs jN⟩
  ·obtain⟨e,n,ne,nf,d⟩:=I.pin p hp
   refine⟨(hs.2 p.1 ?_).trans e,n,ne,nf,d⟩
   intro q
   rw[q,Eu]at e
   have q':oc=p.2:=ZaQ e
   exact d w' (by rw[<-q'];exact Pn)
def YO {M:Model}{A:Around}{E:Value->Shared->Prop}(I:Inv X pins σ H s) (hN:X.N.Nodup) (hi:X.N[i]? =some x) (hx:Loc X.env.scope x) (r:RelV v u)
  (h:∀s',Inv X pins (σ.set i (some v)) H s'->Q () s') (hf:X.fn x=true∨X.env.scope.names.lookup x=some .local:=by first |exact .inl rfl |exact .inr rfl |assumption):wpAny M A (storeName X.env x u) Q E s:=
 Uo I hN hi hx r (fun s' I' _=>h s' I') hf
def Inv.Bn {s':Shared}(I:Inv X pins σ H s) (ho:s'.os=s.os) (u:Un (aR X.stack) ch H H' s.heap s'.heap) (ai:bM X.prog X.w H' s'.heap) (hg:AllBare s'.gens)
  (jM:∀b∈ch,(b∈X.ex∨X.cK.heap.objs.size<=b)/\b≠X.env.locals/\(∀x c,X.env.cells.lookup x=some c->c≠b)/\∀p∈X.pn++pins,p.1≠b):Inv X pins σ H' s':=by
 obtain⟨h',g',d',t',o'⟩:=s'
 have e:o'=s.os:=ho
 subst e
 exact I.call (g':=g') (t':=t') (d':=d') u ai hg jM
end
abbrev XK:=Value->Option Addr->Hp->Prop
abbrev St:=List (Option V)
abbrev VK:=V->Hp->Prop
abbrev TE:=St->Hp->VK->Prop
abbrev TT:=St->Hp->(Bool->Hp->Prop)->Prop
abbrev TA:=St->Hp->(List V->Hp->Prop)->Prop
structure Ends where
 nx:St->Hp->Prop
 rt:VK
 bk:St->Hp->Prop:=fun _ _=>False
 ct:St->Hp->Prop:=fun _ _=>False
abbrev TS:=Ends->St->Hp->Prop
def EP (X:Cx) (pins:List (Addr×Obj)) (σ:St) (Q:VK) (u:Value) (s':Shared):Prop:=∃v H',Inv X pins σ H' s'/\RelV v u/\Q v H'
def TP (X:Cx) (pins:List (Addr×Obj)) (σ:St) (Q:Bool->Hp->Prop) (b:Bool) (s':Shared):Prop:=∃H',Inv X pins σ H' s'/\Q b H'
def AP (X:Cx) (pins:List (Addr×Obj)) (σ:St) (Q:List V->Hp->Prop) (us:List Value) (s':Shared):Prop:=∃vs H',Inv X pins σ H' s'/\Vals vs us/\Q vs H'
def SP (X:Cx) (pins:List (Addr×Obj)) (D:Ends) (f:Flow) (s':Shared):Prop:=
 match f with
 | .next=> ∃aj H',Inv X pins aj H' s'/\D.nx aj H'
 | .brk=> ∃aj H',Inv X pins aj H' s'/\D.bk aj H'
 | .cont=> ∃aj H',Inv X pins aj H' s'/\D.ct aj H'
 | .ret u=> ∃v aj H',Inv X pins aj H' s'/\RelV v u/\D.rt v H'
def PE (X:Cx) (e:Expr) (t:TE):Prop:=
 ∀(pins:List (Addr×Obj)) (s:Shared) (σ:St) (H:Hp) (Q:VK),Inv X pins σ H s->t σ H Q->wpAny (model X.prog X.w) X.A (eval e X.env) (EP X pins σ Q) X.xe s
def PT (X:Cx) (e:Expr) (t:TT):Prop:=
 ∀(pins:List (Addr×Obj)) (s:Shared) (σ:St) (H:Hp) (Q:Bool->Hp->Prop),Inv X pins σ H s->t σ H Q->wpAny (model X.prog X.w) X.A (isTrue e X.env (eval e X.env)) (TP X pins σ Q) X.xe s
def PW (X:Cx) (e:Expr) (t:TT):Prop:=
 ∀(whole:Sem Value) (pins:List (Addr×Obj)) (s:Shared) (σ:St) (H:Hp) (Q:Bool->Hp->Prop),Inv X pins σ H s->t σ H Q->wpAny (model X.prog X.w) X.A (isTrue e X.env whole) (TP X pins σ Q) X.xe s
def PW.pt {X:Cx}{e:Expr}{t:TT}(h:PW X e t):PT X e t:=h _
def PA (X:Cx) (es:List Expr) (t:TA):Prop:=
 ∀(pos:Pos) (pins:List (Addr×Obj)) (s:Shared) (σ:St) (H:Hp) (Q:List V->Hp->Prop),Inv X pins σ H s->t σ H Q->wpAny (model X.prog X.w) X.A (spliced (backTo pos (starEach es X.env))) (AP X pins σ Q) X.xe s
def PS (X:Cx) (st:Stmt) (t:TS):Prop:=
 ∀(pins:List (Addr×Obj)) (s:Shared) (σ:St) (H:Hp) (D:Ends),Inv X pins σ H s->t D σ H->wpAny (model X.prog X.w) X.A (exec st X.env) (SP X pins D) X.xe s
def fJ (X:Cx) (st:List Stmt) (t:TS):Prop:=
 ∀(pins:List (Addr×Obj)) (s:Shared) (σ:St) (H:Hp) (D:Ends),Inv X pins σ H s->t D σ H->wpAny (model X.prog X.w) X.A (execs st X.env) (SP X pins D) X.xe s
def aq (h:wpAny M A t Q E s) (hQ:∀a s,Q a s->Q' a s):wpAny M A t Q' E s:=Zbu h hQ fun _ _ x=>x
section
variable {X:Cx}
def kg (i:Nat):TE:=fun σ H Q=> ∃v,σ[i]? =some (some v)/\Q v H
def tC (v:V):TE:=fun _ H Q=>Q v H
def Yh {pos:Pos}(hN:X.N[i]? =some x) (hv:tP X.env.scope x) (hd:(x==("__debug__" :Str))=false:=by decide) (dh:(x==("__classdict__" :Str))=false:=by decide):PE X (.Name x pos) (kg i):=by
 intro pins s σ H Q I h
 obtain⟨v,e,h⟩:=h
 obtain⟨m,hn,hl⟩:=I.loc
 obtain⟨u,r,l⟩:=hl i x v hN e hv
 have fin:EP X pins σ Q u s:=⟨v,H,I,r,h⟩
 rcases l with ⟨hk,hm⟩ |⟨hk,c,hc,mD⟩
 ·exact wpAny_Name (wpAny_loadName_local I.ok.kind hk hn hm fin) hd
 ·rcases hk with hk |hk
  ·exact wpAny_Name (wpAny_loadName_cell I.ok.kind hk hc mD fin) hd
  ·exact wpAny_Name (wpAny_loadName_free I.ok.kind hk hc mD fin dh) hd
def Zd {i j pos} :PE X (.Constant (.int i) j pos) (tC (.int i)):=fun _ _ _ H _ I h=>wpAny_Constant_int ⟨.int i,H,I.tok _,⟨_,rfl⟩,h⟩
def Wb {b j pos} :PE X (.Constant (.bool b) j pos) (tC (.bl b)):=fun _ _ _ H _ I h=>Constant_bool ⟨.bl b,H,I,rfl,h⟩
def Yn {j pos} :PE X (.Constant .none j pos) (tC .af):=fun _ _ _ H _ I h=>Constant_none ⟨.af,H,I,rfl,h⟩
def ZS {x j pos} :PE X (.Constant (.str x) j pos) (tC (.str x)):=fun _ _ _ H _ I h=>Calls.Constant_str ⟨.str x,H,I.tok _,⟨_,rfl⟩,h⟩
def Gl (X:Cx) (x:Str):Prop:=X.env.kindOf x=some .globalImplicit
def Je {E:Value->Shared->Prop}{pos:Pos}(I:Inv X pins σ H s) (hg:Gl X x) (hm:X.mg x=some u) (h:Q u s)
  (hd:(x==("__debug__" :Str))=false:=by decide):wpAny (model X.prog X.w) X.A (eval (.Name x pos) X.env) Q E s:=
 ZfT I.ok.kind hg (Calls.loadGlobal_global (by rw[I.ok.glob];exact I.mod.glob.keeps I.bk) hm h) hd
def YD {E:Value->Shared->Prop}{pos:Pos}(I:Inv X pins σ H s) (hg:Gl X x) (hm:X.mg x=none) (hv:bootBuiltins x=some u) (h:Q u s)
  (hn:x≠ "__name__" :=by decide) (hd:(x==("__debug__" :Str))=false:=by decide):wpAny (model X.prog X.w) X.A (eval (.Name x pos) X.env) Q E s:=by
 obtain⟨mb,h1,h2⟩:=I.mod.blt
 exact ZfT I.ok.kind hg (Calls.loadGlobal_builtin (by rw[I.ok.glob];exact I.mod.glob.keeps I.bk) hm (by rw[I.ok.blt];exact h1.keeps I.bk) ((h2 x hn).trans hv) h) hd
def Yi {pos:Pos}(hg:Gl X x) (hm:X.mg x=some u) (r:RelV v u) (hd:(x==("__debug__" :Str))=false:=by decide):PE X (.Name x pos) (tC v):=
 fun _ _ _ H _ I h=>Je I hg hm ⟨v,H,I,r,h⟩ hd
def ZJ {pos:Pos}(hg:Gl X x) (hm:X.mg x=none) (hv:bootBuiltins x=some u) (r:RelV v u) (hn:x≠ "__name__" :=by decide) (hd:(x==("__debug__" :Str))=false:=by decide):PE X (.Name x pos) (tC v):=
 fun _ _ _ H _ I h=>YD I hg hm hv ⟨v,H,I,r,h⟩ hn hd
variable {a b:Expr}{ta tb:TE}{pos:Pos}
def PC (X:Cx) (op:CmpOp) (a b:Expr) (t:TE):Prop:=
 ∀(pins:List (Addr×Obj)) (s:Shared) (σ:St) (H:Hp) (Q:VK),Inv X pins σ H s->t σ H Q->
  wpAny (model X.prog X.w) X.A (eval a X.env) (fun v aJ=>wpAny (model X.prog X.w) X.A (eval b X.env) (fun u pz=>wpAny (model X.prog X.w) X.A (compareOp op v u) (EP X pins σ Q) X.xe pz) X.xe aJ) X.xe s
def Dw (b:Expr) (h:op≠.In) (h2:op≠.NotIn):behindInMarks op b=false:=by
 have e1:(op==CmpOp.In)=false:=by cases op<;>first |rfl |exact absurd rfl h
 have e2:(op==CmpOp.NotIn)=false:=by cases op<;>first |rfl |exact absurd rfl h2
 cases b<;>simp[behindInMarks,e1,e2]
def La (ta:TE):TE:=fun σ H Q=>ta σ H fun x H1=>Q (.bl (decide (x=.af))) H1
def K3 (ta:TE):TE:=fun σ H Q=>ta σ H fun x H1=>Q (.bl (!decide (x=.af))) H1
def RelV.Du (r:RelV x v):(v==Value.none)=decide (x=.af):=by
 cases x with
 |af=>cases r;rfl
 |bl _=>cases r;rfl
 |int _=>obtain⟨t,rfl⟩:=r;rfl
 |str _=>obtain⟨t,rfl⟩:=r;rfl
 |iP _=>obtain⟨t,rfl⟩:=r;rfl
 |hG _=>obtain⟨t,rfl⟩:=r;rfl
 |ref _=>cases r;rfl
 |ty _=>cases r;rfl
def YL {j pos'} (ha:PE X a ta):PC X .Is a (.Constant .none j pos') (La ta):=by
 intro pins s σ H Q I h
 refine aq (ha pins s σ H _ I h) fun v s1 ⟨x,H1,I1,r1,q1⟩=> ?_
 exact Constant_none (is_none_gen ⟨.bl _,H1,I1,by rw[r1.Du];rfl,q1⟩)
def Wl {j pos'} (ha:PE X a ta):PC X .IsNot a (.Constant .none j pos') (K3 ta):=by
 intro pins s σ H Q I h
 refine aq (ha pins s σ H _ I h) fun v s1 ⟨x,H1,I1,r1,q1⟩=> ?_
 exact Constant_none (isnot_none_gen ⟨.bl _,H1,I1,by rw[r1.Du];rfl,q1⟩)
def tB (t:TE):TT:=fun σ H Q=>t σ H fun x H1=> ∃c,x=.bl c/\Q c H1
def UW (h:PC X op a b t) (h1:behindInMarks op b=false:=by first |exact Dw _ .d .d |rfl):PE X (.Compare a [op] [b] pos) t:=fun pins s σ H Q I hw=>wpAny_Compare1 (h pins s σ H Q I hw) h1
def YJ {op:CmpOp}{t:TE}(h:PC X op a b t) (h1:behindInMarks op b=false:=by first |exact Dw _ .d .d |rfl):PT X (.Compare a [op] [b] pos) (tB t):=by
 intro pins s σ H Q I hw
 refine wpAny_isTrue_Compare1 (aq (h pins s σ H _ I hw) fun v s1 h1=>aq h1 fun u s2 h2=>aq h2 fun c s3 ⟨x,H1,I1,r1,q1⟩=> ?_) h1
 obtain⟨d,rfl,q⟩:=q1
 cases r1
 exact Zds ⟨H1,I1,q⟩
def ZM {e:Expr}{t:TE}(h:PE X e t) (he:∀whole,isTrue e X.env whole=(do let v <-whole;standAt e.pos;holding [v] (truthy v)):=by intro _;rfl):PT X e (tB t):=by
 intro pins s σ H Q I hw
 refine isTrue_plain (aq (h pins s σ H _ I hw) fun v s1 ⟨x,H1,I1,r1,q1⟩=> ?_) (he _)
 obtain⟨d,rfl,q⟩:=q1
 cases r1
 exact Zds ⟨H1,I1,q⟩
variable {tA uD:TT}{rest:List Expr}
def Lq (t u:TT):TT:=fun σ H Q=>t σ H fun c H1=>if c=true then u σ H1 Q else Q false H1
def K1 (t u:TT):TT:=fun σ H Q=>t σ H fun c H1=>if c=true then Q true H1 else u σ H1 Q
def K4 (t:TT):TT:=fun σ H Q=>t σ H fun c H1=>Q (!c) H1
def UV (ha:PT X a tA):PW X (.BoolOp .And [a] pos) tA:=by
 intro wh pins s σ H Q I h
 refine isTrue_and (aq (ha pins s σ H Q I h) fun c s1 e=> ?_)
 cases c with
 |true=>exact isTrue_and_nil e
 |false=>exact e
def YI (ha:PT X a tA):PW X (.BoolOp .Or [a] pos) tA:=by
 intro wh pins s σ H Q I h
 refine isTrue_or (aq (ha pins s σ H Q I h) fun c s1 e=> ?_)
 cases c with
 |false=>exact isTrue_or_nil e
 |true=>exact e
def BL (ha:PT X a tA) (hb:PW X (.BoolOp .And (b::rest) pos) uD):PW X (.BoolOp .And (a::b::rest) pos) (Lq tA uD):=by
 intro wh pins s σ H Q I h
 refine isTrue_and (aq (ha pins s σ H _ I h) fun c s1 ⟨H1,I1,q1⟩=> ?_)
 cases c with
 |true=>exact hb wh pins s1 σ H1 Q I1 q1
 |false=>exact⟨H1,I1,q1⟩
def Jl (ha:PT X a tA) (hb:PW X (.BoolOp .Or (b::rest) pos) uD):PW X (.BoolOp .Or (a::b::rest) pos) (K1 tA uD):=by
 intro wh pins s σ H Q I h
 refine isTrue_or (aq (ha pins s σ H _ I h) fun c s1 ⟨H1,I1,q1⟩=> ?_)
 cases c with
 |true=>exact⟨H1,I1,q1⟩
 |false=>exact hb wh pins s1 σ H1 Q I1 q1
def ZZ (ha:PT X a tA):PT X (.UnaryOp .Not a pos) (K4 tA):=by
 intro pins s σ H Q I h
 exact isTrue_not (ha pins s σ H (fun c H1=>Q (!c) H1) I h)
def Lp (ta tb:TE):TE:=fun σ H Q=>ta σ H fun x H1=> ∃c,x=.bl c/\if c=true then tb σ H1 Q else Q (.bl false) H1
def K2 (ta:TE):TE:=fun σ H Q=>ta σ H fun x H1=> ∃c,x=.bl c/\Q (.bl (!c)) H1
def Yz {op}(h:PE X a t):PE X (.BoolOp op [a] pos) t:=fun pins s σ H Q I hw=>BoolOp_one (h pins s σ H Q I hw)
def YB (ha:PE X a ta) (hb:PE X (.BoolOp .And (b::rest) pos) tb):PE X (.BoolOp .And (a::b::rest) pos) (Lp ta tb):=by
 intro pins s σ H Q I h
 refine BoolOp_and (aq (ha pins s σ H _ I h) fun v s1 ⟨x,H1,I1,r1,q1⟩=> ?_)
 obtain⟨c,rfl,q1⟩:=q1
 cases r1
 refine Zds ?_
 cases c with
 |true=>exact hb pins s1 σ H1 Q I1 q1
 |false=>exact⟨.bl false,H1,I1,rfl,q1⟩
def TL (ha:PE X a ta):PE X (.UnaryOp .Not a pos) (K2 ta):=by
 intro pins s σ H Q I h
 refine UnaryOp_ (aq (ha pins s σ H _ I h) fun v s1 ⟨x,H1,I1,r1,q1⟩=> ?_)
 obtain⟨c,rfl,q1⟩:=q1
 cases r1
 exact not_of (Zds ⟨.bl (!c),H1,I1,rfl,q1⟩)
def Ct (t:TT) (ta tb:TE):TE:=fun σ H Q=>t σ H fun c H1=>if c=true then ta σ H1 Q else tb σ H1 Q
def Wu {c:Expr}(hc:PT X c tA) (ha:PE X a ta) (hb:PE X b tb):PE X (.IfExp c a b pos) (Ct tA ta tb):=by
 intro pins s σ H Q I h
 refine wpAny_IfExp (aq (hc pins s σ H _ I h) fun d s1 ⟨H1,I1,q1⟩=> ?_)
 cases d with
 |true=>exact ha pins s1 σ H1 Q I1 q1
 |false=>exact hb pins s1 σ H1 Q I1 q1
end
def ag (K:Zht) (H:Hp) (a:Addr) (xs:List V):Prop:=
 Rd H a (.lst xs)∨
  ∃(o:Obj) (its:Array Value) (n:Nat),K.lookup a=some o/\o.cls=.type "list" /\o.dict=none/\o.data=.seq its n/\its.size<=sizeLine/\Vals xs its.toList
def ah (K:Zht) (H:Hp) (a:Addr) (xs:List V):Prop:=
 Rd H a (.tup xs)∨
  (∃(o:Obj) (its:Array Value) (n:Nat),K.lookup a=some o/\o.cls=.type "tuple" /\o.data=.seq its n/\its.size<=sizeLine/\Vals xs its.toList)∨H a=some (.par xs)
def Tq:Value->Option V
 | .none=>some .af
 | .bool b=>some (.bl b)
 | .int i _=>some (.int i)
 | .str x _=>some (.str x)
 | .bytes b _=>some (.iP b)
 | .float b _=>some (.hG b)
 | .ref a=>some (.ref a)
 | .type n=>some (.ty n)
 |_=>none
def RelV.abs (r:RelV x u):Tq u=some x:=by
 cases x with
 |af=>cases r;rfl
 |bl _=>cases r;rfl
 |int _=>obtain⟨t,rfl⟩:=r;rfl
 |str _=>obtain⟨t,rfl⟩:=r;rfl
 |iP _=>obtain⟨t,rfl⟩:=r;rfl
 |hG _=>obtain⟨t,rfl⟩:=r;rfl
 |ref _=>cases r;rfl
 |ty _=>cases r;rfl
def RelV.inj (r:RelV x u) (q:RelV y u):x=y:=ZaQ (r.abs.symm.trans q.abs)
def Vals.inj:∀{xs ys:List V}{us:List Value},Vals xs us->Vals ys us->xs=ys
 |_,_,_,.nil,.nil=>rfl
 |_,_,_,.cons r t,.cons r' t'=>by rw[r.inj r',Vals.inj t t']
section
variable {X:Cx}{pins:List (Addr×Obj)}{σ:St}{H:Hp}{s:Shared}{a:Addr}{xs ys:List V}
def ag.of {K:Zht}(h:H a=some (.lst xs)):ag K H a xs:=.inl (.inl h)
def ah.of {K:Zht}(h:H a=some (.tup xs)):ah K H a xs:=.inl (.inl h)
def ah.pU {K:Zht}(h:H a=some (.par xs)):ah K H a xs:=.inr (.inr h)
def Inv.list (I:Inv X pins σ H s) (h:ag X.K H a xs):∃its:List Value,Vals xs its/\PlainL s.heap a its.toArray/\xs.length<=sizeLine:=by
 rcases h with h |⟨o,its,n,hk,hc,hd,hs,hz,r⟩
 ·obtain⟨z,its,n,r,e⟩:=h.ok I.ai
  exact⟨its,r,⟨_,n,e,rfl,rfl,rfl⟩,z⟩
 ·refine⟨its.toList,r,⟨o,n,I.cD a o hk,hc,hd,by simpa using hs⟩,?_⟩
  have e:=r.length
  simp only[Zay]at e
  omega
def Inv.tuple (I:Inv X pins σ H s) (h:ah X.K H a xs):∃its:List Value,Vals xs its/\IsTup s.heap a its.toArray/\xs.length<=sizeLine:=by
 rcases h with h |⟨o,its,n,hk,hc,hs,hz,r⟩ |h
 ·obtain⟨z,its,r,p,_⟩:=h.ok I.ai
  exact⟨its,r,p,z⟩
 rotate_left
 ·obtain⟨z,its,r,p⟩:=(show bw X.prog X.w H s.heap a (.par xs) from I.ai a _ h)
  exact⟨its,r,p,z⟩
 ·refine⟨its.toList,r,⟨o,I.cD a o hk,hc,n,by simpa using hs⟩,?_⟩
  have e:=r.length
  simp only[Zay]at e
  omega
def Inv.vR (I:Inv X pins σ H s) (h:ag X.K H a xs) (h':ag X.K H a ys):xs=ys:=by
 obtain⟨its,r,⟨o,n,e,_,_,d⟩,_⟩:=I.list h
 obtain⟨its',r',⟨o',n',e',_,_,d'⟩,_⟩:=I.list h'
 rw[e]at e';cases e'
 rw[d]at d'
 injection d' with d1 _
 have:its=its':=by simpa using congrArg Array.toList d1
 subst this
 exact r.inj r'
def Inv.uv (I:Inv X pins σ H s) (h:ah X.K H a xs) (h':ah X.K H a ys):xs=ys:=by
 obtain⟨its,r,⟨o,e,_,n,d⟩,_⟩:=I.tuple h
 obtain⟨its',r',⟨o',e',_,n',d'⟩,_⟩:=I.tuple h'
 rw[e]at e';cases e'
 rw[d]at d'
 injection d' with d1 _
 have:its=its':=by simpa using congrArg Array.toList d1
 subst this
 exact r.inj r'
end
abbrev Cx.ip (X:Cx) (E:Value->Shared->Prop):Cx:= {X with xe:=E}
abbrev Cx.dg (X:Cx):Cx:=X.ip fun _ _=>False
def Cx.Ok.ip {X:Cx}(ok:X.Ok) (E:Value->Shared->Prop):(X.ip E).Ok:=
 ⟨ok.mod,ok.kind,ok.glob,ok.blt,ok.above,ok.inj,ok.has,ok.kX,ok.hd,ok.frames,ok.mZ,ok.kW,ok.bs,ok.jy,ok.lO,ok.kU,ok.eI,ok.gL⟩
def Cx.Ok.kc {X:Cx}(ok:(X.ip E).Ok):X.Ok:=
 ⟨ok.mod,ok.kind,ok.glob,ok.blt,ok.above,ok.inj,ok.has,ok.kX,ok.hd,ok.frames,ok.mZ,ok.kW,ok.bs,ok.jy,ok.lO,ok.kU,ok.eI,ok.gL⟩
section
variable {X:Cx}{pins:List (Addr×Obj)}{σ:St}{H:Hp}{s:Shared}{E:Value->Shared->Prop}
def Inv.ip (I:Inv X pins σ H s) (E:Value->Shared->Prop):Inv (X.ip E) pins σ H s:=⟨I.ok.ip E,I.os,I.bare,I.base,I.loc,I.cell,I.free,I.gk,I.pin,I.ai,I.len⟩
def Inv.kc (I:Inv (X.ip E) pins σ H s):Inv X pins σ H s:=⟨I.ok.kc,I.os,I.bare,I.base,I.loc,I.cell,I.free,I.gk,I.pin,I.ai,I.len⟩
def SP.kc (h:SP (X.ip E) pins D f s'):SP X pins D f s':=by
 cases f with
 |next=>obtain⟨aj,H',I,q⟩:=h;exact⟨aj,H',I.kc,q⟩
 |brk=>obtain⟨aj,H',I,q⟩:=h;exact⟨aj,H',I.kc,q⟩
 |cont=>obtain⟨aj,H',I,q⟩:=h;exact⟨aj,H',I.kc,q⟩
 |ret u=>obtain⟨v,aj,H',I,r,q⟩:=h;exact⟨v,aj,H',I.kc,r,q⟩
def fJ.dg {st:List Stmt}{t:TS}(h:fJ X.dg st t):fJ X st t:=fun pins s σ H D I hw=>
 Zbu (h pins s σ H D (I.ip _) hw) (fun _ _ q=>q.kc) fun _ _ z=>False.elim z
end
section
variable {X:Cx}{st:Stmt}{rest:List Stmt}{t u:TS}{e:Expr}{te:TE}{pos:Pos}
def Cs:TS:=fun D σ H=>D.nx σ H
def iW (t u:TS):TS:=fun D σ H=>t {D with nx:=u D} σ H
def Zv:fJ X [] Cs:=fun _ _ σ H _ I h=>ZgB ⟨σ,H,I,h⟩
def Zc (h1:PS X st t) (h2:fJ X rest u):fJ X (st::rest) (iW t u):=by
 intro pins s σ H D I h
 refine Zgp (aq (h1 pins s σ H {D with nx:=u D} I h) fun f s1 q=> ?_)
 cases f with
 |next=>
  obtain⟨aj,H',I',q⟩:=q
  exact h2 pins s1 aj H' D I' q
 |ret v=>exact q
 |brk=>exact q
 |cont=>exact q
def Zj (h1:PS X st t):fJ X [st] t:=by
 intro pins s σ H D I h
 refine Zgp (aq (h1 pins s σ H D I h) fun f s1 q=> ?_)
 cases f with
 |next=>exact ZgB q
 |ret v=>exact q
 |brk=>exact q
 |cont=>exact q
def Inv.quiet (I:Inv X pins σ H s):interactive X.env=false:=by simp[interactive,I.ok.kind]
def Lh (te:TE):TS:=fun D σ H=>te σ H fun _ H1=>D.nx σ H1
def Zz (he:PE X e te) (hs:swapsWith e none pos.line X.env=pure false:=by rfl):PS X (.Expr e pos) (Lh te):=by
 intro pins s σ H D I h
 exact wpAny_Expr_any (aq (he pins s σ H _ I h) fun v s1 ⟨x,H1,I1,r1,q1⟩=> ⟨σ,H1,I1,q1⟩) I.quiet hs
def ya (te:TE):TS:=fun D σ H=>te σ H D.rt
def Zw (he:PE X e te):PS X (.Return (some e) pos) (ya te):=by
 intro pins s σ H D I h
 exact wpAny_Return_some (aq (he pins s σ H _ I h) fun v s1 ⟨x,H1,I1,r1,q1⟩=> ⟨x,σ,H1,I1,r1,q1⟩)
def Lb (c:TT) (t u:TS):TS:=fun D σ H=>c σ H fun b H1=>if b=true then t D σ H1 else u D σ H1
def ZQ {c:Expr}{a b:List Stmt}{tc:TT}(hc:PT X c tc) (ha:fJ X a t) (hb:fJ X b u):PS X (.If c a b pos) (Lb tc t u):=by
 intro pins s σ H D I h
 refine wpAny_If (aq (hc pins s σ H _ I h) fun d s1 ⟨H1,I1,q1⟩=> ?_)
 cases d with
 |true=>exact ha pins s1 σ H1 D I1 q1
 |false=>exact hb pins s1 σ H1 D I1 q1
def K5:TS:=fun _ _ _=>False
def Zr :fJ X Lz K5:=fun _ _ _ _ _ _ h=>h.elim
end
abbrev TG:=V->St->Hp->(St->Hp->Prop)->Prop
abbrev oO:=List V->St->Hp->(St->Hp->Prop)->Prop
def PG (X:Cx) (target:Expr) (t:TG):Prop:=
 ∀(pins:List (Addr×Obj)) (s:Shared) (σ:St) (H:Hp) (v:V) (u:Value) (Q:St->Hp->Prop),Inv X pins σ H s->RelV v u->t v σ H Q->
  wpAny (model X.prog X.w) X.A (assign target X.env u) (fun _ s'=> ∃aj H',Inv X pins aj H' s'/\Q aj H') X.xe s
def xx (X:Cx) (ts:List Expr) (t:oO):Prop:=
 ∀(pins:List (Addr×Obj)) (s:Shared) (σ:St) (H:Hp) (vs:List V) (us:List Value) (Q:St->Hp->Prop),Inv X pins σ H s->Vals vs us->t vs σ H Q->
  wpAny (model X.prog X.w) X.A (assignInOrder ((assignEach ts X.env).map (·.2)) us) (fun _ s'=> ∃aj H',Inv X pins aj H' s'/\Q aj H') X.xe s
abbrev BP:=V->V->V->Hp->(Hp->Prop)->Prop
def IT (X:Cx) (t:BP):Prop:=
 ∀(pins:List (Addr×Obj)) (s:Shared) (σ:St) (H:Hp) (o i v:V) (ov iv u:Value) (Q:Hp->Prop),Inv X pins σ H s->RelV o ov->RelV i iv->RelV v u->t o i v H Q->
  wpAny (model X.prog X.w) X.A (setItem ov iv u) (fun _ s'=> ∃H',Inv X pins σ H' s'/\Q H') X.xe s
section
variable {X:Cx}{pos:Pos}
def cg (i:Nat):TG:=fun v σ H Q=>Q (σ.set i (some v)) H
def ZE {i:Nat}{x:Str}(hN:X.N.Nodup) (hi:X.N[i]? =some x) (hx:Loc X.env.scope x) (hf:X.fn x=true∨X.env.scope.names.lookup x=some .local:=by first |exact .inl rfl |exact .inr rfl |assumption):PG X (.Name x pos) (cg i):=by
 intro pins s σ H v u Q I r h
 exact wpAny_assign_Name (YO I hN hi hx r (fun s' I'=> ⟨_,H,I',h⟩) hf)
def jt:oO:=fun vs σ H Q=>vs=[]/\Q σ H
def cV (t:TG) (u:oO):oO:=fun vs σ H Q=> ∃v r,vs=v::r/\t v σ H fun aj H'=>u r aj H' Q
def ZR:xx X [] jt:=by
 intro pins s σ H vs us Q I r h
 obtain⟨e,h⟩:=h
 subst e
 cases r
 exact assignInOrder_nil ⟨σ,H,I,h⟩
def Zm {e:Expr}{es:List Expr}{t:TG}{u:oO}(h1:PG X e t) (h2:xx X es u)
  (hs:(assignEach (e::es) X.env).map (·.2)=assign e X.env::(assignEach es X.env).map (·.2):=by rfl):xx X (e::es) (cV t u):=by
 intro pins s σ H vs us Q I r h
 obtain⟨v,vr,e1,h⟩:=h
 subst e1
 cases r with
 |cons r rr=>
  rw[hs]
  refine ZfX (aq (h1 pins s σ H _ _ _ I r h) fun _ s1 ⟨Cj,H1,I1,q1⟩=> ?_)
  exact h2 pins s1 Cj H1 _ _ Q I1 rr q1
def js (K:Zht) (n:Nat) (t:oO):TG:=fun v σ H Q=> ∃a xs,v=.ref a/\ah K H a xs/\xs.length=n/\t xs σ H Q
def Z1 {es:List Expr}{k:Nat}{t:oO}{n:Nat}(hc:X.calm=true) (h:xx X es t)
  (hn:(assignEach es X.env).length=n:=by rfl) (kL:(assignEach es X.env).findIdx? (·.1)=none:=by rfl):PG X (.Tuple es k pos) (js X.K n t):=by
 intro pins s σ H v u Q I r hw
 obtain⟨a,xs,e1,hq,hl,hw⟩:=hw
 subst e1
 cases r
 obtain⟨its,rv,ht,hz⟩:=I.tuple hq
 refine assign_Tuple_tuple (I.ok.hd hc) ht (by simp[hn,<-hl,rv.length]) kL fun h' hx=> ?_
 have I1:Inv X pins σ H {s with heap:=h'} :=I.kept (t':=s.toks) fun b o e=>hx b o (ZaO (Zar e)) e
 exact h pins _ σ H xs _ Q I1 (by simpa using rv) hw
def Q8 (to ti:TE) (t:BP):TG:=fun v σ H Q=>to σ H fun o H1=>ti σ H1 fun i H2=>t o i v H2 fun H3=>Q σ H3
def GN {o i:Expr}{to ti:TE}{t:BP}(ho:PE X o to) (hi:PE X i ti) (hs:IT X t)
    (ha:∀v,assign (.Subscript o i pos) X.env v=(do
      let ov <-holding [v] (eval o X.env)
      let iv <-holding [v,ov] (eval i X.env)
      standAt pos
      holding [v,ov,iv] (setItem ov iv v)
      release [v,ov,iv] []):=by intro _;rfl):PG X (.Subscript o i pos) (Q8 to ti t):=by
  intro pins s σ H v u Q I r h
  rw[ha]
  refine AN (ZbT (aq (ho pins s σ H _ I h) fun ov s1 ⟨x,H1,I1,r1,q1⟩=> ?_))
  refine AN (ZbT (aq (hi pins s1 σ H1 _ I1 q1) fun iv s2 ⟨y,H2,I2,r2,q2⟩=> ?_))
  refine AN (Zey (AN (ZbT (aq (hs pins s2 σ H2 x y v ov iv u _ I2 r1 r2 r q2) fun _ s3 ⟨H3,I3,q3⟩=> ?_))))
  exact wpAny_release ⟨σ,H3,I3,q3⟩
def uE (te:TE) (g:TG):TS:=fun D σ H=>te σ H fun x H1=>g x σ H1 D.nx
def YK {tg e:Expr}{te:TE}{g:TG}(he:PE X e te) (hg:PG X tg g) (hs:swapsWithSole [tg] e pos.line X.env=pure false:=by rfl) (hw:swappedStores [tg] e X.env=pure none:=by rfl)
  (h1:(assignEach [tg] X.env).map (·.2)=[assign tg X.env]:=by rfl):PS X (.Assign [tg] e pos) (uE te g):=by
 intro pins s σ H D I h
 refine wpAny_Assign_stores (aq (he pins s σ H _ I h) fun v s1 ⟨x,H1,I1,r1,q1⟩=> ?_) hs hw
 rw[h1]
 exact aq (hg pins s1 σ H1 x v _ I1 r1 q1) fun _ s2 q=>q
def Zy {i:Nat}{x:Str}{e:Expr}{te:TE}{pos':Pos}(hN:X.N.Nodup) (hi:X.N[i]? =some x) (hx:Loc X.env.scope x) (he:PE X e te) (hs:swapsWith e (some (.Name x pos')) pos.line X.env=pure false:=by rfl) (hf:X.fn x=true∨X.env.scope.names.lookup x=some .local:=by first |exact .inl rfl |exact .inr rfl |assumption):
  PS X (.Assign [.Name x pos'] e pos) (uE te (cg i)):=by
 intro pins s σ H D I h
 refine wpAny_Assign_Name (aq (he pins s σ H _ I h) fun v s1 ⟨y,H1,I1,r1,q1⟩=> ?_) hs
 exact YO I1 hN hi hx r1 (fun s2 I2=> ⟨_,H1,I2,q1⟩) hf
def K0 (i j:Nat) (ta:TA):TS:=fun D σ H=>ta σ H fun vs H1=> ∃v w,vs=[v,w]/\D.nx ((σ.set i (some v)).set j (some w)) H1
def BK {i j:Nat}{x y:Str}{a b:Expr}{ta:TA}{px py pt:Pos}{kt k2 zt} (hc:X.calm=true) (hN:X.N.Nodup) (hi:X.N[i]? =some x) (hj:X.N[j]? =some y) (cI:i≠j)
  (hx:X.env.scope.names.lookup x=some .local) (hy:X.env.scope.names.lookup y=some .local) (ha:PA X [a,b] ta)
  (hw:swappedStores [.Tuple [.Name x px,.Name y py] kt pt] (.Tuple [a,b] k2 zt) X.env=pure (some [x,y]))
  (hs:swapsWithSole [.Tuple [.Name x px,.Name y py] kt pt] (.Tuple [a,b] k2 zt) pos.line X.env=pure false:=by rfl):
  PS X (.Assign [.Tuple [.Name x px,.Name y py] kt pt] (.Tuple [a,b] k2 zt) pos) (K0 i j ta):=by
 intro pins s σ H D I h
 rw[exec_Assign_arm]
 refine AN (Zey ?_)
 rw[hs]
 refine AN (Zak ?_)
 rw[Zam .d]
 refine AN (Tuple_ (aq (ha _ pins s σ H _ I h) fun us s1 ⟨vs,H1,I1,r1,q1⟩=> ?_))
 obtain⟨v,w,e1,q1⟩:=q1
 subst e1
 obtain⟨u1,u2,rfl,rv,iZ⟩:∃u1 u2,us=[u1,u2]/\RelV v u1/\RelV w u2:=by
  cases r1 with
  |cons p q=>
   cases q with
   |cons p' q'=>
    cases q'
    exact⟨_,_,rfl,p,p'⟩
 refine ZbS ?_ aZ
 have I2:Inv X pins σ H1 {s1 with heap:=s1.heap.push {cls:=.type "tuple",data:=.seq [u1,u2].toArray} } :=I1.kept (t':=s1.toks) fun b o e=>OF _ e
 rw[hw]
 refine AN (Zak ?_)
 show wpAny (model X.prog X.w) X.A (do rule "assign.swapped-stores";let items <-unpackItems (.ref s1.heap.objs.size) 2 none;assignInOrder [fun v=>bindName X.env y v,fun v=>bindName X.env x v] items.reverse;pure Flow.next) _ _ _
 refine AN (ZdA (AN (unpackItems_tuple (items:= #[u1,u2]) (I.ok.hd hc) (IsTup.new s1.heap _) fun h' jK=> ?_)))
 have I3:=I2.kept (h':=h') (t':=s1.toks) fun b o e=>jK b o (ZaO (Zar e)) e
 show wpAny _ _ (assignInOrder [fun v=>bindName X.env y v,fun v=>bindName X.env x v] [u2,u1] >>=fun _=>pure Flow.next) _ _ _
 refine AN (ZfX (wpAny_bindName (YO I3 hN hj (.inl hy) iZ (fun s2 I4=> ?_) (.inr hy))))
 refine ZfX (wpAny_bindName (YO I4 hN hi (.inl hx) rv (fun s3 I5=>assignInOrder_nil (Zak ?_)) (.inr hx)))
 rw[List.set_comm _ _ (ZdL cI)]at I5
 exact⟨_,H1,I5,q1⟩
end
structure It where
 go:Nat->Hp->Prop
 mU:Nat->Hp->V->Hp->Prop
 stop:Nat->Hp->Prop
def cC (X:Cx) (pins:List (Addr×Obj)) (H:Hp) (b:Addr):Prop:=
 H b=none/\b≠X.env.locals/\b∉X.fs/\(b∈X.ex∨X.cK.heap.objs.size<=b)/\(∀x c,X.env.cells.lookup x=some c->c≠b)/\∀p∈X.pn++pins,p.1≠b
def Inv.mE {s:Shared}(I:Inv X pins σ H s) (hb:s.heap.objs.size<=b) (hn:H' b=none):cC X pins H' b:=by
 refine⟨hn,Ze8 (ZaE I.lt hb),I.Nr hb,.inr (Zcd I.sz hb),fun x c e z=> ?_,fun p hp z=> ?_⟩
 ·obtain⟨v,q⟩:=I.cell x c e
  exact absurd (ZaE q.lt (by rw[z];exact hb)) (ZbI _)
 ·exact absurd (ZaE (Zar (I.pin p hp).1) (by rw[z];exact hb)) (ZbI _)
structure Turn (P:Program) (w:World) (K:Zht) (tg:Expr) (J:It) (fp:List Addr) (it:Addr) (tn:Nat->Heap->Prop):Prop where
 mem:it∈fp
 obj:∀i h,tn i h->∀b∈fp,∃o,h.get? b=some o/\∀v,o.data≠.cell v
 keep:∀i h h',tn i h->(∀b∈fp,∀o,h.get? b=some o->h'.get? b=some o)->tn i h'
 item:∀(X:Cx),X.prog=P->X.w=w->X.K=K->X.calm=true->∀(i:Nat) (pins:List (Addr×Obj)) (s:Shared) (σ:St) (H:Hp) (E:Value->Shared->Prop),Inv X pins σ H s->(∀b∈fp,cC X pins H b)->tn i s.heap->J.go i H->
  wpAny (model P w) X.A (pyNext (.ref it)) (fun r s1=> ∃u,r=some u/\
   wpAny (model P w) X.A (letOwnedTupleGo tg (.ref it) u) (fun _ s2=> ∃x H',Inv X pins σ H' s2/\RelV x u/\J.mU i H x H'/\tn (i+1) s2.heap/\∀b∈fp,H' b=none) E s1) E s
 done:∀(X:Cx),X.prog=P->X.w=w->X.K=K->X.calm=true->∀(i:Nat) (pins:List (Addr×Obj)) (s:Shared) (σ:St) (H:Hp) (E:Value->Shared->Prop),Inv X pins σ H s->(∀b∈fp,cC X pins H b)->tn i s.heap->J.stop i H->
  wpAny (model P w) X.A (pyNext (.ref it)) (fun r s1=>r=none/\Inv X pins σ H s1) E s
 self:∀(A:Around) (i:Nat) (s:Shared) (Q:Value->Shared->Prop) (E:Value->Shared->Prop),tn i s.heap->Q (.ref it) s->wpAny (model P w) A (pyIter (.ref it)) Q E s
abbrev TI:=St->Hp->(It->Hp->Prop)->Prop
def IU (X:Cx) (pins:List (Addr×Obj)) (σ:St) (tg:Expr) (R:It->Hp->Prop) (kG:Value) (s2:Shared):Prop:=
 ∃(it:Addr) (fp:List Addr) (tn:Nat->Heap->Prop) (J:It) (H':Hp),kG=.ref it/\Inv X pins σ H' s2/\Turn X.prog X.w X.K tg J fp it tn/\tn 0 s2.heap/\(∀b∈fp,cC X pins H' b)/\R J H'
def PI (X:Cx) (tg iter:Expr) (wi:TI):Prop:=
 ∀(pins:List (Addr×Obj)) (s:Shared) (σ:St) (H:Hp) (R:It->Hp->Prop),Inv X pins σ H s->wi σ H R->
  wpAny (model X.prog X.w) X.A (eval iter X.env) (fun v s1=>wpAny (model X.prog X.w) X.A (pyIter v) (IU X pins σ tg R) X.xe s1) X.xe s
def BB {s:Shared}{o:Obj}(ho:s.heap.get? it=some o) (hc:o.cls=.type n) (hd:o.data=.fields vs)
    (hn:["enumerate", "zip", "dict_itemiterator", "dict_reverseitemiterator", "odict_iterator", "itertools.zip_longest", "itertools.pairwise"].contains n=false) (hQ:Q () s):wpAny M A (letOwnedTupleGo tg (.ref it) u) Q E s:=by
  unfold letOwnedTupleGo
  cases tg<;>first
    |exact Zak hQ
    |(cases u<;>first
        |exact Zak hQ
        |(refine AN (wpAny_load ho ?_)
          rw[hc,hd]
          show wpAny M A (if (["enumerate", "zip", "dict_itemiterator", "dict_reverseitemiterator", "odict_iterator", "itertools.zip_longest", "itertools.pairwise"].contains n&&vs[0]? ==some (rawInt _))=true then _ else _) Q E s
          rw[Zam (by intro h;rw[hn,Zek]at h;cases h)]
          exact Zak hQ))
def BW (K:Zht) (a:Addr):It:=
 ⟨fun i H=> ∃xs x,ag K H a xs/\xs[i]? =some x,fun i H x H'=>H'=H/\∀xs,ag K H a xs->xs[i]? =some x,fun i H=> ∃xs,ag K H a xs/\xs.length<=i⟩
def BV (K:Zht) (a:Addr):It:=
 ⟨fun i H=> ∃xs x,ah K H a xs/\xs[i]? =some x,fun i H x H'=>H'=H/\∀xs,ah K H a xs->xs[i]? =some x,fun i H=> ∃xs,ah K H a xs/\xs.length<=i⟩
def oY (lo:Int) (n:Nat):It:=⟨fun i _=>i<n,fun i H x H'=>H'=H/\x=.int (lo+i),fun i _=>n<=i⟩
def Zck {P:Program}{w:World}{K:Zht}{tg:Expr}(a it:Addr):Turn P w K tg (BW K a) [it] it (fun i h=>h.IsListIter it a i) where
 mem:=by simp
 obj:=fun i h st b hb=>by
  have e:b=it:=by simpa using hb
  subst e
  obtain⟨o,e,c,d⟩:=st
  exact⟨o,e,fun v z=>by rw[d]at z;cases z⟩
 keep:=fun i h h' st k=>st.at fun o e=>k it (by simp) o e
 item:=by
  intro X hP hw hK hc i pins s σ H E I hf st hg
  subst hP hw hK
  obtain⟨xs,x,hq,hx⟩:=hg
  obtain⟨its,rv,p,hz⟩:=I.list hq
  obtain⟨u,hu,ru⟩:=rv.get hx
  obtain⟨f0,f1,f2,f3,f4,f5⟩:=hf it (by simp)
  refine wpAny_pyNext_list_item st p.isList (x:=u) (by simpa using hu) fun h' aa sb=> ?_
  have I1:Inv X pins σ H {s with heap:=h'} :=I.turned (t':=s.toks) (fun b o hb e=> (sb.2 b hb).trans e) f0 f1 f3 f4 f5
  obtain⟨o,e,c,d⟩:=id aa
  exact⟨u,rfl,BB (s:= {s with heap:=h'}) e c d .d ⟨x,H,I1,ru,⟨rfl,fun ys hy=>by rw[I.vR hy hq];exact hx⟩,aa,fun b hb=> (hf b hb).1⟩⟩
 done:=by
  intro X hP hw hK hc i pins s σ H E I hf st hg
  subst hP hw hK
  obtain⟨xs,hq,hx⟩:=hg
  obtain⟨its,rv,p,hz⟩:=I.list hq
  obtain⟨f0,f1,f2,f3,f4,f5⟩:=hf it (by simp)
  have hl:=rv.length
  exact wpAny_pyNext_list_end (I.ok.hd hc) st p.isList (by simp;omega) fun h' eb=> ⟨rfl,I.turned (t':=s.toks) (fun b o hb e=>eb b o hb e) f0 f1 f3 f4 f5⟩
 self:=fun _ _ _ _ _ st h=>wpAny_pyIter_listiter st h
def ZaX {P:Program}{w:World}{K:Zht}{tg:Expr}(a it:Addr):Turn P w K tg (BV K a) [it] it (fun i h=>h.IsTupleIter it a i) where
 mem:=by simp
 obj:=fun i h st b hb=>by
  have e:b=it:=by simpa using hb
  subst e
  obtain⟨o,e,c,d⟩:=st
  exact⟨o,e,fun v z=>by rw[d]at z;cases z⟩
 keep:=fun i h h' st k=>st.at fun o e=>k it (by simp) o e
 item:=by
  intro X hP hw hK hc i pins s σ H E I hf st hg
  subst hP hw hK
  obtain⟨xs,x,hq,hx⟩:=hg
  obtain⟨its,rv,p,hz⟩:=I.tuple hq
  obtain⟨u,hu,ru⟩:=rv.get hx
  obtain⟨f0,f1,f2,f3,f4,f5⟩:=hf it (by simp)
  refine wpAny_pyNext_tuple_item st (show s.heap.IsTuple a its.toArray from p) (x:=u) (by simpa using hu) fun h' aa sb=> ?_
  have I1:Inv X pins σ H {s with heap:=h'} :=I.turned (t':=s.toks) (fun b o hb e=> (sb.2 b hb).trans e) f0 f1 f3 f4 f5
  obtain⟨o,e,c,d⟩:=id aa
  exact⟨u,rfl,BB (s:= {s with heap:=h'}) e c d .d ⟨x,H,I1,ru,⟨rfl,fun ys hy=>by rw[I.uv hy hq];exact hx⟩,aa,fun b hb=> (hf b hb).1⟩⟩
 done:=by
  intro X hP hw hK hc i pins s σ H E I hf st hg
  subst hP hw hK
  obtain⟨xs,hq,hx⟩:=hg
  obtain⟨its,rv,p,hz⟩:=I.tuple hq
  obtain⟨f0,f1,f2,f3,f4,f5⟩:=hf it (by simp)
  have hl:=rv.length
  exact wpAny_pyNext_tuple_end (I.ok.hd hc) st (show s.heap.IsTuple a its.toArray from p) (by simp;omega) fun h' eb=> ⟨rfl,I.turned (t':=s.toks) (fun b o hb e=>eb b o hb e) f0 f1 f3 f4 f5⟩
 self:=fun _ _ _ _ _ st h=>wpAny_pyIter_tupleiter st h
def ZaY {P:Program}{w:World}{K:Zht}{tg:Expr}(it:Addr) (lo:Int) (n:Nat):Turn P w K tg (oY lo n) [it] it (fun i h=>IsRangeIter h it (lo+(i:Nat)*1) ((n:Int) - (i:Nat)) 1) where
 mem:=by simp
 obj:=fun i h st b hb=>by
  have e:b=it:=by simpa using hb
  subst e
  exact⟨_,st,fun v z=>by
   have z':Data.fields _=Data.cell v:=z
   cases z'⟩
 keep:=fun i h h' st k=>k it (by simp) _ st
 item:=by
  intro X hP hw hK hc i pins s σ H E I hf st hg
  subst hP hw hK
  obtain⟨f0,f1,f2,f3,f4,f5⟩:=hf it (by simp)
  have W:=Walks.range (prog:=X.prog) (w:=X.w) (I.ok.hd hc) it lo 1 n
  refine W.item i s _ _ hg st fun v h' tk hv aa kk=> ?_
  obtain⟨t,rfl⟩:=hv
  have I1:Inv X pins σ H {s with heap:=h',toks:=tk} :=I.turned (fun b o hb e=>kk b o (by simpa using hb) e) f0 f1 f3 f4 f5
  refine⟨_,rfl,BB (s:= {s with heap:=h',toks:=tk}) (n:= "range_iterator") aa rfl rfl .d ⟨.int (lo+i),H,I1,⟨t,?_⟩,⟨rfl,rfl⟩,aa,fun b hb=> (hf b hb).1⟩⟩
  rw[Int.mul_one]
 done:=by
  intro X hP hw hK hc i pins s σ H E I hf st hg
  subst hP hw hK
  obtain⟨f0,f1,f2,f3,f4,f5⟩:=hf it (by simp)
  exact wpAny_pyNext_range_end (I.ok.hd hc) st (by have:n<=i:=hg;omega) fun h' eb=> ⟨rfl,I.turned (t':=s.toks) (fun b o hb e=>eb b o hb e) f0 f1 f3 f4 f5⟩
 self:=fun _ _ _ _ _ st h=>wpAny_pyIter_rangeiter st h
section
variable {X:Cx}{tg:Expr}
def DZ (K:Zht) (tl:TE):TI:=fun σ H R=>tl σ H fun x H1=> ∃a,x=.ref a/\(∃xs,ag K H1 a xs)/\R (BW K a) H1
def Oz (K:Zht) (tl:TE):TI:=fun σ H R=>tl σ H fun x H1=> ∃a,x=.ref a/\(∃xs,ah K H1 a xs)/\R (BV K a) H1
def Ys {l:Expr}{tl:TE}(hl:PE X l tl):PI X tg l (DZ X.K tl):=by
 intro pins s σ H R I h
 refine aq (hl pins s σ H _ I h) fun v s1 ⟨x,H1,I1,r1,q1⟩=> ?_
 obtain⟨a,e,⟨xs,hq⟩,q⟩:=q1
 subst e
 cases r1
 obtain⟨its,rv,p,hz⟩:=I1.list hq
 refine ZeR p.isList ?_
 refine⟨s1.heap.objs.size,[s1.heap.objs.size],_,_,H1,rfl,I1.kept (t':=s1.toks) fun b o e=>OF _ e,Zck a _,⟨_,Zax _ rfl,rfl,rfl⟩,fun b hb=> ?_,q⟩
 have e:b=s1.heap.objs.size:=by simpa using hb
 subst e
 exact I1.mE (Zae _) (I1.ai.fresh (Zae _))
def BJ {l:Expr}{tl:TE}(hl:PE X l tl):PI X tg l (Oz X.K tl):=by
 intro pins s σ H R I h
 refine aq (hl pins s σ H _ I h) fun v s1 ⟨x,H1,I1,r1,q1⟩=> ?_
 obtain⟨a,e,⟨xs,hq⟩,q⟩:=q1
 subst e
 cases r1
 obtain⟨its,rv,p,hz⟩:=I1.tuple hq
 refine ZfY (show s1.heap.IsTuple a its.toArray from p) ?_
 refine⟨s1.heap.objs.size,[s1.heap.objs.size],_,_,H1,rfl,I1.kept (t':=s1.toks) fun b o e=>OF _ e,ZaX a _,⟨_,Zax _ rfl,rfl,rfl⟩,fun b hb=> ?_,q⟩
 have e:b=s1.heap.objs.size:=by simpa using hb
 subst e
 exact I1.mE (Zae _) (I1.ai.fresh (Zae _))
def XG {pins:List (Addr×Obj)}{σ:St}{H:Hp}{s:Shared}{R:It->Hp->Prop}{E:Value->Shared->Prop}{lo hi:Int}{t u v:Tok}{tk:Nat}(I:Inv X pins σ H s) (h1: -(2^62)<=lo) (h2:lo<2^62) (h3: -(2^62)<=hi) (h4:hi<2^62)
  (q:R (oY lo (hi - lo).toNat) H):wpAny (model X.prog X.w) X.A (pyIter (.ref s.heap.objs.size)) (IU X pins σ tg R) E {s with heap:=s.heap.push {cls:=.type "range",data:=.fields #[.int lo t,.int hi u,.int 1 v]},toks:=tk} :=by
 refine wpAny_pyIter_range (IsRange.new ..) (small_one h1 h2 h3 h4) ?_
 have I1:Inv X pins σ H {s with heap:=s.heap.push {cls:=.type "range",data:=.fields #[.int lo t,.int hi u,.int 1 v]},toks:=tk} :=I.kept fun b o e=>OF _ e
 refine⟨(s.heap.push {cls:=.type "range",data:=.fields #[.int lo t,.int hi u,.int 1 v]}).objs.size,[(s.heap.push {cls:=.type "range",data:=.fields #[.int lo t,.int hi u,.int 1 v]}).objs.size],_,_,H,rfl,
  I1.kept (t':=tk) fun b o e=>OF _ e,ZaY _ lo (hi - lo).toNat,?_,fun b hb=> ?_,q⟩
 ·have e1:lo+((0:Nat):Int)*1=lo:=by simp
  have e2:(((hi - lo).toNat:Nat):Int) - ((0:Nat):Int)=Builtin.Range.rangeSize lo hi 1:=by rw[Zg3];split<;>omega
  show IsRangeIter _ _ (lo+((0:Nat):Int)*1) ((((hi - lo).toNat:Nat):Int) - ((0:Nat):Int)) 1
  rw[e1,e2]
  exact Zax _ rfl
 ·have e:b=(s.heap.push {cls:=.type "range",data:=.fields #[.int lo t,.int hi u,.int 1 v]}).objs.size:=by simpa using hb
  subst e
  exact I1.mE (Zae _) (I1.ai.fresh (Zae _))
def OA (ta:TA):TI:=fun σ H R=>ta σ H fun vs H1=> ∃j:Int,vs=[.int j]/\ -(2^62)<=j/\j<2^62/\R (oY 0 j.toNat) H1
def Z0 {a:Expr}{ta:TA}{p pos:Pos}(hg:Gl X "range") (hm:X.mg "range" =none) (ha:PA X [a] ta) (hs:starEach [a] X.env=[(false,eval a X.env)]:=by rfl):PI X tg (.Call (.Name "range" p) [a] [] pos) (OA ta):=by
 intro pins s σ H R I h
 refine Call_ (YD I hg hm boot_range (Zb2 (aq (ha pos pins s σ H _ I h) fun us s1 ⟨vs,H1,I1,r1,q1⟩=> ?_) hs rfl))
 obtain⟨j,e,q1,q2,q⟩:=q1
 subst e
 cases r1 with
 |cons r rr=>
  cases rr
  obtain⟨t,rfl⟩:=r
  exact call_range_1 (XG I1 .o .o q1 q2 (by simpa using q))
def Lf (wi:TI) (g:TG) (tb:TS):TS:=fun D σ H=>wi σ H fun J H1=> ∃W:Nat->Nat->St->Hp->Prop,(∃m,W 0 m σ H1)/\∀i m σ H,W i m σ H->
 (J.stop i H/\D.nx σ H)∨(J.go i H/\∃N:St->Hp->Prop,(∀aj H',N aj H'->∃m',m'<m/\W (i+1) m' aj H')/\∀x H',J.mU i H x H'->g x σ H' fun aV H2=>tb {D with nx:=N,ct:=N,bk:=D.nx} aV H2)
def kq (fp:List Addr) (h:Heap):List (Addr×Obj):=fp.filterMap fun b=> (h.get? b).map fun o=> (b,o)
def Z3 {h:Heap}(hb:b∈fp) (e:h.get? b=some o):(b,o)∈kq fp h:=Zc4.mpr ⟨b,hb,by rw[e];rfl⟩
def JY {h:Heap}(hp:p∈kq fp h):p.1∈fp/\h.get? p.1=some p.2:=by
 obtain⟨b,hb,e⟩:=Zc4.mp hp
 cases q:h.get? b with
 |none=>rw[q]at e;cases e
 |some o=>
  rw[q]at e
  have e':(b,o)=p:=ZaQ e
  subst e'
  exact⟨hb,q⟩
def Inv.pinned {s:Shared}(I:Inv X pins σ H s) (hf:∀b∈fp,cC X pins H b) (ho:∀b∈fp,∃o,s.heap.get? b=some o/\∀v,o.data≠.cell v):Inv X (pins++kq fp s.heap) σ H s:=
 I.Dh fun p hp=> (ZaL.mp hp).elim (fun z=>I.pin p (ZaD _ z)) fun z=>by
  obtain⟨hb,e⟩:=JY z
  obtain⟨f0,f1,f2,_⟩:=hf p.1 hb
  obtain⟨o,e',d⟩:=ho p.1 hb
  rw[e]at e';cases e'
  exact⟨e,f0,f1,f2,d⟩
def Inv.jE (I:Inv X (pins++pl) σ H s):Inv X pins σ H s:=I.Dh fun p hp=>I.pin p (ZaD _ (Za7 _ hp))
def Jt {iter:Expr}{body:List Stmt}{wi:TI}{g:TG}{tb:TS}{pos:Pos}(hp:PassesOwn (model X.prog X.w) X.A X.env X.xe) (hc:X.calm=true) (hi:PI X tg iter wi) (hg:PG X tg g) (hb:fJ X body tb)
  (hs:∀x,foldedSetIterable iter X.env x=pure x:=by intro _;rfl):PS X (.For tg iter body [] pos) (Lf wi g tb):=by
 intro pins s σ H D I h
 refine wpAny_For (aq (hi pins s σ H _ I h) fun v s1 h1=>aq h1 fun kG s2 h2=> ?_) hs
 obtain⟨it,fp,tn,J,H2,e,I2,T,ak,f2,W,⟨m0,w0⟩,turn⟩:=h2
 subst e
 have stat:∀{H':Hp},(∀b∈fp,H' b=none)->∀b∈fp,cC X pins H' b:=fun hn b hb=> ⟨hn b hb,(f2 b hb).2⟩
 refine codeAny_forLoop_any (fun n s'=> ∃i aj H',Inv X pins aj H' s'/\tn i s'.heap/\(∀b∈fp,H' b=none)/\W i n aj H') ?_ m0 ⟨0,σ,H2,I2,ak,fun b hb=> (f2 b hb).1,w0⟩
 rintro n s3 ⟨i,iV,H3,I3,ba,wR,w3⟩
 rcases turn i n iV H3 w3 with ⟨stop,qn⟩ |⟨go,N,hN,step⟩
 ·refine Zfg hp (aq (T.done X rfl rfl rfl hc i pins s3 iV H3 X.xe I3 (stat wR) ba stop) fun r s4 ⟨hr,I4⟩=> ?_)
  subst hr
  exact ZgB ⟨iV,H3,I4,qn⟩
 ·refine Zfg hp (aq (T.item X rfl rfl rfl hc i pins s3 iV H3 X.xe I3 (stat wR) ba go) fun r s4 ⟨u,hr,h4⟩=> ?_)
  subst hr
  refine Zfg hp (aq h4 fun _ s5 ⟨x,H5,I5,r5,y5,dr,wQ⟩=> ?_)
  have BY:=I5.pinned (stat wQ) (T.obj _ _ dr)
  refine Zfg hp (aq (hg _ s5 iV H5 x u _ BY r5 (step x H5 y5)) fun _ s6 ⟨mS,H6,I6,q6⟩=> ?_)
  refine Zfg hp (aq (hb _ s6 mS H6 _ I6 q6) fun f s7 q7=> ?_)
  have again:∀{fg:St}{H7:Hp},Inv X (pins++kq fp s5.heap) fg H7 s7->N fg H7->∃m,m<n/\∃i aj H',Inv X pins aj H' s7/\tn i s7.heap/\(∀b∈fp,H' b=none)/\W i m aj H':=fun {fg H7} I7 n7=>by
   obtain⟨m',hm,w7⟩:=hN fg H7 n7
   refine⟨m',hm,i+1,fg,H7,I7.jE,T.keep _ _ _ dr fun b hb o e=> (I7.pin (b,o) (ZaD _ (ZaD _ (Z3 hb e)))).1,fun b hb=> ?_,w7⟩
   obtain⟨o,e,d⟩:=T.obj _ _ dr b hb
   exact(I7.pin (b,o) (ZaD _ (ZaD _ (Z3 hb e)))).2.1
  cases f with
  |next=>obtain⟨fg,H7,I7,n7⟩:=q7;exact again I7 n7
  |cont=>obtain⟨fg,H7,I7,n7⟩:=q7;exact again I7 n7
  |brk=>obtain⟨fg,H7,I7,q7⟩:=q7;exact⟨fg,H7,I7.jE,q7⟩
  |ret v=>obtain⟨x7,fg,H7,I7,r7,q7⟩:=q7;exact⟨x7,fg,H7,I7.jE,r7,q7⟩
end
def YV {lo:Int}{n:Nat}{g:TG}{tb:TS}{D:Ends}{σ:St}{H:Hp}(Pv:Nat->St->Hp->Prop) (h0:Pv 0 σ H)
  (hs:∀i σ H,i<n->Pv i σ H->g (.int (lo+i)) σ H fun aV H2=>tb {D with nx:=Pv (i+1),ct:=Pv (i+1),bk:=D.nx} aV H2) (hd:∀σ H,Pv n σ H->D.nx σ H):
  ∃W:Nat->Nat->St->Hp->Prop,(∃m,W 0 m σ H)/\∀i m σ H,W i m σ H->
   ((oY lo n).stop i H/\D.nx σ H)∨((oY lo n).go i H/\∃N:St->Hp->Prop,(∀aj H',N aj H'->∃m',m'<m/\W (i+1) m' aj H')/\∀x H',(oY lo n).mU i H x H'->g x σ H' fun aV H2=>tb {D with nx:=N,ct:=N,bk:=D.nx} aV H2):=by
 refine⟨fun i m σ H=>m=n - i/\i<=n/\Pv i σ H,⟨n,by simp,Za2 _,h0⟩,?_⟩
 rintro i m σ H ⟨rfl,hi,p⟩
 by_cases az:i<n
 ·refine .inr ⟨az,Pv (i+1),fun aj H' p'=> ⟨n - (i+1),.o,rfl,az,p'⟩,fun x H' y=> ?_⟩
  obtain⟨e,y⟩:=y
  subst e y
  exact hs i σ _ az p
 ·have e:i=n:=.o
  subst e
  exact .inl ⟨Zae _,hd σ H p⟩
abbrev R2:=V->V->Hp->VK->Prop
def bu (X:Cx) (f:Value->Value->Sem Value) (r:R2):Prop:=
 ∀(pins:List (Addr×Obj)) (s:Shared) (σ:St) (H:Hp) (x y:V) (v u:Value) (Q:VK),Inv X pins σ H s->RelV x v->RelV y u->r x y H Q->
  wpAny (model X.prog X.w) X.A (f v u) (EP X pins σ Q) X.xe s
def BO (X:Cx) (f:Value->Sem Value) (r:V->Hp->VK->Prop):Prop:=
 ∀(pins:List (Addr×Obj)) (s:Shared) (σ:St) (H:Hp) (x:V) (v:Value) (Q:VK),Inv X pins σ H s->RelV x v->r x H Q->
  wpAny (model X.prog X.w) X.A (f v) (EP X pins σ Q) X.xe s
def dW (X:Cx) (f:Value) (r:List V->Hp->VK->Prop):Prop:=
 ∀(pins:List (Addr×Obj)) (s:Shared) (σ:St) (H:Hp) (xs:List V) (us:List Value) (Q:VK),Inv X pins σ H s->Vals xs us->r xs H Q->
  wpAny (model X.prog X.w) X.A (call f us) (EP X pins σ Q) X.xe s
def lF (r:R2) (ta tb:TE):TE:=fun σ H Q=>ta σ H fun x H1=>tb σ H1 fun y H2=>r x y H2 Q
def KS (r:V->Hp->VK->Prop) (ta:TE):TE:=fun σ H Q=>ta σ H fun x H1=>r x H1 Q
def rI (C:Int->Int->Prop) (g:Int->Int->V):R2:=fun x y H Q=> ∃i j,x=.int i/\y=.int j/\C i j/\Q (g i j) H
def km (g:Int->Int->V):R2:=fun x y H Q=> ∃i j,x=.int i/\y=.int j/\Q (g i j) H
def rU (g:Int->V):V->Hp->VK->Prop:=fun x H Q=> ∃i,x=.int i/\Q (g i) H
section
variable {X:Cx}{a b c:Expr}{ta tb tc:TE}{pos:Pos}
def Bo (ha:PE X a ta) (hb:PE X b tb) {pins:List (Addr×Obj)}{s:Shared}{σ:St}{H:Hp}{R:V->V->Hp->Prop}(I:Inv X pins σ H s)
  (h:ta σ H fun x H1=>tb σ H1 fun y H2=>R x y H2) {Q:Value->Shared->Prop}{f:Value->Value->Sem Value}
  (hf:∀v u s2 x y H2,Inv X pins σ H2 s2->RelV x v->RelV y u->R x y H2->wpAny (model X.prog X.w) X.A (f v u) Q X.xe s2):
  wpAny (model X.prog X.w) X.A (eval a X.env) (fun v aJ=>wpAny (model X.prog X.w) X.A (eval b X.env) (fun u pz=>wpAny (model X.prog X.w) X.A (f v u) Q X.xe pz) X.xe aJ) X.xe s:=by
 refine aq (ha pins s σ H _ I h) fun v s1 ⟨x,H1,I1,r1,q1⟩=> ?_
 refine aq (hb pins s1 σ H1 _ I1 q1) fun u s2 ⟨y,H2,I2,r2,q2⟩=> ?_
 exact hf v u s2 x y H2 I2 r1 r2 q2
def Zo {op:Operator}{r:R2}(ho:bu X (binaryOp op) r) (ha:PE X a ta) (hb:PE X b tb):PE X (.BinOp a op b pos) (lF r ta tb):=by
 intro pins s σ H Q I h
 exact wpAny_BinOp (Bo ha hb I h fun v u s2 x y H2 I2 rx ry q=>ho pins s2 σ H2 x y v u Q I2 rx ry q)
def GI {op:UnaryOp}{r:V->Hp->VK->Prop}(ho:BO X (unaryOp op) r) (ha:PE X a ta):PE X (.UnaryOp op a pos) (KS r ta):=by
 intro pins s σ H Q I h
 exact UnaryOp_ (aq (ha pins s σ H _ I h) fun v s1 ⟨x,H1,I1,r1,q1⟩=>ho pins s1 σ H1 x v Q I1 r1 q1)
def vD {f:Value->Value->Sem Value}{C:Int->Int->Prop}{g:Int->Int->Int}
  (rule:∀(i j:Int) (t u:Tok) (s:Shared) (Q:Value->Shared->Prop) (E:Value->Shared->Prop),C i j->Q (.int (g i j) s.toks) {s with toks:=s.toks+1}->wpAny (model X.prog X.w) X.A (f (.int i t) (.int j u)) Q E s):
  bu X f (rI C fun i j=> .int (g i j)):=by
 intro pins s σ H x y v u Q I rx ry h
 obtain⟨i,j,rfl,rfl,hc,q⟩:=h
 obtain⟨t,rfl⟩:=rx
 obtain⟨t',rfl⟩:=ry
 exact rule i j t t' s _ _ hc ⟨.int (g i j),H,I.tok _,⟨_,rfl⟩,q⟩
def Dn {f:Value->Value->Sem Value}{g:Int->Int->Int}
  (rule:∀(i j:Int) (t u:Tok) (s:Shared) (Q:Value->Shared->Prop) (E:Value->Shared->Prop),Q (.int (g i j) s.toks) {s with toks:=s.toks+1}->wpAny (model X.prog X.w) X.A (f (.int i t) (.int j u)) Q E s):
  bu X f (km fun i j=> .int (g i j)):=by
 intro pins s σ H x y v u Q I rx ry h
 obtain⟨i,j,rfl,rfl,q⟩:=h
 obtain⟨t,rfl⟩:=rx
 obtain⟨t',rfl⟩:=ry
 exact rule i j t t' s _ _ ⟨.int (g i j),H,I.tok _,⟨_,rfl⟩,q⟩
def vE {f:Value->Value->Sem Value}{g:Int->Int->Bool}
  (rule:∀(i j:Int) (t u:Tok) (s:Shared) (Q:Value->Shared->Prop) (E:Value->Shared->Prop),Q (.bool (g i j)) s->wpAny (model X.prog X.w) X.A (f (.int i t) (.int j u)) Q E s):
  bu X f (km fun i j=> .bl (g i j)):=by
 intro pins s σ H x y v u Q I rx ry h
 obtain⟨i,j,rfl,rfl,q⟩:=h
 obtain⟨t,rfl⟩:=rx
 obtain⟨t',rfl⟩:=ry
 exact rule i j t t' s _ _ ⟨.bl (g i j),H,I,rfl,q⟩
def aak (i j:Int):Prop:=0<j/\j<1073741824
def aaj (i j:Int):Prop:=0<=j/\j<=1000000/\i.natAbs<2^64
def Cf (i j:Int):Prop:=(-(2^64)<i/\i<2^64)∨(-(2^64)<j/\j<2^64)
def Cf.ok (h:Cf i j):IntMulOk i j:=by
 rcases h with ⟨h1,h2⟩ |⟨h1,h2⟩
 ·exact .of_left (intBits_le_64 h1 h2)
 ·exact .of_right (intBits_le_64 h1 h2)
def ZT:bu X (binaryOp .Add) (km fun i j=> .int (i+j)):=Dn fun _ _ _ _ _ _ _ q=>add_int q
def ZU:bu X (binaryOp .Sub) (km fun i j=> .int (i - j)):=Dn fun _ _ _ _ _ _ _ q=>sub_int q
def Wz:bu X (binaryOp .Mult) (rI Cf fun i j=> .int (i*j)):=vD fun _ _ _ _ _ _ _ hc q=>mul_int q hc.ok
def HP:bu X (binaryOp .FloorDiv) (rI aak fun i j=> .int (i/j)):=vD fun i j _ _ _ _ _ hc q=>by
 have h1:(0:Int)<j:=hc.1
 have h2:j<1073741824:=hc.2
 exact floordiv_int .o (by rw[Int.fdiv_eq_ediv_of_nonneg i .o];exact q) (.inl (PyProof.noPylong_small .o))
def Ju:bu X (binaryOp .Mod) (rI (fun _ j=>0<j) fun i j=> .int (i%j)):=vD fun i j _ _ _ _ _ hc q=>by
 have h1:(0:Int)<j:=hc
 exact mod_int' .o (by rw[Int.fmod_eq_emod_of_nonneg i .o];exact q)
def Wy:bu X (binaryOp .Pow) (rI aaj fun i j=> .int (i^j.toNat)):=vD fun _ _ _ _ _ _ _ hc q=>pow_int_small hc.1 hc.2.1 hc.2.2 q
def Ky {f:Value->Sem Value}{g:Int->Int}
  (rule:∀(i:Int) (t:Tok) (s:Shared) (Q:Value->Shared->Prop) (E:Value->Shared->Prop),Q (.int (g i) s.toks) {s with toks:=s.toks+1}->wpAny (model X.prog X.w) X.A (f (.int i t)) Q E s):
  BO X f (rU fun i=> .int (g i)):=by
 intro pins s σ H x v Q I rx h
 obtain⟨i,rfl,q⟩:=h
 obtain⟨t,rfl⟩:=rx
 exact rule i t s _ _ ⟨.int (g i),H,I.tok _,⟨_,rfl⟩,q⟩
def Hi:BO X (unaryOp .USub) (rU fun i=> .int (-i)):=Ky fun _ _ _ _ _ q=>neg_int q
end
def nh:V->V->Bool
 | .af,.af=>true | .af,.int _=>true | .int _,.af=>true | .af,.bl _=>true | .bl _,.af=>true | .af,.str _=>true | .str _,.af=>true
 | .int _,.int _=>true | .bl _,.bl _=>true | .str _,.str _=>true | .iP _,.iP _=>true
 | .int _,.str _=>true | .str _,.int _=>true | .bl _,.str _=>true | .str _,.bl _=>true
 |_,_=>false
def Mw:R2:=fun x y H Q=>nh x y=true/\Q (.bl (decide (x=y))) H
def Mr:R2:=fun x y H Q=>nh x y=true/\Q (.bl (!decide (x=y))) H
def Ia :decide (V.int i=V.int j)=(i==j):=by
 rw[ZdX]
 simp
def GF :decide (V.bl i=V.bl j)=(i==j):=by
 rw[ZdX]
 simp
def Ib :decide (V.str i=V.str j)=(i==j):=by
 rw[ZdX]
 simp
def HZ {i j:Array UInt8} :decide (V.iP i=V.iP j)=(i.toList==j.toList):=by
 rw[ZdX]
 cases i
 cases j
 simp
section
variable {X:Cx}{a b c:Expr}{ta tb tc:TE}{pos:Pos}
def ZK (I:Inv X pins σ H s) (q:Q (.bl k) H) (e:k=k'):EP X pins σ Q (.bool k') s:=by
 subst e
 exact⟨.bl k,H,I,rfl,q⟩
def Y4:bu X (compareOp .Eq) Mw:=by
 intro pins s σ H x y v u Q I rx ry h
 obtain⟨hs,q⟩:=h
 cases x with
 |af=>
  cases rx
  cases y with
  |af=>cases ry;exact PySem.EqNone.eq_none_none (ZK I q (by simp))
  |bl j=>cases ry;exact PySem.EqNone.eq_none_bool (ZK I q (by simp))
  |int j=>obtain⟨t',rfl⟩:=ry;exact PySem.EqNone.eq_none_int (ZK I q (by simp))
  |str j=>obtain⟨t',rfl⟩:=ry;exact PySem.EqNone.eq_none_str (ZK I q (by simp))
  |_=>exact absurd (show false=true from hs) Zav
 |bl i=>
  cases rx
  cases y with
  |af=>cases ry;exact PySem.EqNone.eq_bool_none (ZK I q (by simp))
  |bl j=>cases ry;exact eq_bool (ZK I q GF)
  |str j=>obtain⟨t',rfl⟩:=ry;exact PySem.EqMixed.eq_bool_str (ZK I q (by simp))
  |_=>exact absurd (show false=true from hs) Zav
 |int i=>
  obtain⟨t,rfl⟩:=rx
  cases y with
  |af=>cases ry;exact PySem.EqNone.eq_int_none (ZK I q (by simp))
  |int j=>obtain⟨t',rfl⟩:=ry;exact eq_int (ZK I q Ia)
  |str j=>obtain⟨t',rfl⟩:=ry;exact PySem.EqMixed.eq_int_str (ZK I q (by simp))
  |_=>exact absurd (show false=true from hs) Zav
 |str i=>
  obtain⟨t,rfl⟩:=rx
  cases y with
  |af=>cases ry;exact PySem.EqNone.eq_str_none (ZK I q (by simp))
  |bl j=>cases ry;exact PySem.EqMixed.eq_str_bool (ZK I q (by simp))
  |int j=>obtain⟨t',rfl⟩:=ry;exact PySem.EqMixed.eq_str_int (ZK I q (by simp))
  |str j=>obtain⟨t',rfl⟩:=ry;exact eq_str (ZK I q Ib)
  |_=>exact absurd (show false=true from hs) Zav
 |iP i=>
  obtain⟨t,rfl⟩:=rx
  cases y with
  |iP j=>obtain⟨t',rfl⟩:=ry;exact PySem.W.eq_bytes (ZK I q HZ)
  |_=>exact absurd (show false=true from hs) Zav
 |_=>cases y<;>exact absurd (show false=true from hs) Zav
def Ut:bu X (compareOp .NotEq) Mr:=by
 intro pins s σ H x y v u Q I rx ry h
 obtain⟨hs,q⟩:=h
 cases x with
 |af=>
  cases rx
  cases y with
  |af=>cases ry;exact PySem.EqNone.ne_none_none (ZK I q (by simp))
  |bl j=>cases ry;exact PySem.EqNone.ne_none_bool (ZK I q (by simp))
  |int j=>obtain⟨t',rfl⟩:=ry;exact PySem.EqNone.ne_none_int (ZK I q (by simp))
  |str j=>obtain⟨t',rfl⟩:=ry;exact PySem.EqNone.ne_none_str (ZK I q (by simp))
  |_=>exact absurd (show false=true from hs) Zav
 |bl i=>
  cases rx
  cases y with
  |af=>cases ry;exact PySem.EqNone.ne_bool_none (ZK I q (by simp))
  |bl j=>cases ry;exact ne_bool (ZK I q (Zex not GF))
  |str j=>obtain⟨t',rfl⟩:=ry;exact PySem.EqMixed.ne_bool_str (ZK I q (by simp))
  |_=>exact absurd (show false=true from hs) Zav
 |int i=>
  obtain⟨t,rfl⟩:=rx
  cases y with
  |af=>cases ry;exact PySem.EqNone.ne_int_none (ZK I q (by simp))
  |int j=>obtain⟨t',rfl⟩:=ry;exact ne_int (ZK I q (Zex not Ia))
  |str j=>obtain⟨t',rfl⟩:=ry;exact PySem.EqMixed.ne_int_str (ZK I q (by simp))
  |_=>exact absurd (show false=true from hs) Zav
 |str i=>
  obtain⟨t,rfl⟩:=rx
  cases y with
  |af=>cases ry;exact PySem.EqNone.ne_str_none (ZK I q (by simp))
  |bl j=>cases ry;exact PySem.EqMixed.ne_str_bool (ZK I q (by simp))
  |int j=>obtain⟨t',rfl⟩:=ry;exact PySem.EqMixed.ne_str_int (ZK I q (by simp))
  |str j=>obtain⟨t',rfl⟩:=ry;exact ne_str (ZK I q (Zex not Ib))
  |_=>exact absurd (show false=true from hs) Zav
 |iP i=>
  obtain⟨t,rfl⟩:=rx
  cases y with
  |iP j=>obtain⟨t',rfl⟩:=ry;exact PySem.W.ne_bytes (ZK I q (Zex not HZ))
  |_=>exact absurd (show false=true from hs) Zav
 |_=>cases y<;>exact absurd (show false=true from hs) Zav
def xn:bu X (compareOp .Lt) (km fun i j=> .bl (decide (i<j))):=vE fun _ _ _ _ _ _ _ q=>lt_int q
def GA:bu X (compareOp .LtE) (km fun i j=> .bl (decide (i<=j))):=vE fun _ _ _ _ _ _ _ q=>le_int q
def Uu:bu X (compareOp .Gt) (km fun i j=> .bl (decide (j<i))):=vE fun _ _ _ _ _ _ _ q=>gt_int q
def Va:bu X (compareOp .GtE) (km fun i j=> .bl (decide (j<=i))):=vE fun _ _ _ _ _ _ _ q=>ge_int q
def bu.or (h:bu X f r) (h':bu X f r'):bu X f (fun x y H Q=>r x y H Q∨r' x y H Q):=by
 intro pins s σ H x y v u Q I rx ry q
 rcases q with q |q
 ·exact h pins s σ H x y v u Q I rx ry q
 ·exact h' pins s σ H x y v u Q I rx ry q
def bO (b:Expr) {op:CmpOp}(h:op≠.In:=by decide) (h2:op≠.NotIn:=by decide):behindInMarks op b=false:=by
 have e1:(op==CmpOp.In)=false:=by cases op<;>first |rfl |exact absurd rfl h
 have e2:(op==CmpOp.NotIn)=false:=by cases op<;>first |rfl |exact absurd rfl h2
 cases b<;>simp[behindInMarks,e1,e2]
def Z5 {op:CmpOp}{r:R2}(ho:bu X (compareOp op) r) (ha:PE X a ta) (hb:PE X b tb) (hm:behindInMarks op b=false):PE X (.Compare a [op] [b] pos) (lF r ta tb):=by
 intro pins s σ H Q I h
 exact wpAny_Compare1 (Bo ha hb I h fun v u s2 x y H2 I2 rx ry q=>ho pins s2 σ H2 x y v u Q I2 rx ry q) hm
def KY (t:TE):TT:=fun σ H Q=>t σ H fun x H'=> ∃k,x=.bl k/\Q k H'
def ZO {op:CmpOp}{r:R2}(ho:bu X (compareOp op) r) (ha:PE X a ta) (hb:PE X b tb) (hm:behindInMarks op b=false):PT X (.Compare a [op] [b] pos) (KY (lF r ta tb)):=by
 intro pins s σ H Q I h
 refine wpAny_isTrue_Compare1 (aq (ha pins s σ H _ I h) fun v s1 ⟨x,H1,I1,r1,q1⟩=>aq (hb pins s1 σ H1 _ I1 q1) fun u s2 ⟨y,H2,I2,r2,q2⟩=>
  aq (ho pins s2 σ H2 x y v u _ I2 r1 r2 q2) fun c s3 ⟨z,H3,I3,r3,k,e,q3⟩=> ?_) hm
 subst e
 cases r3
 exact Zds ⟨H3,I3,q3⟩
def Lm (r r':R2) (ta tb tc:TE):TE:=fun σ H Q=>ta σ H fun x H1=>tb σ H1 fun y H2=>r x y H2 fun z H3=> ∃k,z=.bl k/\
 (if k=true then tc σ H3 fun w' H4=>r' y w' H4 Q else Q (.bl false) H3)
def Xx {op zB:CmpOp}{r r':R2}(ho:bu X (compareOp op) r) (dc:bu X (compareOp zB) r') (ha:PE X a ta) (hb:PE X b tb) (hc:PE X c tc)
  (hm:lastMarks [op,zB] [b,c]=false:=by with_unfolding_all rfl):PE X (.Compare a [op,zB] [b,c] pos) (Lm r r' ta tb tc):=by
 intro pins s σ H Q I h
 refine Compare_chain (aq (ha pins s σ H _ I h) fun v s1 ⟨x,H1,I1,r1,q1⟩=>chain_link (aq (hb pins s1 σ H1 _ I1 q1) fun u s2 ⟨y,H2,I2,r2,q2⟩=>
  aq (ho pins s2 σ H2 x y v u _ I2 r1 r2 q2) fun d s3 ⟨z,H3,I3,r3,k,e,q3⟩=> ?_)) hm
 subst e
 cases r3
 refine Zds ?_
 cases k with
 |false=>exact ite_ff ⟨.bl false,H3,I3,rfl,q3⟩
 |true=>exact ite_tt (chain_last (aq (hc pins s3 σ H3 _ I3 q3) fun w' s4 ⟨z',H4,I4,r4,q4⟩=>dc pins s4 σ H4 y z' u w' Q I4 r2 r4 q4))
def vS:(sizeLine:Nat)<2^63:=by rw[ZaP];decide
def ZfU (r:Vals [x] us):∃u,us=[u]/\RelV x u:=by
 cases r with
 |cons r1 r2=>cases r2;exact⟨_,rfl,r1⟩
def vals2 (r:Vals [x,y] us):∃u w',us=[u,w']/\RelV x u/\RelV y w':=by
 cases r with
 |cons r1 r2=>
  cases r2 with
  |cons r3 r4=>cases r4;exact⟨_,_,rfl,r1,r3⟩
def UK (hc:X.calm=true):dW X (.builtin "max") (fun xs H Q=> ∃i j,xs=[.int i,.int j]/\Q (.int (if j>i then j else i)) H):=by
 intro pins s σ H xs us Q I r h
 obtain⟨i,j,rfl,q⟩:=h
 obtain⟨u,w',rfl,⟨t,rfl⟩,⟨t',rfl⟩⟩:=vals2 r
 refine max_two_ints (I.ok.hd hc) fun h' tk k=> ⟨_,H,I.kept k,?_,q⟩
 by_cases hj:j>i
 ·rw[Zaq hj,Zaq hj];exact⟨_,rfl⟩
 ·rw[Zam hj,Zam hj];exact⟨_,rfl⟩
def Zc1 (hc:X.calm=true):dW X (.builtin "min") (fun xs H Q=> ∃i j,xs=[.int i,.int j]/\Q (.int (if j<i then j else i)) H):=by
 intro pins s σ H xs us Q I r h
 obtain⟨i,j,rfl,q⟩:=h
 obtain⟨u,w',rfl,⟨t,rfl⟩,⟨t',rfl⟩⟩:=vals2 r
 refine min_two_ints (I.ok.hd hc) fun h' tk k=> ⟨_,H,I.kept k,?_,q⟩
 by_cases hj:j<i
 ·rw[Zaq hj,Zaq hj];exact⟨_,rfl⟩
 ·rw[Zam hj,Zam hj];exact⟨_,rfl⟩
def UL:dW X (.type "int") (fun xs H Q=> (∃i,xs=[.int i]/\Q (.int i) H)∨∃k,xs=[.bl k]/\Q (.int (if k then 1 else 0)) H):=by
 intro pins s σ H xs us Q I r h
 rcases h with ⟨i,rfl,q⟩ |⟨k,rfl,q⟩
 ·obtain⟨u,rfl,t,rfl⟩:=ZfU r
  exact call_int_int ⟨.int i,H,I,⟨_,rfl⟩,q⟩
 ·obtain⟨u,rfl,r1⟩:=ZfU r
  cases r1
  exact call_int_bool ⟨.int (if k then 1 else 0),H,I.tok _,⟨_,rfl⟩,q⟩
end
structure BS (h:Heap) (x dx C:Addr) (mA:Str->Option Value):Prop where
 obj:h.get? x=some (PySem.W.instObj C dx)
 ns:h.Ns1 dx mA
 ne:dx≠x
def ZcI {h:Heap}(n:h.Ns1 dx mA):∃od,h.get? dx=some od/\∀name,PySem.W.lookIn name od=some (mA name):=by
 obtain⟨o,es,ep,ho,hd,hk,_,hm⟩:=n
 refine⟨o,ho,fun name=> ?_⟩
 have e:=hm name
 unfold nsFind findBy at e
 rw[<-Array.find?_toList]at e
 unfold PySem.W.lookIn
 rw[hd]
 dsimp only
 split
 ·rename_i y q
  rw[q]at e
  exact Zex some e
 ·rename_i q
  rw[q]at e
  have a:es.toList.any (·.refKey)=false:=by
   rw[Zhi]
   intro y hy
   obtain⟨z,t,PZ⟩:=hk y (Array.mem_toList_iff.mp hy)
   simp[DictEntry.refKey,PZ]
  have a':¬es.toList.any (·.refKey)=true:=by rw[a];exact Zav
  rw[Zam a']
  exact Zex some e
def BS.look (I:BS h x dx C mA):∃od,PySem.W.InstAt h x (PySem.W.instObj C dx) C (some od)/\∀name,PySem.W.lookIn name od=some (mA name):=
 let ⟨od,ho,hl⟩:=ZcI I.ns
 ⟨od,⟨I.obj,rfl,rfl,ho⟩,hl⟩
section
variable {P:Program}{w:World}{H H':Hp}{h h':Heap}{a C dx:Addr}{fs oE:List (Str×V)}
def V0 (ai:bM P w H h) (e:H a=some (.ins C dx fs)):∃mA,BS h a dx C mA/\(∀f,lh (fs.lookup f) (mA f))/\PySem.Within mA (fs.map (·.1))/\fs.length<=1000/\H dx=some (.own a):=by
 obtain⟨d,z,ne,ob,mA,n,r,q⟩:=(show bw P w H h a (.ins C dx fs) from ai a _ e)
 exact⟨mA,⟨ob,n,ne⟩,r,q,z,d⟩
end
structure Ce (K:Zht) (C:Addr):Prop where
 pg:PySem.W.plainGet K C Str.empty=true
 hd:PySem.W.hasDictIn K C=true
 po:PySem.W.plainOver K C=true
 sa:PySem.W.findIn K (.ref C) "__setattr__" =some (some (.builtin "object.__setattr__"))
def Ce.get {K:Zht}{C:Addr}(c:Ce K C) (f:Str):PySem.W.plainGet K C f=true:=c.pg
structure Con (K:Zht) (C:Addr) (f:Str) (v:V) (u:Value):Prop where
 at_:PySem.W.findIn K (.ref C) f=some (some u)
 rel:RelV v u
 get:PySem.W.specialIn K u "__get__" =some none
 cp:PySem.W.copiedNames.contains f=false
structure Meth (K:Zht) (C:Addr) (m:Str) (f:Addr):Prop where
 at_:PySem.W.findIn K (.ref C) m=some (some (.ref f))
 fn:PySem.W.isFn K (.ref f)=true
 kp:PySem.W.keepIn K (.ref f)=true
section
variable {X:Cx}{pins:List (Addr×Obj)}{σ:St}{H:Hp}{s:Shared}{A:Around}{E:Value->Shared->Prop}{Q:Value->Shared->Prop}{c:Value}{b:Bool}
inductive fI (K:Zht) (H:Hp):V->Value->Prop where
 |af:fI K H .af (.type "NoneType")
 |bl (x:Bool):fI K H (.bl x) (.type "bool")
 |int (i:Int):fI K H (.int i) (.type "int")
 |str (x:Str):fI K H (.str x) (.type "str")
 |hG (x:UInt64):fI K H (.hG x) (.type "float")
 |lst {a:Addr}{xs:List V} (e:H a=some (.lst xs)):fI K H (.ref a) (.type "list")
 |cJ {a:Addr}{o:Obj}{xs:List V} (e:H a=some (.cJ o (.lst xs))):fI K H (.ref a) (.type "list")
 |tup {a:Addr}{xs:List V} (e:H a=some (.tup xs)):fI K H (.ref a) (.type "tuple")
 |dK {a:Addr}{kvs:List (Key×V)} (e:H a=some (.dK kvs)):fI K H (.ref a) (.type "dict")
 |dT {a:Addr}{kvs:List (List Key×V)} (e:H a=some (.dT kvs)):fI K H (.ref a) (.type "dict")
 |ins {a C dx:Addr}{fs:List (Str×V)} (e:H a=some (.ins C dx fs)) (cl:Ce K C) (ha:PySem.W.findIn K (.ref C) "__class__" =some (some (.builtin "object.__class__")))
  (hn:PySem.W.specialIn K (.builtin "object.__class__") "__get__" =some (some (.builtin "getset_descriptor.__get__"))) (Ej:PySem.W.takesIn K (.builtin "object.__class__")=some true)
  (hm:PySem.W.mroIn K C (.type "object")=some true):fI K H (.ref a) (.ref C)
def ZcO (I:Inv X pins σ H s) (rx:RelV x u) (ty:fI X.K H x t) (e:PySem.W.kitOne X.K t c=some b) (h:∀tk,Q (.bool b) {s with toks:=tk}):
  wpAny (model X.prog X.w) A (call (.builtin "isinstance") [u,c]) Q E s:=by
 cases ty with
 |af=>cases (show u=Value.none from rx);exact Zc8 Zhj I.cD True.intro e (fun z=>nomatch z) h
 |bl y=>cases (show u=Value.bool y from rx);exact Zc8 PySem.W.kitx_bool I.cD True.intro e (fun z=>nomatch z) h
 |int i=>obtain⟨t,q⟩:=(show ∃t,u=Value.int i t from rx);cases q;exact Zc8 Zgq I.cD True.intro e (fun z=>nomatch z) h
 |str y=>obtain⟨t,q⟩:=(show ∃t,u=Value.str y t from rx);cases q;exact Zc8 PySem.W.kitx_str I.cD True.intro e (fun z=>nomatch z) h
 |hG y=>obtain⟨t,q⟩:=(show ∃t,u=Value.float y t from rx);cases q;exact Zc8 PySem.W.kitx_float I.cD True.intro e (fun z=>nomatch z) h
 | @lst a xs ea=>
  cases (show u=Value.ref a from rx)
  obtain⟨_,_,n,_,h1⟩:=(show bw X.prog X.w H s.heap a (.lst xs) from I.ai a _ ea)
  exact Zc8 Zfp I.cD ⟨_,h1,rfl⟩ e (fun z=>nomatch z) h
 | @cJ a ob xs ea=>
  cases (show u=Value.ref a from rx)
  obtain⟨_,_,_,n,_,h1⟩:=(show bw X.prog X.w H s.heap a (.cJ ob (.lst xs)) from I.ai a _ ea)
  exact Zc8 Zfp I.cD ⟨_,h1,rfl⟩ e (fun z=>nomatch z) h
 | @tup a xs ea=>
  cases (show u=Value.ref a from rx)
  obtain⟨_,_,_,p,_⟩:=(show bw X.prog X.w H s.heap a (.tup xs) from I.ai a _ ea)
  obtain⟨o,h1,h2,_⟩:=p
  exact Zc8 Zg4 I.cD ⟨o,h1,h2⟩ e (fun z=>nomatch z) h
 | @dK a kvs ea=>
  cases (show u=Value.ref a from rx)
  obtain⟨_,_,vs,_,p⟩:=(show bw X.prog X.w H s.heap a (.dK kvs) from I.ai a _ ea)
  obtain⟨o,es,ep,h1,h2,_⟩:=p
  exact Zc8 Zhk I.cD ⟨o,h1,h2.1⟩ e (fun z=>nomatch z) h
 | @dT a kvs ea=>
  cases (show u=Value.ref a from rx)
  obtain⟨_,_,xs,_,o,es,ep,h1,h2,_⟩:=(show bw X.prog X.w H s.heap a (.dT kvs) from I.ai a _ ea)
  exact Zc8 Zhk I.cD ⟨o,h1,h2.1⟩ e (fun z=>nomatch z) h
 | @ins a C dx fs ea cl ha hn Ej hm=>
  cases (show u=Value.ref a from rx)
  obtain⟨mA,O,_⟩:=V0 I.ai ea
  obtain⟨od,J,_⟩:=O.look
  exact Zc8 (PySem.W.kitx_own (cl.get _) cl.hd ha hn Ej hm) I.cD J e (fun z=>nomatch z) h
end
structure bW (k:Nat) (A:Around):Prop where
 hd:A.handled=none
 dp:A.depth+3*k+5<recursionLimit
 un:A.units+16*k+200<cLine
 gd:A.guards=some []
def bW.mono (r:bW k A) (h:j<=k):bW j A:=⟨r.hd,by have:=r.dp;omega,by have:=r.un;omega,r.gd⟩
def bW.deeper {A:Around}(r:bW (k+1) A) (env:Env):bW k (A.deeper env):=
 ⟨r.hd,by have:=r.dp;show A.depth+1+3*k+5<_;omega,by have:=r.un;show A.units+3+16*k+200<_;omega,r.gd⟩
def bW.depth {A:Around}(r:bW k A):A.depth<recursionLimit:=by have:=r.dp;omega
def bW.units {A:Around}(r:bW k A):A.units+64<cLine:=by have:=r.un;omega
def bW.xS {k:Nat}{A:Around}(r:bW k A):A.units<cLine:=by have:=r.un;omega
def qY:TA:=fun _ H Q=>Q [] H
def pj (ta:TE) (tr:TA):TA:=fun σ H Q=>ta σ H fun x H1=>tr σ H1 fun xs H2=>Q (x::xs) H2
section
variable {X:Cx}{e:Expr}{es:List Expr}{te:TE}{t:TA}{pos:Pos}
def Zb:PA X [] qY:=fun _ _ _ _ H Q I h=>Zf9 ⟨[],H,I,.nil,h⟩
def Za (ha:PE X e te) (hr:PA X es t) (hs:starEach (e::es) X.env=(false,eval e X.env)::starEach es X.env:=by rfl):PA X (e::es) (pj te t):=by
 intro pos pins s σ H Q I h
 rw[hs]
 show wpAny _ _ (spliced ((false,eval e X.env)::backTo pos (starEach es X.env))) _ _ s
 refine ZfZ (aq (ha pins s σ H _ I h) fun u s1 ⟨x,H1,I1,r1,q1⟩=> ?_)
 exact aq (hr pos pins s1 σ H1 _ I1 q1) fun us s2 ⟨xs,H2,I2,r2,q2⟩=> ⟨x::xs,H2,I2,.cons r1 r2,q2⟩
def KU (t:TA):TE:=fun σ H Q=>t σ H fun xs H1=>xs.length<=sizeLine/\∀p,H1 p=none->Q (.ref p) (upd H1 p (.tup xs))
def ye (t:TA):TE:=fun σ H Q=>t σ H fun xs H1=>xs.length<=sizeLine/\∀p,H1 p=none->Q (.ref p) (upd H1 p (.lst xs))
def Zs {x1} (h:PA X es t):PE X (.Tuple es x1 pos) (KU t):=by
 intro pins s σ H Q I hq
 refine wpAny_Tuple_spliced (aq (h pos pins s σ H _ I hq) fun us s1 ⟨xs,H1,I1,r,z,q⟩=> ⟨by rw[<-r.length];exact z,?_⟩)
 have hf:H1 s1.heap.objs.size=none:=I1.ai.fresh (Zae _)
 refine⟨.ref s1.heap.objs.size,upd H1 s1.heap.objs.size (.tup xs),I1.laid (t':=s1.toks) (fun b u e=>OF _ e) (Zae _) ?_,rfl,q _ hf⟩
 exact⟨z,us,r,⟨_,Zax _ rfl,rfl,_,rfl⟩,_,Zax _ rfl,rfl⟩
def ZH (h:PA X es t):PE X (.List es pos) (ye t):=by
 intro pins s σ H Q I hq
 refine wpAny_List_spliced (aq (h pos pins s σ H _ I hq) fun us s1 ⟨xs,H1,I1,r,z,q⟩=> ⟨by rw[<-r.length];exact z,?_⟩)
 have hf:H1 s1.heap.objs.size=none:=I1.ai.fresh (Zae _)
 refine⟨.ref s1.heap.objs.size,upd H1 s1.heap.objs.size (.lst xs),I1.laid (t':=s1.toks) (fun b u e=>OF _ e) (Zae _) ?_,rfl,q _ hf⟩
 exact⟨z,us,0,r,Zax _ rfl⟩
end
abbrev Sp:=List V->Hp->VK->XK->Prop
abbrev j8:=List Env->Hp->Shared->XK->Value->Shared->Prop
structure tY (P:Program) (w:World) (K:Zht) (mg:Str->Option Value) (base:Heap) (A:Around) (outer:List Env) (s:Shared) (H:Hp):Prop where
 frames:A.frames=some outer
 mod:Mod K mg base
 bs:∀b o,base.get? b=some o->s.heap.get? b=some o/\H b=none
 jy:base.objs.size<=s.heap.objs.size
 eI:s.heap.FunFrames base outer
 gL:∀b∈aR outer,H b=none
 ai:bM P w H s.heap
 bare:AllBare s.gens
def CE (outer:List Env) (P:Program) (w:World) (H:Hp) (s:Shared) (Q:VK) (u:Value) (s':Shared):Prop:=
 ∃v H',s'.os=s.os/\AllBare s'.gens/\Un (aR outer) [] H H' s.heap s'.heap/\bM P w H' s'.heap/\RelV v u/\Q v H'
def CR (CX:j8) (outer:List Env) (P:Program) (w:World) (H:Hp) (s:Shared) (Q:VK) (E:XK) (r:Result) (s':Shared):Prop:=
 match r with
 | .ok (.ret u)=>CE outer P w H s Q u s'
 | .ok _=>False
 | .error e=>CX outer H s E e s'
structure aA (P:Program) (w:World) (K:Zht) (mg:Str->Option Value) (base:Heap) (CX:j8) (k:Nat) (f:Addr) (fd:FuncData) (ps:List Str) (sp:Sp):Prop where
 len:∀vs H Q E,sp vs H Q E->vs.length=ps.length
 run:∀(A:Around) (outer:List Env) (s:Shared) (H:Hp) (args:Args) (us:List Value) (vs:List V) (Q:VK) (E:XK),bW k A->tY P w K mg base A outer s H->BindsTo s fd args (ps.zip us)->Vals vs us->sp vs H Q E->
  codeAny (model P w) A (.call (.ref f) args) (CR CX outer P w H s Q E) s
section
variable {X:Cx}{pins:List (Addr×Obj)}{σ:St}{H:Hp}{s s':Shared}
def Inv.FJ (I:Inv X pins σ H s):tY X.prog X.w X.K X.mg X.base X.A X.stack s H:=
 ⟨I.ok.frames,I.ok.mod,I.bs,Zcd I.ok.jy I.sz,I.stack,I.q0,I.ai,I.bare⟩
def Inv.after (I:Inv X pins σ H s) (h:CE X.stack X.prog X.w H s Q u s'):EP X pins σ Q u s':=by
 obtain⟨v,H',os,bare,un,ai,r,q⟩:=h
 obtain⟨hh,g,d,t,zA⟩:=s'
 obtain rfl:zA=s.os:=os
 exact⟨v,H',I.call (h':=hh) (g':=g) (d':=d) (t':=t) (ch:=[]) un ai bare (fun b z=>absurd z (by simp)),r,q⟩
end
def uB (sp:Sp) (mH:List V) (E:XK) (t:TA):TE:=fun σ H Q=>t σ H fun vs H1=>sp (vs++mH) H1 Q E
def Binds (K:Zht) (fd:FuncData) (ps:List Str) (ds:List Value):Prop:=
 ∀(s:Shared) (us:List Value),K.In s.heap->(us++ds).length=ps.length->BindsTo s fd ⟨us,[]⟩ (ps.zip (us++ds))
def Binds.all {K:Zht}{fd:FuncData}{ps:List Str}(h:∀us:List Value,us.length=ps.length->bindArgs fd ⟨us,[]⟩=pure (ps.zip us)):Binds K fd ps []:=fun s us _ hl=>by
 rw[ZbP]at hl |-
 exact .of_eq (h us hl)
def Passes (CX:j8) (X:Cx) (E:XK):Prop:=∀(pins:List (Addr×Obj)) (σ:St) (H:Hp) (s:Shared) (e:Value) (s':Shared),Inv X pins σ H s->CX X.stack H s E e s'->X.xe e s'
section
variable {X:Cx}{CX:j8}{k:Nat}{f C:Addr}{fd:FuncData}{ps:List Str}{sp:Sp}{mH:List V}{ds:List Value}{E:XK}{x m:Str}{p pos apos:Pos}{e o:Expr}{es:List Expr}{ta:TE}{t:TA}
def TR (F:aA X.prog X.w X.K X.mg X.base CX k f fd ps sp) (hr:bW k X.A) (hb:Binds X.K fd ps ds) (hd:Vals mH ds) (hx:Passes CX X E)
  (I:Inv X pins σ H s) (r:Vals vs us) (h:sp (vs++mH) H Q E):wpAny (model X.prog X.w) X.A (call (.ref f) us) (EP X pins σ Q) X.xe s:=by
 have r2:Vals (vs++mH) (us++ds):=r.append hd
 have hl:(us++ds).length=ps.length:=by rw[<-r2.length];exact F.len _ _ _ _ h
 refine ZgO (ZdQ (F.run X.A X.stack s H ⟨us,[]⟩ (us++ds) (vs++mH) Q E hr I.FJ (hb s us I.cD hl) r2 h) fun r s' hq=> ?_)
 cases r with
 |error e=>exact hx pins σ H s e s' I hq
 |ok fl=>
  cases fl with
  |ret u=>exact I.after hq
  |next=>exact False.elim hq
  |brk=>exact False.elim hq
  |cont=>exact False.elim hq
def Yt (F:aA X.prog X.w X.K X.mg X.base CX k f fd ps sp) (hr:bW k X.A) (hg:Gl X x) (hm:X.mg x=some (.ref f)) (hk:PySem.W.keepIn X.K (.ref f)=true) (hb:Binds X.K fd ps ds) (hd:Vals mH ds) (hx:Passes CX X E)
  (ha:PA X (e::es) t) (g9:(x==("__debug__" :Str))=false:=by decide) (he:starEach (e::es) X.env=(false,eval e X.env)::starEach es X.env:=by rfl) (eX:(backTo pos (starEach es X.env)).any (·.1)=false:=by rfl):
  PE X (.Call (.Name x p) (e::es) [] pos) (uB sp mH E t):=by
 intro pins s σ H Q I h
 refine Zdh (Je I hg hm ?_ g9)
 refine Zf0 (h₀:=X.base) I.ok.mod.nJ hk (aq (ha pos pins s σ H _ I h) fun us s1 ⟨vs,H1,I1,r,q⟩=> ⟨I1.cD,?_⟩) he eX
 exact TR F hr hb hd hx I1 r q
structure Mk (K:Zht) (C f:Addr):Prop where
 makes:PySem.W.makesIn K C=true
 init:PySem.W.findIn K (.ref C) "__init__" =some (some (.ref f))
 fn:PySem.W.isFn K (.ref f)=true
 kp:PySem.W.keepIn K (.ref C)=true
end
def PK (X:Cx) (rX:List Keyword) (t:TA):Prop:=
 ∀(pos:Pos) (pins:List (Addr×Obj)) (s:Shared) (σ:St) (H:Hp) (Q:List V->Hp->Prop),Inv X pins σ H s->t σ H Q->wpAny (model X.prog X.w) X.A (evalAll ((backToKw pos (keywordEach rX X.env)).map (·.2))) (AP X pins σ Q) X.xe s
section
variable {X:Cx}{CX:j8}{k:Nat}{f C:Addr}{fd:FuncData}{ps ks:List Str}{sp:Sp}{E:XK}{x m:Str}{p pos apos rZ:Pos}{e o:Expr}{es:List Expr}{rX:List Keyword}{te ta:TE}{t tk:TA}{nm:Option Str}
def TM:PK X [] qY:=fun _ _ _ _ H Q I h=>wpAny_evalAll_nil ⟨[],H,I,.nil,h⟩
def Xk (ha:PE X e te) (hr:PK X rX t):PK X (⟨nm,e,rZ⟩::rX) (pj te t):=by
 intro pos pins s σ H Q I h
 show wpAny _ _ (evalAll ((do let v <-eval e X.env;standAt pos;pure v)::(backToKw pos (keywordEach rX X.env)).map (·.2))) _ _ s
 refine wpAny_evalAll_cons (AN (aq (ha pins s σ H _ I h) fun u s1 ⟨x,H1,I1,r1,q1⟩=>AN (Zey (Zak ?_))))
 exact aq (hr pos pins s1 σ H1 _ I1 q1) fun us s2 ⟨xs,H2,I2,r2,q2⟩=> ⟨x::xs,H2,I2,.cons r1 r2,q2⟩
structure aaD (K:Zht) (fd:FuncData) (ps ks:List Str) (g:List Value->List Value->List Value) (gV:List V->List V->List V):Prop where
 to:∀(s:Shared) (us ws:List Value),K.In s.heap->(g us ws).length=ps.length->BindsTo s fd ⟨us,ks.zip ws⟩ (ps.zip (g us ws))
 rel:∀{vs:List V}{us:List Value}{zs:List V}{ws:List Value},Vals vs us->Vals zs ws->Vals (gV vs zs) (g us ws)
variable {g:List Value->List Value->List Value}{gV:List V->List V->List V}
end
structure bh (N P:List Str) (sc:Scope):Prop where
 kind:sc.kind=.function
 co:sc.isCoroutine=false
 gen:sc.isGenerator=false
 nd:N.Nodup
 pre:N.take P.length=P
 par:∀x∈P,sc.names.lookup x=some .local∨sc.names.lookup x=some .cell
 Nt:∀y∈sc.names,y.2≠.free
def LZ (N P:List Str) (sc:Scope):Bool:=decide (sc.kind=.function/\sc.isCoroutine=false/\sc.isGenerator=false/\N.Nodup/\N.take P.length=P/\(∀x∈P,sc.names.lookup x=some .local∨sc.names.lookup x=some .cell)/\∀y∈sc.names,y.2≠.free)
def ZN (h:LZ N P sc=true):bh N P sc:=let ⟨a,b,c,d,e,f,g⟩:=Zdk h;⟨a,b,c,d,e,f,g⟩
def UM {kindOf:Str->Option NameKind}{x:Str} :∀{binds:List (Str×Value)}{m:Str->Option Value},(∀v,(x,v)∉binds)->bindL kindOf binds m x=m x
 | [],_,_=>rfl
 |(n,v)::r,m,h=>by
  unfold bindL
  rw[UM fun w hw=>h w (Zap _ hw)]
  split
  ·have:x≠n:=by rintro rfl;exact h v Zau
   simp[this]
  ·rfl
def UO {kindOf:Str->Option NameKind}{x:Str} :∀{binds:List (Str×Value)}{m:Str->Option Value},(∀v,(x,v)∉binds)->bindC kindOf binds m x=m x
 | [],_,_=>rfl
 |(n,v)::r,m,h=>by
  unfold bindC
  rw[UO fun w hw=>h w (Zap _ hw)]
  split
  ·rfl
  ·have:x≠n:=by rintro rfl;exact h v Zau
   simp[this]
def UN {kindOf:Str->Option NameKind}{x:Str}{v:Value} :∀{P:List Str}{vs:List Value}{i:Nat}{m:Str->Option Value},P.Nodup->P[i]? =some x->vs[i]? =some v->kindOf x=some .local->
  bindL kindOf (P.zip vs) m x=some v
 | [],_,_,_,_,h,_,_=>by simp at h
 |_::_,[],_,_,_,_,h,_=>by simp at h
 |p::P,w::vs,0,m,nd,h1,h2,hk=>by
  simp at h1 h2;subst h1;subst h2
  show bindL kindOf ((p,w)::P.zip vs) m p=_
  unfold bindL
  rw[UM fun v hv=> (Zdv.mp nd).1 (ZgC hv).1,Zaq hk]
  simp
 |p::P,w::vs,i+1,m,nd,h1,h2,hk=>by
  show bindL kindOf ((p,w)::P.zip vs) m x=_
  unfold bindL
  exact UN (i:=i) (Zdv.mp nd).2 (by simpa using h1) (by simpa using h2) hk
def UP {kindOf:Str->Option NameKind}{x:Str}{v:Value} :∀{P:List Str}{vs:List Value}{i:Nat}{m:Str->Option Value},P.Nodup->P[i]? =some x->vs[i]? =some v->kindOf x≠some .local->
  bindC kindOf (P.zip vs) m x=some v
 | [],_,_,_,_,h,_,_=>by simp at h
 |_::_,[],_,_,_,_,h,_=>by simp at h
 |p::P,w::vs,0,m,nd,h1,h2,hk=>by
  simp at h1 h2;subst h1;subst h2
  show bindC kindOf ((p,w)::P.zip vs) m p=_
  unfold bindC
  rw[UO fun v hv=> (Zdv.mp nd).1 (ZgC hv).1,Zam hk]
  simp
 |p::P,w::vs,i+1,m,nd,h1,h2,hk=>by
  show bindC kindOf ((p,w)::P.zip vs) m x=_
  unfold bindC
  exact UP (i:=i) (Zdv.mp nd).2 (by simpa using h1) (by simpa using h2) hk
def start (N:List Str) (vs:List V):St:=vs.map some++List.replicate (N.length - vs.length) none
def aF (CX:j8) (P:Program) (w:World) (K:Zht) (mg:Str->Option Value) (base:Heap) (N:List Str) (qual:Str) (scope:Scope) (f:Addr) (cd:Value) (A:Around) (outer:List Env) (s:Shared) (H:Hp) (E:XK):Cx where
 prog:=P
 w:=w
 K:=K
 mg:=mg
 base:=base
 A:=A.deeper (envOfC qual scope s.heap.objs.size f cd)
 N:=N
 cK:=s
 lC:=H
 env:=envOfC qual scope s.heap.objs.size f cd
 outer:=outer
 stack:=envOfC qual scope s.heap.objs.size f cd::outer
 ex:=[]
 calm:=true
 fn:=fun _=>true
 pn:=[]
 xe:=fun e s'=>wpAny (model P w) (A.deeper (envOfC qual scope s.heap.objs.size f cd)) (leaving (envOfC qual scope s.heap.objs.size f cd) e) (fun _ fM=>CX outer H s E e fM) (fun e' fM=>CX outer H s E e' fM) s'
def IC {sc:Scope}(h:sc.names.lookup x=some .cell):∃c,(cellsFrom n sc.names []).lookup x=some c:=by
 have q:=Zgy sc.names n [] (.inl h)
 exact ZdG.mp q
def ZcP {CX:j8}{P:Program}{w:World}{K:Zht}{mg:Str->Option Value}{base:Heap}{N ps:List Str}{qual:Str}{scope:Scope}{f:Addr}{cd:Value}{A:Around}{outer:List Env}{s s1:Shared}{H:Hp}{E:XK}{us:List Value}{vs:List V}
  (S:bh N ps scope) (hd:A.handled=none) (e0:tY P w K mg base A outer s H) (hl:vs.length=ps.length) (r:Vals vs us)
  (x:InCallC s s.heap.objs.size (bindL (envOfC qual scope s.heap.objs.size f cd).kindOf (ps.zip us) fun _=>none) (cellsFrom (s.heap.objs.size+1) scope.names []) (bindC (envOfC qual scope s.heap.objs.size f cd).kindOf (ps.zip us) fun _=>none) s1):
  Inv (aF CX P w K mg base N qual scope f cd A outer s H E) [] (start N vs) H s1:=by
 have eX:ps.length<=N.length:=by have:=Zex List.length S.pre;rw[ZaU]at this;omega
 obtain⟨h1,tk,rfl,hk⟩:=x.done
 have bJ:∀b:Addr,b∉(aF CX P w K mg base N qual scope f cd A outer s H E).ex:=fun b z=>absurd (show b∈([]:List Addr) from z) (by simp)
 refine⟨⟨e0.mod,S.kind,rfl,rfl,Zae _,fun y z c h1 h2=> ?_,fun y hy=> ?_,fun y c _ h=> ?_,fun _=>hd,Around.frames_deeper e0.frames,.inr ⟨rfl,rfl⟩,fun b z=>absurd z (bJ b),e0.bs,e0.jy,fun b _ _=>bJ b,fun b z=>absurd z (bJ b),e0.eI,e0.gL⟩,
  rfl,e0.bare,Un.kept hk,⟨_,x.toInCall.ns,fun i y v h1 h2 h3=> ?_⟩,fun y c h=> ⟨_,x.cell y c h⟩,e0.ai.fresh (Zae _),fun y c h=> ?_,fun p hp=>absurd (show p∈([]:List (Addr×Obj)) from hp) (by simp),e0.ai.kept hk,?_⟩
 ·exact name_of_addr x.apart (ZbV h1) (ZbV h2)
 ·have hy:scope.names.lookup y=some .cell∨scope.names.lookup y=some .free:=hy
  rcases hy with hy |hy
  ·exact IC hy
  ·exact absurd rfl (S.Nt _ (ZbV hy))
 ·exact Zec (x.above y c (ZbV h))
 ·have hi:i<vs.length:=by
   unfold start at h2
   by_cases hi:i<vs.length
   ·exact hi
   ·rw[Zdd (by simpa using hi)]at h2
    rw[ZdM]at h2
    split at h2<;>cases h2
  have ha:vs[i]? =some v:=by
   unfold start at h2
   rw[Zdt (by simpa using hi),ZbG]at h2
   cases e:vs[i]? with
   |none=>rw[e]at h2;cases h2
   |some a=>rw[e]at h2;cases h2;rfl
  obtain⟨u,hu,rv⟩:=r.get ha
  have hp:ps[i]? =some y:=by
   rw[<-S.pre,Zc5 .o];exact h1
  have DD:ps.Nodup:=by rw[<-S.pre];exact S.nd.sublist (ZdS _ _)
  refine⟨u,rv,?_⟩
  rcases S.par y (Zbc hp) with k |k
  ·exact .inl ⟨k,UN DD hp hu k⟩
  ·obtain⟨c,e⟩:=IC (n:=s.heap.objs.size+1) k
   refine .inr ⟨.inl k,c,e,?_⟩
   have q:=x.cell y c e
   rw[UP DD hp hu (by show scope.names.lookup y≠_;rw[k];decide)]at q
   exact q
 ·exact e0.ai.fresh (Zec (x.above y c (ZbV h)))
 ·unfold start
  show _=N.length
  rw[Zas,Zat,Zc9]
  omega
def xp {CX:j8}{P:Program}{w:World}{K:Zht}{mg:Str->Option Value}{base:Heap}{k:Nat}{f:Addr}{name qual:Str}{params:Arguments}{body:List Stmt}{scope:Scope}{dV kV doc pm ao ct oc:Value}{an od:Option Addr}
    {fm:Array (Option Value)}{N ps:List Str}{sp:Sp} (lk:K.lookup f=some ⟨oc,od,.func (PySem.W.fnOf name qual params body scope dV kV doc pm an ao ct),fm⟩) (dh:PySem.W.codeIn K ao qual=true) (S:bh N ps scope)
    (len:∀vs H Q E,sp vs H Q E->vs.length=ps.length)
    (AR:∀(A:Around) (outer:List Env) (s:Shared) (H:Hp) (vs:List V) (Q:VK) (E:XK),bW k (A.deeper (envOfC qual scope s.heap.objs.size f ao))->sp vs H Q E->
      ∃t,fJ (aF CX P w K mg base N qual scope f ao A outer s H E) body t/\t {nx:=fun _ H'=>Q .af H',rt:=Q} (start N vs) H):
    aA P w K mg base CX (k+1) f (PySem.W.fnOf name qual params body scope dV kV doc pm an ao ct) ps sp:=by
  refine⟨len,fun A outer s H args us vs Q E hr e0 hb r eG=> ?_⟩
  have hl:=len _ _ _ _ eG
  have KX:K.In s.heap:=e0.mod.nJ.keeps fun b o e=> (e0.bs b o e).1
  have lim:s.heap.NoLimit:=e0.mod.nolimit.keeps fun b o e=> (e0.bs b o e).1
  have PY:∀y∈ps.zip us,scope.names.lookup y.1=some .local∨(scope.names.lookup y.1=some .cell/\((cellsFrom (s.heap.objs.size+1) scope.names []).lookup y.1).isSome=true):=fun⟨n,v⟩ hy=>by
    rcases S.par n (ZgC hy).1 with q |q
    · exact .inl q
    · exact .inr ⟨q,Zgy _ _ _ (.inl q)⟩
  refine codeAny_call_function hr.depth (KX _ _ lk) rfl S.co S.gen rfl (PySem.W.codeRec_of KX dh) (hb _ _ _ _ ?_)
  refine wpAny_newFunctionEnv_cells S.kind PY fun env he s1 x=> ?_
  subst he
  refine⟨lim.keeps x.toInCall.keep,codeAny_func ?_⟩
  obtain⟨t,ht,hq⟩:=AR A outer s H vs Q E (hr.deeper _) eG
  have I:Inv (aF CX P w K mg base N qual scope f ao A outer s H E) [] (start N vs) H s1:=ZcP S hr.hd e0 hl r x
  refine Zbu (ht [] s1 (start N vs) H _ I hq) (fun fl s' hs=> ?_) fun e s' hs=>hs
  have fin:∀{aj:St}{H':Hp}{v:V}{u:Value},Inv (aF CX P w K mg base N qual scope f ao A outer s H E) [] aj H' s'->RelV v u->Q v H'->CE outer P w H s Q u s':=
    fun {aj H' v u} J rv q=> ⟨v,H',J.os,J.bare,J.base,J.ai,rv,q⟩
  cases fl with
  |ret u=>
   obtain⟨v,aj,H',J,rv,q⟩:=hs
   exact fin J rv q
  |next=>
   obtain⟨aj,H',J,q⟩:=hs
   exact fin (v:=V.af) (u:=Value.none) J rfl q
  |brk=>
   obtain⟨_,_,_,q⟩:=hs
   exact False.elim q
  |cont=>
   obtain⟨_,_,_,q⟩:=hs
   exact False.elim q
section
variable {X:Cx}{x:Str}{p pos:Pos}{e:Expr}{es:List Expr}{t:TA}{id T:String}{r:List V->Hp->VK->Prop}
def Cv (r:List V->Hp->VK->Prop) (t:TA):TE:=fun σ H Q=>t σ H fun vs H1=>r vs H1 Q
def Zp (hc:dW X (.builtin id) r) (hg:Gl X x) (hm:X.mg x=none) (hv:bootBuiltins x=some (.builtin id)) (ha:PA X (e::es) t) (hn:x≠ "__name__" :=by decide) (g9:(x==("__debug__" :Str))=false:=by decide)
  (he:starEach (e::es) X.env=(false,eval e X.env)::starEach es X.env:=by rfl) (eX:(backTo pos (starEach es X.env)).any (·.1)=false:=by rfl):PE X (.Call (.Name x p) (e::es) [] pos) (Cv r t):=by
 intro pins s σ H Q I h
 refine Zdh (YD I hg hm hv ?_ hn g9)
 exact Zfu (aq (ha pos pins s σ H _ I h) fun us s1 ⟨vs,H1,I1,r1,q1⟩=>hc pins s1 σ H1 vs us Q I1 r1 q1) he eX
def Z2 (hc:dW X (.type T) r) (hg:Gl X x) (hm:X.mg x=none) (hv:bootBuiltins x=some (.type T)) (ha:PA X (e::es) t) (hn:x≠ "__name__" :=by decide) (g9:(x==("__debug__" :Str))=false:=by decide)
  (he:starEach (e::es) X.env=(false,eval e X.env)::starEach es X.env:=by rfl) (eX:(backTo pos (starEach es X.env)).any (·.1)=false:=by rfl):PE X (.Call (.Name x p) (e::es) [] pos) (Cv r t):=by
 intro pins s σ H Q I h
 refine Zdh (YD I hg hm hv ?_ hn g9)
 exact Zb2 (aq (ha pos pins s σ H _ I h) fun us s1 ⟨vs,H1,I1,r1,q1⟩=>hc pins s1 σ H1 vs us Q I1 r1 q1) he eX
end
end L2
namespace HT
open PySem PyProof.Rows
def lexLt:List Int->List Int->Bool
 | [],[]=>false
 | [],_::_=>true
 |_::_,[]=>false
 |x::xs,y::ys=>if x=y then lexLt xs ys else decide (x<y)
def DP (x y:Int) (xs ys:List Int):lexLt (x::xs) (y::ys)=if x=y then lexLt xs ys else decide (x<y):=rfl
def Uc:lexLt [] []=false:=rfl
def WJ (y:Int) (ys:List Int):lexLt [] (y::ys)=true:=rfl
def WL (x:Int) (xs:List Int):lexLt (x::xs) []=false:=rfl
def VU (A:Around) (s:Shared) (a:Int) (t:Tok) (c:Int) (u:Tok):∃e,SeqAt.EqAt A s (.int a t) (.int c u) e/\(e=true↔a=c):=
 ⟨(a==c),ZdH a t c u,by simp⟩
def XH (A:Around) (s:Shared) (a:Int) (t:Tok) (c:Int) (u:Tok) (prog:Program) (w:World) (E:Value->Shared->Prop) (Q:Value->Shared->Prop) (h:Q (.bool (decide (a<c))) s):
  wpAny (model prog w) A (richCompare .Lt (.int a t) (.int c u)) Q E s:=
 (PyProof.Rows.lt_int h:wpAny (model prog w) A (compareOp .Lt (.int a t) (.int c u)) Q E s)
section
open PySem.SeqAt
open PySem.AutoSeq1 (wpAny_loadPart')
open PySem.MeetsSeq PySem.MeetsSeq2 PySem.MeetsSeq3
def W0 (l b:Addr) (items items2:Array Value) (n n2:Nat) (dd mI:Option Addr) (sl iw:Array (Option Value)) (ns ms:List Int) (hi:IntsAre items.toList ns) (hj:IntsAre items2.toList ms):
  Meets (Builtin.«tuple.__lt__» ⟨[.ref l,.ref b],[]⟩)
   (fun _ R s=>s.heap.get? l=some {cls:=.type "tuple",dict:=dd,data:=.seq items n,slots:=sl}/\s.heap.get? b=some {cls:=.type "tuple",dict:=mI,data:=.seq items2 n2,slots:=iw}/\
    R (.ok (.ret (.bool (lexLt ns ms)))) s):=
 .of_wp fun prog w A R s h=>by
  obtain⟨hp,g,d,tk,os⟩:=s;obtain⟨hl,hb,h⟩:=h
  have f2:=AutoSeq1.sub_tuple_tuple
  have z1:items.size=ns.length:=by rw[<-hi.length];simp
  have z2:items2.size=ms.length:=by rw[<-hj.length];simp
  wp_walk using wpAny_loadPart' hl,ZgD hb,Zfz _ (fun rest b s'=>b.1=none/\s'=⟨hp,g,d,tk,os⟩/\∃(vs ws:List Value) (pV pX:List Int),rest=vs.zip ws/\
   IntsAre vs pV/\IntsAre ws pX/\pV.length+items2.size=pX.length+items.size/\R (.ok (.ret (.bool (lexLt pV pX)))) ⟨hp,g,d,tk,os⟩) _
  case turn=>
   rintro⟨y,x⟩ rest b s' ⟨cT,rfl,vs,ws,pV,pX,hz,Ab,v8,hlen,hR⟩
   cases Ab with
   |nil=>rw[List.zip_nil_left]at hz;cases hz
   |cons a t OI=>
    cases v8 with
    |nil=>rw[List.zip_nil_right]at hz;cases hz
    |cons c u OH=>
     rw[Zed]at hz
     injection hz with OE Pb
     injection OE with hy hx
     subst hy hx
     rw[DP]at hR
     simp only[ZbA]at hlen
     obtain⟨e,he,EL⟩:=VU A.in1 ⟨hp,g,d,tk,os⟩ a t c u
     refine AN (he prog w _ _ ?_)
     cases e with
     |true=>
      rw[Zaq (EL.mp rfl)]at hR
      wp_walk
      exact⟨rfl,rfl,_,_,_,_,Pb,OI,OH,.o,hR⟩
     |false=>
      rw[Zam (fun q=>absurd (EL.mpr q) Zav)]at hR
      have O8:=XH A.in1 ⟨hp,g,d,tk,os⟩ a t c u prog w
      wp_walk using O8
      exact⟨_,rfl,by simpa using hR⟩
  case fin=>
   rintro⟨b1,b2⟩ s' ⟨cT,rfl,vs,ws,pV,pX,hz,Ab,v8,hlen,hR⟩
   simp only at cT
   subst cT
   have hv:lexLt pV pX=decide (items.size<items2.size):=by
    cases Ab with
    |nil=>
     cases v8 with
     |nil=>
      simp only[Zdw]at hlen
      rw[Uc]
      exact(ZaK .o).symm
     |cons c u hw=>
      simp only[Zdw,ZbA]at hlen
      rw[WJ]
      exact(ZaT .o).symm
    |cons a t hv=>
     cases v8 with
     |nil=>
      simp only[Zdw,ZbA]at hlen
      rw[WL]
      exact(ZaK .o).symm
     |cons c u hw=>
      rw[Zed]at hz
      cases hz
   rw[hv]at hR
   wp_walk
   exact⟨_,rfl,by simpa[Builtin.Tuple.tupleCompareSizes] using hR⟩
  case h=>
   exact⟨rfl,rfl,items.toList,items2.toList,ns,ms,rfl,hi,hj,.o,h⟩
end
section
variable {prog:Program}{w:World}{A:Around}{E:Value->Shared->Prop}{s:Shared}
def DL {items items2:Array Value}(hl:IsTup s.heap l items) (hb:IsTup s.heap b items2) (hi:IntsAre items.toList ns) (hj:IntsAre items2.toList ms)
  (hu:A.units<cLine) (h:Q (.bool (lexLt ns ms)) s):wpAny (model prog w) A (compareOp .Lt (.ref l) (.ref b)) Q E s:=by
 obtain⟨⟨cls,dd,data,sl⟩,ho,hc,n,hd⟩:=id hl
 obtain⟨⟨Gj,mI,data2,iw⟩,gW,jk,n2,hd2⟩:=id hb
 simp only at hc hd jk hd2
 subst hc hd jk hd2
 exact richCompare_meets_room (op:=.Lt) ⟨_,ho,rfl⟩ ⟨_,gW,rfl⟩ PySem.F.slot_tuple_lt PySem.F.entry_tuple_lt (PySem.F.args_tuple_lt_2 _ _) (W0 l b items items2 n n2 dd mI sl iw ns ms hi hj)
  ⟨ho,gW,show Value.bool (lexLt ns ms)≠Value.notImplemented/\Q (.bool (lexLt ns ms)) s from ⟨(fun x=>nomatch x),h⟩⟩ hu
def SY {vs ws:List Value}(ht:IsTup s.heap t vs.toArray) (hb:IsTup s.heap b ws.toArray) (hv:vs≠[])
  (h1:ws=[]->Q (.ref t) s) (h2:ws≠[]->Q (.ref s.heap.objs.size) {s with heap:=s.heap.push {cls:=.type "tuple",data:=.seq (vs++ws).toArray} })
  (hsz:vs.length+ws.length<=sizeLine):wpAny (model prog w) A (binaryOp .Add (.ref t) (.ref b)) Q E s:=by
 obtain⟨⟨cls,dd,data,sl⟩,ho,hc,n,hd⟩:=id ht
 obtain⟨⟨Gj,mI,data2,iw⟩,gW,jk,n2,hd2⟩:=id hb
 simp only at hc hd jk hd2
 subst hc hd jk hd2
 have e:vs.toArray++ws.toArray=(vs++ws).toArray:=by simp
 by_cases hw:ws=[]
 ·exact concat_meets ⟨_,ho,rfl⟩ ⟨_,gW,rfl⟩ Zgr Zg5 Zfk Zfh (Ze9 _ _)
   (tuple_addW1 t b vs.toArray ws.toArray n n2 dd mI sl iw (by simpa using hv) (by simp[hw])) ⟨ho,gW,h1 hw⟩
 ·refine concat_meets ⟨_,ho,rfl⟩ ⟨_,gW,rfl⟩ Zgr Zg5 Zfk Zfh (Ze9 _ _)
   (tuple_addW2 t b vs.toArray ws.toArray n n2 dd mI sl iw (by simpa using hv) (by simpa using hw) (by rw[Zan,Zan];exact hsz)) ⟨ho,gW,?_⟩
  rw[e]
  exact h2 hw
def aK (n d:Nat):Option Int->Nat
 |none=>d
 |some v=>if v<0 then (v+(n:Int)).toNat else min v.toNat n
def vj (n d:Nat):aK n d none=d:=rfl
def vk (n d k:Nat):aK n d (some (k:Int))=min k n:=by
 show(if (k:Int)<0 then ((k:Int)+(n:Int)).toNat else min (k:Int).toNat n)=min k n
 rw[Zam .o,ZdT]
def TV (n d:Nat) (hd:d<=n) (o:Option Int):aK n d o<=n:=by
 cases o with
 |none=>exact hd
 |some v=>
  show(if v<0 then (v+(n:Int)).toNat else min v.toNat n)<=n
  by_cases hv:v<0
  ·rw[Zaq hv];omega
  ·rw[Zam hv];exact Nat.min_le_right _ _
def G9 (v:Int) (n d:Nat):(if v<0 then max (v+(n:Int)) 0 else min v (n:Int))=((aK n d (some v):Nat):Int):=by
 show(if v<0 then max (v+(n:Int)) 0 else min v (n:Int))=(((if v<0 then (v+(n:Int)).toNat else min v.toNat n):Nat):Int)
 by_cases hv:v<0
 ·simp only[Zaq hv];omega
 ·simp only[Zam hv];omega
def Zbn (lo hi:Option Int) (n:Nat):Builtin.Slice.sliceAdjust lo hi 1 (n:Int)=(((aK n 0 lo:Nat):Int),((aK n n hi:Nat):Int)):=by
 have h1:¬((1:Int)<0):=.o
 unfold Builtin.Slice.sliceAdjust
 simp only[h1,Zdp]
 refine Prod.ext ?_ ?_
 ·cases lo with
  |none=>rfl
  |some v=>exact G9 v n 0
 ·cases hi with
  |none=>rfl
  |some v=>exact G9 v n n
def Za6 (i j:Nat):Builtin.Slice.slicePlaces (i:Int) (j:Int) 1=j - i:=by
 unfold Builtin.Slice.slicePlaces
 have h1:(1:Int)>0:=.o
 simp only[h1,ZeL,Int.ediv_one]
 split<;>omega
def Wq (p:IsPart v o) (h:Q o s):wpAny (model prog w) A (Builtin.Slice.slicePartIndex v) Q E s:=by
 cases p with
 |none=>exact slicePart_none h
 |int i t=>exact slicePart_int h
def CJ {sl:Addr}{vl vu:Value}{lo hi:Option Int}{n:Nat}{Q:Int×Int×Nat->Shared->Prop}(hs:s.heap.IsSliceOf sl vl vu .none) (pl:IsPart vl lo) (pu:IsPart vu hi)
  (h:Q (((aK n 0 lo:Nat):Int),1,aK n n hi - aK n 0 lo) s):wpAny (model prog w) A (Builtin.Slice.sliceApplied (.ref sl) (pure (n:Int))) Q E s:=by
 obtain⟨os,nY,wJ,sW⟩:=id hs
 unfold Builtin.Slice.sliceApplied Builtin.Slice.sliceFields
 refine AN (AN (ZbR nY sW (x:=vl) rfl (AN (ZbR nY sW (x:=vu) rfl (AN (ZbR nY sW (x:=.none) rfl (Zak ?_)))))))
 refine AN (slicePart_none ?_)
 show wpAny _ _ (if ((1:Int)==0)=true then _ else _) _ _ s
 rw[Zam .d]
 refine AN (Wq pl (AN (Wq pu (AN (Zak ?_)))))
 show wpAny _ _ (match Builtin.Slice.sliceAdjust lo hi 1 (n:Int) with |(lo,hi)=>pure (lo,(1:Int),Builtin.Slice.slicePlaces lo hi 1)) _ _ s
 rw[Zbn lo hi n]
 show wpAny _ _ (pure (((aK n 0 lo:Nat):Int),(1:Int),Builtin.Slice.slicePlaces ((aK n 0 lo:Nat):Int) ((aK n n hi:Nat):Int) 1)) _ _ s
 rw[Za6]
 exact Zak h
def XC (xs:Array Value) (i k:Nat):((List.range k).filterMap fun(m:Nat)=>xs[((i:Int)+(m:Int)*1).toNat]?).toArray=((xs.toList.drop i).take k).toArray:=by
 have e:(fun(m:Nat)=>xs[((i:Int)+(m:Int)*1).toNat]?)=fun m=>xs[i+m]? :=by
  funext m
  have:((i:Int)+(m:Int)*1).toNat=i+m:=.o
  rw[this]
 rw[e]
 have:=pick_run xs i k
 rw[List.filterMap_map]at this
 have e2:((fun x=>xs[x]?)∘fun x=>i+x)=fun m=>xs[i+m]? :=rfl
 rw[e2]at this
 rw[this]
def QW {t sl:Addr}{items:Array Value}{vl vu:Value}{lo hi:Option Int}{Q:Value->Shared->Prop}(ht:IsTup s.heap t items) (hs:s.heap.IsSliceOf sl vl vu .none) (pl:IsPart vl lo) (pu:IsPart vu hi)
  (hw:¬(aK items.size 0 lo=0/\aK items.size items.size hi=items.size))
  (h:Q (.ref s.heap.objs.size) {s with heap:=s.heap.push {cls:=.type "tuple",data:=.seq ((items.toList.drop (aK items.size 0 lo)).take (aK items.size items.size hi - aK items.size 0 lo)).toArray} })
  (hsz:items.size<=sizeLine):wpAny (model prog w) A (getItem (.ref t) (.ref sl)) Q E s:=by
 have wa:sizeOk (.seq ((items.toList.drop (aK items.size 0 lo)).take (aK items.size items.size hi - aK items.size 0 lo)).toArray):=by
  show((items.toList.drop (aK items.size 0 lo)).take (aK items.size items.size hi - aK items.size 0 lo)).toArray.size<=sizeLine
  rw[Zan,ZaU,ZbD,Zay]
  omega
 have hj:aK items.size items.size hi<=items.size:=TV _ _ (Zae _) hi
 obtain⟨os,nY,wJ,sW⟩:=id hs
 have fP:s.TypeIs (.ref sl) "slice" :=⟨os,nY,wJ⟩
 unfold getItem
 try with_reducible refine ZbT ?_
 first |refine AN (Zak ?_) |skip
 refine AN (wpAny_sequenceKey ht.typeIs .d ?_)
 refine AN (Zb7 (name:=Str.ofString "__getitem__") ht.typeIs Zb3
  (Zdr Zb3 ht.typeIs entry_tuple_getitem ?_ (args_tuple_getitem _ _)))
 show wpAny _ _ (Builtin.Tuple.tupleItemsOf (.ref t) >>=_) _ _ s
 refine AN (tupleItemsOf_ ht ?_)
 refine AN (Zfa fP ?_)
 rw[Zaq .d]
 refine AN (CJ hs pl pu ?_)
 have Aq:¬((((aK items.size 0 lo:Nat):Int)==0&&(1:Int)==1&&(aK items.size items.size hi - aK items.size 0 lo)==items.size)=true):=by
  intro q
  rw[ZaR,ZaR]at q
  have q1:((aK items.size 0 lo:Nat):Int)=0:=eq_of_beq q.1.1
  have q2:aK items.size items.size hi - aK items.size 0 lo=items.size:=eq_of_beq q.2
  exact hw ⟨.o,.o⟩
 show wpAny _ _ (if (((aK items.size 0 lo:Nat):Int)==0&&(1:Int)==1&&(aK items.size items.size hi - aK items.size 0 lo)==items.size)=true then _ else _) _ _ s
 rw[Zam Aq,XC]
 first
  |exact AN (m:=Builtin.Tuple.tupleExact _) (ZbS (Zak ⟨_,rfl,Zak h⟩) wa)
  |exact AN (m:=Builtin.Tuple.tupleExact _) (ZbS (AN (Zak (Zak ⟨_,rfl,Zak h⟩))) wa)
  |exact AN (AN (m:=Builtin.Tuple.tupleExact _) (ZbS (Zak (Zak ⟨_,rfl,Zak h⟩)) wa))
  |exact AN (AN (m:=Builtin.Tuple.tupleExact _) (ZbS (Zak ⟨_,rfl,Zak h⟩) wa))
end
end HT
namespace L2
open PySem PySem.Spec PyProof.Rows
abbrev TO:=St->Hp->(Option Int->Hp->Prop)->Prop
def PO (X:Cx) (e:Option Expr) (t:TO):Prop:=
 ∀(pins:List (Addr×Obj)) (s:Shared) (σ:St) (H:Hp) (Q:Option Int->Hp->Prop),Inv X pins σ H s->t σ H Q->
  wpAny (model X.prog X.w) X.A (evalPart e X.env) (fun u s'=> ∃o H',Inv X pins σ H' s'/\IsPart u o/\Q o H') X.xe s
def yd:TO:=fun _ H Q=>Q none H
def yc (t:TE):TO:=fun σ H Q=>t σ H fun x H1=> ∃i,x=.int i/\Q (some i) H1
def Jw {ns:List Int} :∀{us:List Value},Vals (ns.map V.int) us->IntsAre us ns:=by
 induction ns with
 |nil=>intro us r;rw[ZgE]at r;cases r;exact .nil
 |cons n ns ih=>
  intro us r
  rw[ZbJ]at r
  cases r with
  |cons r1 r2=>
   obtain⟨t,e⟩:=r1
   subst e
   exact .cons n t (ih r2)
section
variable {X:Cx}{e:Expr}{te:TE}{lo hi:Option Expr}{tl th:TO}{pos p2:Pos}
def YX:PO X none yd:=by
 intro pins s σ H Q I h
 rw[evalPart_none]
 exact Zak ⟨none,H,I,.none,h⟩
def YW (h:PE X e te):PO X (some e) (yc te):=by
 intro pins s σ H Q I hw
 rw[evalPart_some]
 refine aq (h pins s σ H _ I hw) fun u s1 ⟨x,H1,I1,r1,q1⟩=> ?_
 obtain⟨i,rfl,q⟩:=q1
 obtain⟨t,rfl⟩:=r1
 exact⟨some i,H1,I1,.int i t,q⟩
def xw (X:Cx) (r:V->Option Int->Option Int->Hp->VK->Prop):Prop:=
 ∀(pins:List (Addr×Obj)) (s:Shared) (σ:St) (H:Hp) (x:V) (v vl vu:Value) (lo hi:Option Int) (sl:Addr) (Q:VK),Inv X pins σ H s->RelV x v->s.heap.IsSliceOf sl vl vu .none->IsPart vl lo->IsPart vu hi->r x lo hi H Q->
  ∃T id,typeLookup (.type T) "__getitem__" =pure (some (.builtin id))/\s.TypeIs v T/\wpAny (model X.prog X.w) X.A (getItem v (.ref sl)) (EP X pins σ Q) X.xe s
def xZ (r:V->Option Int->Option Int->Hp->VK->Prop) (te:TE) (tl th:TO):TE:=fun σ H Q=>te σ H fun x H1=>tl σ H1 fun l H2=>th σ H2 fun u H3=>r x l u H3 Q
def Yy {r:V->Option Int->Option Int->Hp->VK->Prop}(hr:xw X r) (he:PE X e te) (hl:PO X lo tl) (hu:PO X hi th):PE X (.Subscript e (.Slice lo hi none p2) pos) (xZ r te tl th):=by
 intro pins s σ H Q I h
 refine Subscript_ (aq (he pins s σ H _ I h) fun v s1 ⟨x,H1,I1,r1,q1⟩=> ?_)
 refine wpAny_Slice (aq (hl pins s1 σ H1 _ I1 q1) fun vl s2 ⟨l,H2,I2,pl,q2⟩=>aq (hu pins s2 σ H2 _ I2 q2) fun vu s3 ⟨u,H3,I3,pu,q3⟩=> ?_)
 rw[evalPart_none]
 refine Zak ?_
 have I4:Inv X pins σ H3 {s3 with heap:=s3.heap.push {cls:=.type "slice",data:=.fields #[vl,vu,.none]} } :=I3.kept (t':=s3.toks) fun b ob q=>OF _ q
 obtain⟨T,id,hT,ht,hg⟩:=hr pins {s3 with heap:=s3.heap.push {cls:=.type "slice",data:=.fields #[vl,vu,.none]} } σ H3 x v vl vu l u s3.heap.objs.size Q I4 r1 (Heap.IsSliceOf.new ..) pl pu q3
 show wpAny (model X.prog X.w) X.A (subscriptTail e (.Slice lo hi none p2) v (.ref s3.heap.objs.size)) (EP X pins σ Q) X.xe {s3 with heap:=s3.heap.push {cls:=.type "slice",data:=.fields #[vl,vu,.none]} }
 exact tail_any (ops:=[.ref s3.heap.objs.size,v]) ht hT hg (by with_unfolding_all rfl)
def dk (xs:List V) (lo hi:Option Int):List V:=(xs.drop (HT.aK xs.length 0 lo)).take (HT.aK xs.length xs.length hi - HT.aK xs.length 0 lo)
def YH (xs:List V) (lo hi:Option Int):(dk xs lo hi).length<=xs.length:=by
 unfold dk
 rw[ZaU,ZbD]
 omega
def Mj (K:Zht):V->Option Int->Option Int->Hp->VK->Prop:=fun x lo hi H Q=> ∃a xs,x=.ref a/\ah K H a xs/\
 ¬(HT.aK xs.length 0 lo=0/\HT.aK xs.length xs.length hi=xs.length)/\∀p,H p=none->Q (.ref p) (upd H p (.tup (dk xs lo hi)))
def TX:xw X (Mj X.K):=by
 intro pins s σ H x v vl vu lo hi sl Q I rx hs pl pu h
 obtain⟨a,xs,rfl,hx,hw,q⟩:=h
 cases rx
 obtain⟨its,r,ht,hz⟩:=I.tuple hx
 have hlen:its.toArray.size=xs.length:=by rw[Zan];exact r.length.symm
 refine⟨"tuple",_,Zb3.lookup,ht.typeIs,?_⟩
 refine HT.QW ht hs pl pu (by rw[hlen];exact hw) ?_ (by rw[hlen];exact hz)
 rw[hlen]
 refine⟨.ref s.heap.objs.size,_,I.laid (t':=s.toks) (o:=.tup (dk xs lo hi)) (fun b ob q=>OF _ q) (Zae _) ?_,rfl,q _ (I.ai.fresh (Zae _))⟩
 exact⟨Zcd (YH xs lo hi) hz,_,(r.drop (HT.aK xs.length 0 lo)).take (HT.aK xs.length xs.length hi - HT.aK xs.length 0 lo),IsTup.new _ _,_,Zax _ rfl,rfl⟩
def zr (K:Zht):R2:=fun x y H Q=> ∃a b xs ys,x=.ref a/\y=.ref b/\ah K H a xs/\ah K H b ys/\xs≠[]/\xs.length+ys.length<=sizeLine/\
 (ys=[]->Q (.ref a) H)/\(ys≠[]->∀p,H p=none->Q (.ref p) (upd H p (.tup (xs++ys))))
def Vals.zH (r:Vals xs us):us=[]↔xs=[]:=by
 cases r with
 |nil=>simp
 |cons _ _=>simp
def HM:bu X (binaryOp .Add) (zr X.K):=by
 intro pins s σ H x y v u Q I rx ry h
 obtain⟨a,b,xs,ys,rfl,rfl,ha,hb,hx,hz,q1,q2⟩:=h
 cases rx
 cases ry
 obtain⟨its,r1,p1,_⟩:=I.tuple ha
 obtain⟨iH,r2,p2,_⟩:=I.tuple hb
 refine HT.SY p1 p2 (fun z=>hx (r1.zH.mp z)) (fun z=> ⟨.ref a,H,I,rfl,q1 (r2.zH.mp z)⟩) (fun z=> ?_) (by rw[<-r1.length,<-r2.length];exact hz)
 refine⟨.ref s.heap.objs.size,_,I.laid (t':=s.toks) (o:=.tup (xs++ys)) (fun b ob q=>OF _ q) (Zae _) ?_,rfl,q2 (fun w=>z (r2.zH.mpr w)) _ (I.ai.fresh (Zae _))⟩
 exact⟨by rw[Zas];exact hz,_,r1.append r2,IsTup.new _ _,_,Zax _ rfl,rfl⟩
end
def nO (n:Nat) (i:Int):Option Nat:=if 0<=i then (if i<n then some i.toNat else none) else if -(n:Int)<=i then some (i+n).toNat else none
def gA {α:Type} (xs:List α) (i:Int):Option α:=(nO xs.length i).bind fun j=>xs[j]?
def Hy (h:nO n i=some j):seqIndex? i n=some j/\j<n/\ -(n:Int)<=i/\i<n:=by
 unfold nO at h
 by_cases h0:0<=i
 ·rw[Zaq h0]at h
  by_cases h1:i<n
  ·rw[Zaq h1]at h
   have e:i.toNat=j:=ZaQ h
   exact⟨by rw[ZgX h0 h1,e],.o,.o,h1⟩
  ·rw[Zam h1]at h;cases h
 ·rw[Zam h0]at h
  by_cases h1: -(n:Int)<=i
  ·rw[Zaq h1]at h
   have e:(i+n).toNat=j:=ZaQ h
   exact⟨by rw[seqIndex_neg .o h1,e],.o,h1,.o⟩
  ·rw[Zam h1]at h;cases h
def G0 {xs:List α}(h:gA xs i=some v):∃j,seqIndex? i xs.length=some j/\xs[j]? =some v/\j<xs.length/\ -(xs.length:Int)<=i/\i<xs.length:=by
 unfold gA at h
 cases e:nO xs.length i with
 |none=>rw[e]at h;cases h
 |some j=>
  rw[e]at h
  obtain⟨h1,h2,h3,h4⟩:=Hy e
  exact⟨j,h1,h,h2,h3,h4⟩
def Yv {α:Type}{xs:List α}{j:Nat}{v:α}(h:xs[j]? =some v):gA xs (j:Int)=some v:=by
 have hj:j<xs.length:=(Zab.mp h).1
 have e:nO xs.length (j:Int)=some j:=by
  unfold nO
  rw[Zaq .o,Zaq .o];simp
 unfold gA;rw[e];exact h
def aae (b:Expr):Prop:=∀o i,subscripted b false o i=operate [o,i] (getItem o i)
def oX (X:Cx) (r:R2):Prop:=
 ∀(value slice:Expr) (pins:List (Addr×Obj)) (s:Shared) (σ:St) (H:Hp) (x y:V) (v u:Value) (Q:VK),Inv X pins σ H s->RelV x v->RelV y u->r x y H Q->
  subscripted slice false v u=operate [v,u] (getItem v u)->wpAny (model X.prog X.w) X.A (subscriptTail value slice v u) (EP X pins σ Q) X.xe s
def xC (X:Cx) (id:String) (r:V->List V->Hp->VK->Prop):Prop:=
 ∀(pins:List (Addr×Obj)) (s:Shared) (σ:St) (H:Hp) (x:V) (xs:List V) (v:Value) (us:List Value) (Q:VK),Inv X pins σ H s->RelV x v->Vals xs us->r x xs H Q->
  wpAny (model X.prog X.w) X.A (call (.builtin id) (v::us)) (EP X pins σ Q) X.xe s
section
variable {X:Cx}{a b:Expr}{ta tb:TE}{pos:Pos}
def ZF {r:R2}(hr:oX X r) (ha:PE X a ta) (hb:PE X b tb) (hs:aae b):PE X (.Subscript a b pos) (lF r ta tb):=by
 intro pins s σ H Q I h
 exact Subscript_ (Bo ha hb I h fun v u s2 x y H2 I2 rx ry q=>hr a b pins s2 σ H2 x y v u Q I2 rx ry q (hs _ _))
def Mu (K:Zht):R2:=fun x y H Q=> ∃p xs i v,x=.ref p/\y=.int i/\ag K H p xs/\gA xs i=some v/\Q v H
def rO (K:Zht):R2:=fun x y H Q=> ∃p xs i v,x=.ref p/\y=.int i/\ah K H p xs/\gA xs i=some v/\Q v H
def ZY:oX X (Mu X.K):=by
 intro value slice pins s σ H x y v u Q I rx ry h hs
 obtain⟨p,xs,i,z,rfl,rfl,hq,he,q⟩:=h
 cases rx
 obtain⟨t,rfl⟩:=ry
 obtain⟨its,r,pl,hz⟩:=I.list hq
 obtain⟨j,h1,h2,h3,h4,h5⟩:=G0 he
 obtain⟨w,ew,iZ⟩:=r.get h2
 have hl:=r.length
 have hn:=vS
 have fin:EP X pins σ Q w s:=⟨z,H,I,iZ,q⟩
 by_cases h0:0<=i
 ·have hj:i.toNat=j:=by
   rw[ZgX h0 h5]at h1
   exact ZaQ h1
  exact item_listR pl.isList h0 .o (by rw[hj];simpa using ew) fin hs
 ·have hj:(i+(its.toArray.size:Int)).toNat=j:=by
   rw[seqIndex_neg .o h4]at h1
   rw[Zan,<-hl]
   exact ZaQ h1
  exact subscriptTail_builtinR (x:=w) pl.isList.typeIs slot_list_getitem.lookup
   (wpAny_getItem_list_neg (Q:=fun r s'=>r=w/\EP X pins σ Q r s') pl.isList .o (by rw[Zan]<;>omega) .o (by rw[hj];simpa using ew) ⟨rfl,fin⟩) hs
def ZP:oX X (rO X.K):=by
 intro value slice pins s σ H x y v u Q I rx ry h hs
 obtain⟨p,xs,i,z,rfl,rfl,hq,he,q⟩:=h
 cases rx
 obtain⟨t,rfl⟩:=ry
 obtain⟨its,r,pl,hz⟩:=I.tuple hq
 obtain⟨j,h1,h2,h3,h4,h5⟩:=G0 he
 obtain⟨w,ew,iZ⟩:=r.get h2
 have hl:=r.length
 have hn:=vS
 have fin:EP X pins σ Q w s:=⟨z,H,I,iZ,q⟩
 exact subscriptTail_builtinR (x:=w) pl.typeIs slot_tuple_getitem.lookup
  (getItem_tuple (j:=j) (Q:=fun r s'=>r=w/\EP X pins σ Q r s') pl .o .o (by rw[Zan,<-hl];exact h1) (by simpa using ew) ⟨rfl,fin⟩) hs
def Zba (its:List Value) (n j:Nat) (u:Value):Obj.mapSeq (·.setIfInBounds j u) {cls:=.type "list",data:=.seq its.toArray n} = {cls:=.type "list",data:=.seq (its.set j u).toArray n} :=by
 simp[Obj.mapSeq]
def Inv.lst {pins:List (Addr×Obj)}{σ:St}{H:Hp}{s:Shared}{p:Addr}{xs:List V}(I:Inv X pins σ H s) (h:H p=some (.lst xs)):
  ∃(its:List Value) (n:Nat),Vals xs its/\s.heap.get? p=some {cls:=.type "list",data:=.seq its.toArray n}/\xs.length<=sizeLine:=by
 obtain⟨z,its,n,r,e⟩:=I.ai p _ h
 exact⟨its,n,r,e,z⟩
def Inv.N5 {s:Shared}{xs ys:List V}{its its':List Value}{n n':Nat}{f:Obj->Obj}(I:Inv X pins σ H s) (h:H p=some (.lst xs))
  (ho:s.heap.get? p=some {cls:=.type "list",data:=.seq its.toArray n}) (hf:f {cls:=.type "list",data:=.seq its.toArray n} = {cls:=.type "list",data:=.seq its'.toArray n'}) (r:Vals ys its') (hz:ys.length<=sizeLine) (t:Nat):
  Inv X pins σ (upd H p (.lst ys)) {s with heap:=s.heap.update p f,toks:=t} :=by
 have e:(s.heap.update p f).get? p=some {cls:=.type "list",data:=.seq its'.toArray n'} :=by
  rw[Zdl f ho (by rw[hf]<;>rfl),hf]
 refine I.write (x:=p) (e:=p) (by rw[h];trivial) (.inl rfl) (fun b u hb q=> (ZbQ _ _ (ZdL hb)).trans q) ⟨_,e⟩ ?_
 exact⟨hz,its',n',r,e⟩
def Mm:V->V->V->Hp->(Hp->Prop)->Prop:=fun o i v H Q=> ∃p xs k j,o=.ref p/\i=.int k/\H p=some (.lst xs)/\nO xs.length k=some j/\Q (upd H p (.lst (xs.set j v)))
def Iw:IT X Mm:=by
 intro pins s σ H o i v ov iv u Q I ro ri rv h
 obtain⟨p,xs,k,j,rfl,rfl,hp,hj,q⟩:=h
 cases ro
 obtain⟨t,rfl⟩:=ri
 obtain⟨its,n,r,ho,hz⟩:=I.lst hp
 obtain⟨h1,h2,h3,h4⟩:=Hy hj
 have hl:=r.length
 have hn:=vS
 have I':Inv X pins σ (upd H p (.lst (xs.set j v))) {s with heap:=s.heap.update p (Obj.mapSeq (·.setIfInBounds j u))} :=
  I.N5 hp ho (Zba its n j u) (r.set rv j) (by rw[List.length_set];exact hz) s.toks
 by_cases h0:0<=k
 ·have hk:k.toNat=j:=by
   rw[ZgX h0 h4]at h1
   exact ZaQ h1
  exact PySem.W.ki_setAt ho h0 .o (by rw[Zan,<-hl];exact h4) (by rw[hk];exact⟨_,I',q⟩)
 ·have hk:(k+(its.toArray.size:Int)).toNat=j:=by
   rw[seqIndex_neg .o h3]at h1
   rw[Zan,<-hl]
   exact ZaQ h1
  exact PySem.W.ki_setBack ho .o (by rw[Zan,<-hl];exact h3) .o (by rw[hk];exact⟨_,I',q⟩)
def US (lo hi:Option Int) (n:Nat):(sliceBounds lo hi none n).1=((HT.aK n 0 lo:Nat):Int)/\(sliceBounds lo hi none n).2.1=((HT.aK n n hi:Nat):Int)/\(sliceBounds lo hi none n).2.2=1:=by
 refine⟨?_,?_,rfl⟩
 ·cases lo with
  |none=>simp[sliceBounds,HT.aK]
  |some i=>
   simp only[sliceBounds,HT.aK,Option.getD_none,show(1:Int)>0 by decide,ZeL]
   by_cases h:i<0
   ·simp only[h,ZeL]<;>omega
   ·simp only[h,Zdp]<;>omega
 ·cases hi with
  |none=>simp[sliceBounds,HT.aK]
  |some i=>
   simp only[sliceBounds,HT.aK,Option.getD_none,show(1:Int)>0 by decide,ZeL]
   by_cases h:i<0
   ·simp only[h,ZeL]<;>omega
   ·simp only[h,Zdp]<;>omega
def W2 (its:List Value) (lo hi:Option Int):slicePick its.toArray lo hi none=((its.drop (HT.aK its.length 0 lo)).take (HT.aK its.length its.length hi - HT.aK its.length 0 lo)).toArray:=by
 obtain⟨h1,h2,h3⟩:=US lo hi its.toArray.size
 unfold slicePick
 rw[h1,h2,h3]
 simp only[sliceRange_one,pick_run,Zan]<;>rfl
def Ml (K:Zht):V->Option Int->Option Int->Hp->VK->Prop:=fun x lo hi H Q=> ∃a xs,x=.ref a/\ag K H a xs/\∀p,H p=none->Q (.ref p) (upd H p (.lst (dk xs lo hi)))
def Ht:xw X (Ml X.K):=by
 intro pins s σ H x v vl vu lo hi sl Q I rx hs pl pu h
 obtain⟨a,xs,rfl,hx,q⟩:=h
 cases rx
 obtain⟨its,r,ht,hz⟩:=I.list hx
 have hlen:=r.length
 refine⟨"list",_,slot_list_getitem.lookup,ht.isList.typeIs,?_⟩
 refine wpAny_getItem_list_slice ht.isList hs pl pu .none (by simp) ?_ (by rw[Zan]<;>omega)
 rw[W2,<-hlen]
 refine⟨.ref s.heap.objs.size,_,I.laid (t':=s.toks) (o:=.lst (dk xs lo hi)) (fun b ob q=>OF _ q) (Zae _) ?_,rfl,q _ (I.ai.fresh (Zae _))⟩
 exact⟨Zcd (YH xs lo hi) hz,_,0,(r.drop (HT.aK xs.length 0 lo)).take (HT.aK xs.length xs.length hi - HT.aK xs.length 0 lo),Zax _ rfl⟩
def gp:V->Bool
 | .af=>true
 | .bl _=>true
 | .int _=>true
 | .str _=>true
 |_=>false
def fb:V->V->Bool
 | .af,.af=>true
 | .bl a,.bl b=>a==b
 | .bl a,.int b=> (if a then 1 else 0)==b
 | .int a,.bl b=>a==(if b then 1 else 0)
 | .int a,.int b=>a==b
 | .str a,.str b=>a==b
 |_,_=>false
def Vh (ry:RelV y u) (rx:RelV x v) (fy:gp y=true) (fx:gp x=true):SeqAt.EqAt A s u v (fb y x):=by
 cases y with
 |af=>
  cases ry
  cases x with
  |af=>cases rx;exact SeqAt.EqAt.same _
  |bl b=>cases rx;exact SeqAt.EqAt.none_bool b
  |int b=>obtain⟨t,rfl⟩:=rx;exact SeqAt.EqAt.none_int b t
  |str b=>obtain⟨t,rfl⟩:=rx;exact SeqAt.EqAt.none_str b t
  |_=>exact absurd (show false=true from fx) Zav
 |bl a=>
  cases ry
  cases x with
  |af=>cases rx;exact SeqAt.EqAt.bool_none a
  |bl b=>cases rx;exact SeqAt.EqAt.bool_bool a b
  |int b=>obtain⟨t,rfl⟩:=rx;exact SeqAt.EqAt.bool_int a b t
  |str b=>obtain⟨t,rfl⟩:=rx;exact SeqAt.EqAt.bool_str a b t
  |_=>exact absurd (show false=true from fx) Zav
 |int a=>
  obtain⟨t',rfl⟩:=ry
  cases x with
  |af=>cases rx;exact SeqAt.EqAt.int_none a t'
  |bl b=>cases rx;exact SeqAt.EqAt.int_bool a t' b
  |int b=>obtain⟨t,rfl⟩:=rx;exact ZdH a t' b t
  |str b=>obtain⟨t,rfl⟩:=rx;exact SeqAt.EqAt.int_str a t' b t
  |_=>exact absurd (show false=true from fx) Zav
 |str a=>
  obtain⟨t',rfl⟩:=ry
  cases x with
  |af=>cases rx;exact SeqAt.EqAt.str_none a t'
  |bl b=>cases rx;exact SeqAt.EqAt.str_bool a t' b
  |int b=>obtain⟨t,rfl⟩:=rx;exact SeqAt.EqAt.str_int a t' b t
  |str b=>obtain⟨t,rfl⟩:=rx;exact SeqAt.EqAt.str_str a t' b t
  |_=>exact absurd (show false=true from fx) Zav
 |_=>exact absurd (show false=true from fy) Zav
def hV (x:V) (u:Value):Bool:=match u with
 | .none=>fb .af x
 | .bool b=>fb (.bl b) x
 | .int i _=>fb (.int i) x
 | .str z _=>fb (.str z) x
 |_=>false
def xr (r:RelV y u) (f:gp y=true):hV x u=fb y x:=by
 cases y with
 |af=>cases r;rfl
 |bl b=>cases r;rfl
 |int i=>obtain⟨t,rfl⟩:=r;rfl
 |str z=>obtain⟨t,rfl⟩:=r;rfl
 |_=>exact absurd (show false=true from f) Zav
def BH {x:V} :∀{xs:List V}{us:List Value},Vals xs us->xs.all gp=true->us.any (hV x)=xs.any fun y=>fb y x
 |_,_,.nil,_=>rfl
 |y::xs,u::us,.cons r t,f=>by
  rw[Zgg,ZaR]at f
  rw[ZfM,ZfM,xr r f.1,BH t f.2]
def Y5 {A:Around}{s:Shared}{x:V}{v:Value}(rx:RelV x v) (fx:gp x=true):∀{xs:List V}{us:List Value},Vals xs us->xs.all gp=true->∀u∈us,SeqAt.EqAt A s u v (hV x u)
 |_,_,.nil,_=>fun u hu=>by cases hu
 |y::xs,u::us,.cons r t,f=>fun u' hu=>by
  rw[Zgg,ZaR]at f
  rcases Zao.mp hu with rfl |hu
  ·rw[xr r f.1];exact Vh r rx f.1 fx
  ·exact Y5 rx fx t f.2 u' hu
def iI (x:V) (xs:List V):Bool:=xs.any fun y=>fb y x
def C9 (K:Zht) (neg:Bool):R2:=fun x y H Q=> ∃p xs,y=.ref p/\(ag K H p xs∨ah K H p xs)/\gp x=true/\xs.all gp=true/\Q (.bl (if neg then !iI x xs else iI x xs)) H
def U0:bu X (compareOp .NotIn) (C9 X.K true):=by
 intro pins s σ H x y v u Q I rx ry h
 obtain⟨p,xs,rfl,hq,fx,fs,q⟩:=h
 cases ry
 rcases hq with hq |hq
 ·obtain⟨its,r,pl,hz⟩:=I.list hq
  refine SeqAt.notIn_listAt (hV x) pl.isList (fun w hw=>Y5 rx fx r fs w (by simpa using hw)) ⟨.bl _,H,I,rfl,?_⟩
  rw[show its.toArray.any (hV x)=its.any (hV x) by simp,BH r fs]
  exact q
 ·obtain⟨its,r,pl,hz⟩:=I.tuple hq
  refine SeqAt.notIn_tupleAt (hV x) pl (fun w hw=>Y5 rx fx r fs w (by simpa using hw)) ⟨.bl _,H,I,rfl,?_⟩
  rw[show its.toArray.any (hV x)=its.any (hV x) by simp,BH r fs]
  exact q
def ZG:dW X (.builtin "len") (fun xs H Q=> ∃p ys,xs=[.ref p]/\(ag X.K H p ys∨ah X.K H p ys)/\Q (.int ys.length) H):=by
 intro pins s σ H xs us Q I r h
 obtain⟨p,ys,rfl,hq,q⟩:=h
 obtain⟨u,rfl,rx⟩:=ZfU r
 cases rx
 have hn:=vS
 rcases hq with hq |hq
 ·obtain⟨its,r',pl,hz⟩:=I.list hq
  have hlen:=r'.length
  exact Calls.call_len_list pl.isList (by simp only[Zan]<;>omega) ⟨.int ys.length,H,I.tok _,⟨s.toks+1,by rw[Zan,hlen]⟩,q⟩
 ·obtain⟨its,r',pl,hz⟩:=I.tuple hq
  have hlen:=r'.length
  exact len_tuple pl (by simp only[Zan]<;>omega) ⟨.int ys.length,H,I.tok _,⟨s.toks+1,by rw[Zan,hlen]⟩,q⟩
def Zac:dW X (.type "list") (fun xs H Q=> ∃p ys,xs=[.ref p]/\(ag X.K H p ys∨ah X.K H p ys)/\∀l,H l=none->Q (.ref l) (upd H l (.lst ys))):=by
 intro pins s σ H xs us Q I r h
 obtain⟨p,ys,rfl,hq,q⟩:=h
 obtain⟨u,rfl,rx⟩:=ZfU r
 cases rx
 have fin:∀(its:List Value),Vals ys its->ys.length<=sizeLine->∀(h':Heap) (c':Nat),(∀b o',s.heap.get? b=some o'->h'.get? b=some o')->
   h'.get? s.heap.objs.size=some {cls:=.type "list",dict:=none,data:=.seq its.toArray c',slots:= #[]}->EP X pins σ Q (.ref s.heap.objs.size) {s with heap:=h'} :=fun its r' hz h' c' kp e=>
  ⟨.ref s.heap.objs.size,_,I.laid (t':=s.toks) kp (Zae _) (show bw X.prog X.w _ h' _ (.lst ys) from ⟨hz,its,c',r',e⟩),rfl,q _ (I.ai.fresh (Zae _))⟩
 rcases hq with hq |hq
 ·obtain⟨its,r',pl,hz⟩:=I.list hq
  have hlen:=r'.length
  obtain⟨o,ho,hc,n,hd⟩:=pl.isList
  exact call_list_seq p (.inl rfl) ho hc hd (fun h' c' kp e=>fin its r' hz h' c' kp e) (by simp only[Zan]<;>omega)
 ·obtain⟨its,r',pl,hz⟩:=I.tuple hq
  have hlen:=r'.length
  obtain⟨o,ho,hc,n,hd⟩:=pl
  exact call_list_seq p (.inr rfl) ho hc hd (fun h' c' kp e=>fin its r' hz h' c' kp e) (by simp only[Zan]<;>omega)
def Jp:dW X (.type "tuple") (fun xs H Q=> ∃p ys,xs=[.ref p]/\((ag X.K H p ys/\∀l,H l=none->Q (.ref l) (upd H l (.tup ys)))∨(ah X.K H p ys/\Q (.ref p) H))):=by
 intro pins s σ H xs us Q I r h
 obtain⟨p,ys,rfl,h⟩:=h
 obtain⟨u,rfl,rx⟩:=ZfU r
 cases rx
 rcases h with ⟨hq,q⟩ |⟨hq,q⟩
 ·obtain⟨its,r',pl,hz⟩:=I.list hq
  have hlen:=r'.length
  refine call_tuple_list pl.isList (fun h' kp=> ?_) (by simp only[Zan]<;>omega)
  have I1:Inv X pins σ H {s with heap:=h'} :=I.kept (t':=s.toks) kp
  have I2:Inv X pins σ (upd H h'.objs.size (.tup ys)) {s with heap:=h'.push {cls:=.type "tuple",data:=.seq its.toArray} } :=
   I1.laid (t':=s.toks) (fun b o e=>OF _ e) (Zae _) (show bw X.prog X.w _ _ _ (.tup ys) from ⟨hz,its,r',IsTup.new _ _,_,Zax _ rfl,rfl⟩)
  exact⟨.ref h'.objs.size,_,I2,rfl,q _ (I1.ai.fresh (Zae _))⟩
 ·obtain⟨its,r',pl,hz⟩:=I.tuple hq
  exact call_tuple_same pl ⟨.ref p,H,I,rfl,q⟩
def xT (K:Zht) (T:String) (x:V) (H:Hp):Prop:=match x with
 | .str _=>T= "str"
 | .int _=>T= "int"
 | .ref p=> (T= "list" /\∃xs,ag K H p xs)∨(T= "tuple" /\((∃o,K.lookup p=some o/\o.cls=.type "tuple" /\o.dict=none)∨∃xs,H p=some (.tup xs)))∨
   (T= "dict" /\((∃kvs,H p=some (.dK kvs))∨∃kvs,H p=some (.dT kvs)))∨(T= "set" /\∃S n,H p=some (.set S n))
 |_=>False
def Hh {s:Shared}(I:Inv X pins σ H s) (r:RelV x v) (ty:xT X.K T x H):
  s.TypeIs v T/\∀a,v=.ref a->∃ob,s.heap.get? a=some ob/\ob.dict=none:=by
 cases x with
 |str z=>
  obtain⟨t,rfl⟩:=r
  cases (show T= "str" from ty)
  exact⟨typeIs_str s z t,fun _ e=>nomatch e⟩
 |int i=>
  obtain⟨t,rfl⟩:=r
  cases (show T= "int" from ty)
  exact⟨ZgP s i t,fun _ e=>nomatch e⟩
 |ref p=>
  cases r
  rcases ty with ⟨rfl,xs,hq⟩ |⟨rfl,⟨o,hk,hc,hd⟩ |⟨xs,hx⟩⟩ |⟨rfl,hk⟩ |⟨rfl,S,n,hk⟩
  ·obtain⟨its,_,pl,_⟩:=I.list hq
   refine⟨pl.isList.typeIs,fun a e=> ?_⟩
   cases e
   obtain⟨o,n,e,c,hd,_⟩:=pl
   exact⟨o,e,hd⟩
  ·refine⟨⟨o,I.cD p o hk,hc⟩,fun a e=> ?_⟩
   cases e
   exact⟨o,I.cD _ o hk,hd⟩
  ·obtain⟨_,_,_,⟨o,e,c,_⟩,o2,e2,hd⟩:=(show bw X.prog X.w H s.heap p (.tup xs) from I.ai p _ hx)
   refine⟨⟨o,e,c⟩,fun a e3=> ?_⟩
   cases e3
   exact⟨o2,e2,hd⟩
  ·have z:∃o,s.heap.get? p=some o/\o.ExactDict:=by
    rcases hk with ⟨kvs,hk⟩ |⟨kvs,hk⟩
    ·obtain⟨_,_,_,_,o,_,_,e,ex,_⟩:=I.ai p _ hk
     exact⟨o,e,ex⟩
    ·obtain⟨_,_,_,_,o,_,_,e,ex,_⟩:=I.ai p _ hk
     exact⟨o,e,ex⟩
   obtain⟨o,e,ex⟩:=z
   refine⟨⟨o,e,ex.1⟩,fun a e2=> ?_⟩
   cases e2
   exact⟨o,e,ex.2.1⟩
  ·obtain⟨o,_,_,_,e,ex,_⟩:=I.ai p _ hk
   refine⟨⟨o,e,ex.1⟩,fun a e2=> ?_⟩
   cases e2
   exact⟨o,e,ex.2.1⟩
 |_=>exact False.elim ty
def Ln (K:Zht) (T:String) (r:V->List V->Hp->VK->Prop) (to:TE):TE:=fun σ H Q=>to σ H fun x H1=>xT K T x H1/\r x [] H1 Q
def Lo (K:Zht) (T:String) (r:V->List V->Hp->VK->Prop) (to:TE) (t:TA):TE:=fun σ H Q=>to σ H fun x H1=>xT K T x H1/\t σ H1 fun xs H2=>r x xs H2 Q
variable {o e:Expr}{es:List Expr}{to:TE}{t:TA}{name:Str}{apos cz:Pos}{T id:String}{r:V->List V->Hp->VK->Prop}
def TJ (pa:PlainAttrs T) (slot:Slot T name id) (Ac:typeOf (.builtin id)=pure (.type "method_descriptor")) (hm:xC X id r) (ho:PE X o to)
  (AU:attributeBase o name X.env (eval o X.env)=eval o X.env:=by rfl) (Aw:(apos.endLine==cz.line)=true:=by rfl):PE X (.Call (.Attribute o name apos) [] [] cz) (Ln X.K T r to):=by
 intro pins s σ H Q I h
 refine wpAny_Call_method0_late AU Aw (aq (ho pins s σ H _ I h) fun v s1 ⟨x,H1,I1,r1,ty,q1⟩=> ?_)
 obtain⟨h1,h2⟩:=Hh I1 r1 ty
 exact⟨T,id,pa,slot,Ac,h1,h2,Zfl rfl (PySem.evalArgs_none (hm pins s1 σ H1 x [] v [] Q I1 r1 .nil q1))⟩
def Yq (pa:PlainAttrs T) (slot:Slot T name id) (Ac:typeOf (.builtin id)=pure (.type "method_descriptor")) (hm:xC X id r) (ho:PE X o to) (ha:PA X (e::es) t)
    (AU:attributeBase o name X.env (eval o X.env)=eval o X.env:=by rfl)
    (Qa:((backTo cz (starEach (e::es) X.env)).all (fun x=> !x.1)&&(backToKw cz (keywordEach [] X.env)).all (fun x=>x.1.isSome)
      &&decide ((e::es).length+([]:List Keyword).length+(if ([]:List Keyword).isEmpty then 0 else 1)<30))=true:=by rfl)
    (Aw:(apos.endLine==cz.line)=true:=by rfl) (hs:starEach (e::es) X.env=(false,eval e X.env)::starEach es X.env:=by rfl) (Pf:(backTo cz (starEach es X.env)).any (·.1)=false:=by rfl):
    PE X (.Call (.Attribute o name apos) (e::es) [] cz) (Lo X.K T r to t):=by
  intro pins s σ H Q I h
  refine wpAny_Call_method_late AU Qa Aw rfl (aq (ho pins s σ H _ I h) fun v s1 ⟨x,H1,I1,r1,ty,q1⟩=> ?_)
  obtain⟨h1,h2⟩:=Hh I1 r1 ty
  refine⟨T,id,pa,slot,Ac,h1,h2,?_⟩
  have hA:=ha cz pins s1 σ H1 _ I1 q1
  rw[hs]at hA |-
  refine Zfl (by show(false||(backTo cz (starEach es X.env)).any (·.1))=false;rw[Pf]<;>rfl) (ZfH ?_)
  exact aq hA fun us s2 ⟨vs,H2,I2,r2,q2⟩=>hm pins s2 σ H2 x vs v us Q I2 r1 r2 q2
end
def xD (X:Cx) (id:String) (r:V->List V->Hp->VK->Prop):Prop:=
 ∀(pins:List (Addr×Obj)) (s:Shared) (σ:St) (H:Hp) (x:V) (xs:List V) (v:Value) (us:List Value) (Q:VK),Inv X pins σ H s->RelV x v->Vals xs us->r x xs H Q->
  wpAny (model X.prog X.w) X.A (call (.builtin id) (v::us)) (EP X pins σ Q) X.xe s
def Vals.one:∀{x:V}{us:List Value},Vals [x] us->∃u,us=[u]/\RelV x u
 |_,_,.cons r .nil=> ⟨_,rfl,r⟩
def Vals.zero:∀{us:List Value},Vals [] us->us=[]
 |_,.nil=>rfl
def Vals.eraseIdx:∀{xs:List V}{us:List Value}(i:Nat),Vals xs us->Vals (xs.eraseIdx i) (us.eraseIdx i)
 |_,_,_,.nil=> .nil
 |_,_,0,.cons _ t=>t
 |_,_,i+1,.cons r t=> .cons r (Vals.eraseIdx i t)
def Vals.reverse {xs:List V}{us:List Value}(h:Vals xs us):Vals xs.reverse us.reverse:=by
 induction h with
 |nil=>exact .nil
 |cons r t ih=>rw[Zga,Zga];exact Vals.append ih (.cons r .nil)
def Vals.rep {xs:List V}{us:List Value}(h:Vals xs us):∀k:Nat,Vals (List.replicate k xs).flatten (List.replicate k us).flatten
 |0=> .nil
 |k+1=>by
  rw[Zdi,Zdi,ZeS,ZeS]
  exact Vals.append h (Vals.rep h k)
def UA {α:Type} :∀(l:List α) (i:Nat),(l.eraseIdx i).length<=l.length
 | [],_=>Zae _
 |_::_,0=>Ze3 _
 |_::r,i+1=>Nat.succ_le_succ (UA r i)
def J6 (its:List Value):∀(k:Nat) (acc:List Value),
  List.foldl (fun x1 x2=>x1++x2) acc.toArray (List.replicate k its.toArray)=(acc++(List.replicate k its).flatten).toArray
 |0,acc=>by simp
 |k+1,acc=>by
  have e:acc.toArray++its.toArray=(acc++its).toArray:=by simp
  have e2:(acc++its)++(List.replicate k its).flatten=acc++(List.replicate (k+1) its).flatten:=by
   rw[Zdi,ZeS,Zbp]
  rw[<-e2,<-J6 its k (acc++its),<-e,Zdi,ZeM]
section
variable {X:Cx}{pins:List (Addr×Obj)}{σ:St}{H:Hp}{s:Shared}{l b:Addr}{xs ys zs:List V}
def Inv.vM {its its':List Value}{n:Nat}{f:Array Value->Array Value}{t':Nat}(I:Inv X pins σ H s) (hH:H l=some (.lst xs))
  (e:s.heap.get? l=some {cls:=.type "list",data:=.seq its.toArray n}) (hf:f its.toArray=its'.toArray) (hv:Vals ys its') (hz:ys.length<=sizeLine):
  Inv X pins σ (upd H l (.lst ys)) {s with heap:=s.heap.update l (Obj.mapSeq f),toks:=t'} :=by
 have q:=PySem.IsL.update e f
 rw[hf]at q
 refine I.write (x:=l) (e:=l) (by rw[hH];exact trivial) (.inl rfl) (fun b' u hb hu=> (ZbQ s.heap (Obj.mapSeq f) (ZdL hb)).trans hu) ⟨_,q⟩ ?_
 exact⟨hz,its',_,hv,q⟩
def Inv.DM {t':Nat}(I:Inv X pins σ H s) (hv:Vals ys its) (hz:ys.length<=sizeLine):
  Inv X pins σ (upd H s.heap.objs.size (.lst ys)) {s with heap:=s.heap.push {cls:=.type "list",data:=.seq its.toArray},toks:=t'} :=
 I.laid (fun _ _ q=>OF _ q) (Zae _) ⟨hz,its,0,hv,Zax _ rfl⟩
def Inv.fresh (I:Inv X pins σ H s):H s.heap.objs.size=none:=I.ai.fresh (Zae _)
def Inv.lT (I:Inv X pins σ H s) (hH:H l=some (.lst xs)):xs.length<=sizeLine/\∃(its:List Value) (n:Nat),Vals xs its/\xs.length=its.length/\s.heap.get? l=some {cls:=.type "list",data:=.seq its.toArray n} :=by
 obtain⟨z,its,n,r,e⟩:=I.ai l _ hH
 exact⟨z,its,n,r,r.length,e⟩
def Dt (h:n<=sizeLine):Builtin.List.listTooLong n=false:=by
 unfold Builtin.List.listTooLong
 exact ZaK .o
end
section
variable {X:Cx}
def Mz:V->List V->Hp->VK->Prop:=fun x vs H Q=> ∃l xs y,x=.ref l/\vs=[y]/\H l=some (.lst xs)/\xs.length<sizeLine/\Q .af (upd H l (.lst (xs++[y])))
def ZV:xD X "list.append" Mz:=by
 intro pins s σ H x vs v us Q I rx rv h
 obtain⟨l,xs,y,rfl,rfl,hH,hz,q⟩:=h
 cases rx
 obtain⟨u,rfl,ru⟩:=rv.one
 obtain⟨z,its,n,r,hl,e⟩:=I.lT hH
 refine Zd6 F.slot_list_append ⟨_,e,rfl⟩ F.entry_list_append (F.args_list_append_2 _ _) (Zhl l its.toArray n u (by rw[Zan];omega)) ⟨e,?_⟩
 refine⟨.af,_,I.vM (its':=its++[u]) hH e (by simp) (r.append (.cons ru .nil)) ?_,rfl,q⟩
 rw[Zas,Zdx]
 omega
def Mv:V->List V->Hp->VK->Prop:=fun x vs H Q=> ∃l b xs zs,x=.ref l/\vs=[.ref b]/\H l=some (.lst xs)/\H b=some (.lst zs)/\xs.length+zs.length<=sizeLine/\Q .af (upd H l (.lst (xs++zs)))
def ZcF:xD X "list.extend" Mv:=by
 intro pins s σ H x vs v us Q I rx rv h
 obtain⟨l,b,xs,zs,rfl,rfl,hH,hB,hz,q⟩:=h
 cases rx
 obtain⟨u,rfl,ru⟩:=rv.one
 cases ru
 obtain⟨z,its,n,r,hl,e⟩:=I.lT hH
 obtain⟨z2,iH,n2,r2,gZ,e2⟩:=I.lT hB
 have hsz:its.toArray.size+iH.toArray.size<=sizeLine:=by rw[Zan,Zan];omega
 have Au:¬(!its.toArray.isEmpty&&Builtin.List.listTooLong (its.toArray.size+iH.toArray.size))=true:=by
  rw[Dt hsz,Zel]
  exact Zav
 refine Zd6 F.slot_list_extend ⟨_,e,rfl⟩ F.entry_list_extend (F.args_list_extend_2 _ _)
  (AutoSeq1.list_extend_list_list_0 l its.toArray n b iH.toArray n2 Au (by rw[Zan];omega) .o) ⟨e,e2,?_⟩
 refine⟨.af,_,I.vM (its':=its++iH) hH e (by simp) (r.append r2) ?_,rfl,q⟩
 rw[Zas]
 omega
def Mq:V->List V->Hp->VK->Prop:=fun x vs H Q=> ∃l xs i k y,x=.ref l/\vs=[.int i]/\H l=some (.lst xs)/\ -(2^63)<=i/\i<2^63/\seqIndex? i xs.length=some k/\xs[k]? =some y/\Q y (upd H l (.lst (xs.eraseIdx k)))
def X5:xD X "list.pop" Mq:=by
 intro pins s σ H x vs v us Q I rx rv h
 obtain⟨l,xs,i,k,y,rfl,rfl,hH,h1,h2,hk,hy,q⟩:=h
 cases rx
 obtain⟨u,rfl,ru⟩:=rv.one
 obtain⟨t,rfl⟩:=ru
 obtain⟨z,its,n,r,hl,e⟩:=I.lT hH
 obtain⟨w,hw,iZ⟩:=r.get hy
 refine Zd6 F.slot_list_pop ⟨_,e,rfl⟩ F.entry_list_pop (F.args_list_pop_2 _ _)
  (MeetsSeq.list_pop_at l its.toArray n i t k w (fitsIndex_both h1 h2) (by rw[Zan,<-hl];exact hk) (by rw[<-ZaS];exact hw) (by rw[Zan];omega)) ⟨e,?_⟩
 refine⟨y,_,I.vM (its':=its.eraseIdx k) hH e ?_ (r.eraseIdx k) ?_,iZ,q⟩
 ·show its.toArray.eraseIdxIfInBounds k=(its.eraseIdx k).toArray
  rw[List.eraseIdxIfInBounds_toArray]
 ·have:=UA xs k
  omega
def Mn:V->List V->Hp->VK->Prop:=fun x vs H Q=> ∃l xs,x=.ref l/\vs=[]/\H l=some (.lst xs)/\Q .af (upd H l (.lst xs.reverse))
def Za9:xD X "list.reverse" Mn:=by
 intro pins s σ H x vs v us Q I rx rv h
 obtain⟨l,xs,rfl,rfl,hH,q⟩:=h
 cases rx
 have OO:=rv.zero
 subst OO
 obtain⟨z,its,n,r,hl,e⟩:=I.lT hH
 refine Zd6 F.slot_list_reverse ⟨_,e,rfl⟩ F.entry_list_reverse (F.args_list_reverse_1 _) (AutoSeq1.list_reverse_list_0 l its.toArray n (by rw[Zan];omega)) ⟨e,?_⟩
 refine⟨.af,_,I.vM (its':=its.reverse) hH e (by simp) r.reverse ?_,rfl,q⟩
 rw[List.length_reverse]
 omega
def My:R2:=fun x y H Q=> ∃l b xs zs,x=.ref l/\y=.ref b/\H l=some (.lst xs)/\H b=some (.lst zs)/\xs.length+zs.length<=sizeLine/\∀p,H p=none->Q (.ref p) (upd H p (.lst (xs++zs)))
def Y0:bu X (binaryOp .Add) My:=by
 intro pins s σ H x y v u Q I rx ry h
 obtain⟨l,b,xs,zs,rfl,rfl,hH,hB,hz,q⟩:=h
 cases rx
 cases ry
 obtain⟨z,its,n,r,hl,e⟩:=I.lT hH
 obtain⟨z2,iH,n2,r2,gZ,e2⟩:=I.lT hB
 refine PySem.P.add_list e e2 ?_ (by rw[Zan,Zan];omega)
 have ea:its.toArray++iH.toArray=(its++iH).toArray:=by simp
 rw[ea]
 exact⟨.ref _,_,I.DM (t':=s.toks) (r.append r2) (by rw[Zas];omega),rfl,q _ I.fresh⟩
def Mp:R2:=fun x y H Q=> ∃l k xs,x=.ref l/\y=.int k/\H l=some (.lst xs)/\ -(2^63)<=k/\k<2^63/\xs.length*k.toNat<=sizeLine/\
 ∀p,H p=none->Q (.ref p) (upd H p (.lst (List.replicate k.toNat xs).flatten))
def U8 (xs:List α) (k:Nat):(List.replicate k xs).flatten.length=k*xs.length:=by
 induction k with
 |zero=>simp
 |succ k ih=>rw[Zdi,ZeS,Zas,ih,Nat.succ_mul,Nat.add_comm]
def GX:bu X (binaryOp .Mult) Mp:=by
  intro pins s σ H x y v u Q I rx ry h
  obtain⟨l,k,xs,rfl,rfl,hH,h1,h2,hz,q⟩:=h
  cases rx
  obtain⟨t,rfl⟩:=ry
  obtain⟨z,its,n,r,hl,e⟩:=I.lT hH
  have hlen:its.toArray.size*k.toNat<=sizeLine:=by rw[Zan,<-hl];exact hz
  have Qo:¬its.toArray.size*k.toNat> (2^63 - 1)/8:=by
    have:(sizeLine:Nat)<=(2^63 - 1)/8:=.d
    omega
  have mz:¬(!Builtin.List.listFitsIndex k)=true:=by
    rw[fitsIndex_both h1 h2]
    exact Zav
  have Au:¬Builtin.List.listTooLong (its.toArray.size*k.toNat)=true:=by
    rw[Dt hlen]
    exact Zav
  have qo:List.foldl (fun x1 x2=>x1++x2) #[] (List.replicate (if its.toArray.isEmpty=true then 0 else k.toNat) its.toArray)=(List.replicate k.toNat its).flatten.toArray:=by
    have f0:∀m:Nat,List.foldl (fun x1 x2=>x1++x2) #[] (List.replicate m its.toArray)=(List.replicate m its).flatten.toArray:=fun m=>by
      have:=J6 its m []
      rw[Zdy]at this
      exact this
    rw[f0]
    cases its with
    |nil=>simp
    |cons a r'=>rw[Zam (by simp)]
  refine Zf4 (T:= "list") (U:= "int") .d ⟨_,e,rfl⟩ (fun s'=>ZgP s' k t) noFill_list_mul F.fills_int_mul F.slot_int_rmul repeat_list F.slot_int_index.lookup
    (Zd6 F.slot_int_rmul (ZgP s k t) F.entry_int_rmul (F.args_int_rmul_2 _ _) (int___rmul___int_list k t l its.toArray n)
      ⟨e,rfl,⟨_,e,rfl⟩,Zd6 F.slot_list_mul ⟨_,e,rfl⟩ F.entry_list_mul (F.args_list_mul_2 _ _) (AutoListH.list___mul___list_int_3 l its.toArray n k t mz Qo Au) ⟨e,?_⟩⟩)
  rw[qo]
  exact⟨.ref _,_,I.DM (t':=s.toks) (r.rep k.toNat) (by rw[U8,Zhq];exact hz),rfl,q _ I.fresh⟩
end
end L2
namespace Ko
open PySem PySem.W PySem.Calls PyProof.Rows
def Wi :∀(ns:List Int) (vs:List Value),WellAll P h vs (ns.map WData.int)->IntsAre vs ns:=by
 intro ns
 induction ns with
 |nil=>
  intro vs w
  rw[ZgE]at w
  cases w
  exact .nil
 |cons n ns ih=>
  intro vs w
  rw[ZbJ]at w
  cases w with
  |cons a b=>
   cases a
   exact .cons _ _ (ih _ b)
def Zco {l:OpenLaw}(hn:l.most=some n) {h:Heap}
  (wg:l.row.toRowW.claim.pre args=true) (Aa:WellAll P h vals args):
  ∃a vs ns,vals=[Value.ref a]/\args=[WData.list (ns.map WData.int)]/\h.get? a=some {cls:=.type "list",data:=.seq vs.toArray}/\IntsAre vs ns/\ns.length<=n:=by
 have O5:WShape.hasAll [] args [.list .int]=true:=(pre_splitW wg).1
 have hc:l.pre.holds [] {args:=args} =true:=(pre_splitW wg).2
 obtain⟨d,r,rfl,h1,h2⟩:=hasAllW_cons O5
 obtain rfl:=hasAllW_nil h2
 obtain⟨xs,rfl,h3⟩:=hasW_list h1
 obtain⟨ns,rfl⟩:=items_int h3
 have hlen:ns.length<=n:=by
  unfold OpenLaw.pre at hc
  have h4:(WTm.not (.lt (.lit (.int (n:Int))) (.len (.arg 0)))).holds [] {args:=[.list (ns.map .int)]} =true:=by
   have h4:=(holds_andW hc).1
   rw[hn]at h4
   exact h4
  have h5:=condW_of h4 (w_not (w_lt w_lit (w_len_list (w_arg rfl))))
  rw[Zat]at h5
  refine Nat.le_of_not_lt fun q=> ?_
  have q':(n:Int)< ((ns.length:Nat):Int):=.o
  first
   |(rw[ZaT q']at h5;exact absurd h5 .d)
   |(simp at h5;omega)
 cases Aa with
 |cons w1 w2=>
  cases w2
  cases w1 with
  |list ho dF=>exact⟨_,_,ns,rfl,rfl,ho,Wi ns _ dF,hlen⟩
def Zcs (l:OpenLaw) (args:List WData):l.row.toRowW.claim.post args (.bool true) args=true:=
 postW_of (r:=l.row.toRowW) (X:=(true==true))
  (show WShape.has [] (.bool true) .bool=true by first |rfl |decide |simp[WShape.has,WShape.arms,WShape.armsAll])
  (show(WTm.eq .res (.lit (.bool true))).value [] {args:=args,res:=some (.bool true),after:=args} =some (.bool (true==true)) from w_eq_bool (w_res rfl) w_lit) rfl
def Tg {l:OpenLaw}{d:DefRec}
    (hn:l.most=some n) (AK:d.params.defaults=[])
    (call:∀(w:World) (cK aJ:Shared) (mg mb:Str->Option Value) (fa:Addr) (o:Obj) (pm cd doc:Value) (a:Addr) (vs:List Value) (ns:List Int),
      Ground q loose [] XP w cK mg mb aJ.heap->YP w aJ.heap->
      aJ.heap.get? fa=some o->o.data=.func (docDef d.name d.params d.body d.scope pm cd doc)->aJ.heap.CodeRec cd d.name->mg d.name=some (.ref fa)->
      aJ.heap.get? a=some {cls:=.type "list",data:=.seq vs.toArray}->IntsAre vs ns->ns.length<=n->aJ.gens= #[]->
      codeAny (model l.prog w) callerA (.call (.ref fa) ⟨[.ref a],[]⟩) (fun r s'=>r=.ok (.ret (.bool true))/\OldK aJ.heap s'.heap/\s'.os=aJ.os/\AllBare s'.gens) aJ):
    WalkO q loose XP YP l.row.toRowW d [] (fun f vs=>PySem.call f vs):=by
  intro w cK aJ mg mb G Y fa o pm cd doc dV kV ho hd dh hD hmg hg args vals as wg aaA hrd Aa Av
  obtain rfl:dV=.none:=Dflts.none hD AK
  obtain rfl:kV=.none:=Dflts.noKw hD
  obtain⟨a,vs,ns,rfl,rfl,Ap,hints,hlen⟩:=Zco hn wg Aa
  refine enter_call (ZdQ (call w cK aJ mg mb fa o pm cd doc a vs ns G Y ho (fd_plain hd) dh hmg Ap hints hlen hg) fun r s' hq=> ?_)
  obtain⟨rfl,h2,h3,h4⟩:=hq
  exact⟨.inl ⟨.bool true,.bool true,[],rfl,fun _=>rfl,.bool true,Zcs l _,fun _=> ⟨List.Pairwise.nil,fun _ hm=> (nomatch hm)⟩⟩,h2,h3,h4⟩
end Ko
namespace L2
open PySem PySem.Spec PyProof.Rows
def Uk:∀{vs:List Value}{ns:List Int},IntsAre vs ns->Vals (ns.map V.int) vs
 |_,_,.nil=> .nil
 |_,_,.cons n t h=> .cons ⟨t,rfl⟩ (Uk h)
def fS (s:Stmt):Arguments:=match s with
 | .FunctionDef _ a _ _ _ _ _ _ _ _=>a
 |_=> {posonlyargs:=[],args:=[],vararg:=none,kwonlyargs:=[],kw_defaults:=[],kwarg:=none,defaults:=[]}
def dB (s:Stmt):List Stmt:=match s with
 | .FunctionDef _ _ b _ _ _ _ _ _ _=>b
 |_=> []
def ay (s:Stmt):Scope:=match s with
 | .FunctionDef _ _ _ _ _ _ sc _ _ _=>sc
 |_=> {kind:=.function,names:=[],isGenerator:=false,isCoroutine:=false}
abbrev aE:j8:=fun _ _ _ _ _ _=>False
abbrev E0:XK:=fun _ _ _=>False
def MT :Passes aE X E0:=fun _ _ _ _ _ _ _ h=>h.elim
structure aG (K:Zht) (x qual:Str) (st:Stmt) (f:Addr) (fd:FuncData):Prop where
 ex:∃(oc:Value) (od:Option Addr) (kV doc pm:Value) (an:Option Addr) (ao ct:Value) (fm:Array (Option Value)),
  fd=PySem.W.fnOf x qual (fS st) (dB st) (ay st) .none kV doc pm an ao ct/\K.lookup f=some ⟨oc,od,.func fd,fm⟩/\PySem.W.codeIn K ao qual=true
 kp:PySem.W.keepIn K (.ref f)=true
section
variable {P:Program}{w:World}{K:Zht}{mg:Str->Option Value}{base:Heap}
def aG.ok {x qual:Str}{st:Stmt}{f:Addr}{fd:FuncData}{N ps:List Str}{k:Nat}{sp:Sp}(F:aG K x qual st f fd) (S:bh N ps (ay st)) (len:∀vs H Q E,sp vs H Q E->vs.length=ps.length)
    (AR:∀(ao:Value) (A:Around) (outer:List Env) (s:Shared) (H:Hp) (vs:List V) (Q:VK) (E:XK),bW k (A.deeper (envOfC qual (ay st) s.heap.objs.size f ao))->sp vs H Q E->
      ∃t,fJ (aF aE P w K mg base N qual (ay st) f ao A outer s H E).dg (dB st) t/\t {nx:=fun _ H'=>Q .af H',rt:=Q} (start N vs) H):aA P w K mg base aE (k+1) f fd ps sp:=by
  obtain⟨oc,od,kV,doc,pm,an,ao,ct,fm,rfl,lk,dh⟩:=F.ex
  refine xp lk dh S len fun A outer s H vs Q E hr eG=> ?_
  obtain⟨t,h,q⟩:=AR ao A outer s H vs Q E hr eG
  exact⟨t,h.dg,q⟩
def aG.binds {x qual:Str}{st:Stmt}{f:Addr}{fd:FuncData}{ps:List Str}(F:aG K x qual st f fd)
  (h:∀(kV doc pm:Value) (an:Option Addr) (ao ct:Value) (us:List Value),us.length=ps.length->bindArgs (PySem.W.fnOf x qual (fS st) (dB st) (ay st) .none kV doc pm an ao ct) ⟨us,[]⟩=pure (ps.zip us)):Binds K fd ps []:=by
 obtain⟨oc,od,kV,doc,pm,an,ao,ct,fm,rfl,lk,dh⟩:=F.ex
 exact .all (h kV doc pm an ao ct)
def GY {x qual:Str}{st:Stmt}{f:Addr}{oc:Value}{od an:Option Addr}{fm:Array (Option Value)}{kV doc pm ao ct:Value}(l:K.lookup f=some ⟨oc,od,.func (PySem.W.fnOf x qual (fS st) (dB st) (ay st) .none kV doc pm an ao ct),fm⟩)
  (c:PySem.W.codeIn K ao qual=true) (k:PySem.W.keepIn K (.ref f)=true):aG K x qual st f (PySem.W.fnOf x qual (fS st) (dB st) (ay st) .none kV doc pm an ao ct):=⟨⟨oc,od,kV,doc,pm,an,ao,ct,fm,rfl,l,c⟩,k⟩
end
def xq {A:Around}(hr:bW k A):A.units+1<cLine:=Zee (Ze4 (by decide:1<=64) _) hr.units
def CI (h:n<=1000):n<sizeLine:=Zee h .d
section
variable {X:Cx}
def pv (i:Nat) {x:Str}{pos:Pos}(hN:X.N[i]? =some x:=by rfl) (hv:tP X.env.scope x:=by first |exact Or.inl rfl |exact Or.inr (Or.inl rfl) |exact Or.inr (Or.inr rfl)) (hd:(x==("__debug__" :Str))=false:=by decide)
  (dh:(x==("__classdict__" :Str))=false:=by decide):PE X (.Name x pos) (kg i):=Yh hN hv hd dh
end
def aP {A B:Prop}(h:B):if false=true then A else B:=by
 rw[Zam Zav]
 exact h
def aX {A B:Prop}(h:A):if true=true then A else B:=by
 rw[Zaq rfl]
 exact h
def ae (H H':Hp):Prop:=∀b o,H b=some o->H' b=some o
def ae.refl (H:Hp):ae H H:=fun _ _ h=>h
def ae.trans {H H1 H2:Hp}(a:ae H H1) (b:ae H1 H2):ae H H2:=fun c o h=>b c o (a c o h)
def ae.free (e:ae H H') (h:H' l=Option.none):H l=Option.none:=by
 cases q:H l with
 |none=>rfl
 |some o=>
  rw[e l o q]at h
  cases h
section
variable {κ:Type} [DecidableEq κ]
def dq (kvs:List (κ×V)) (k:κ):Option V:=(kvs.find? fun kv=>decide (kv.1=k)).map (·.2)
def putK (kvs:List (κ×V)) (k:κ) (v:V):List (κ×V):=
 if (kvs.any fun kv=>decide (kv.1=k))=true then kvs.map (fun kv=>if kv.1=k then (kv.1,v) else kv) else kvs++[(k,v)]
def Z4 {p:κ×V}{r:List (κ×V)}{k:κ}(e:p.1=k):dq (p::r) k=some p.2:=by simp[dq,Zen,e]
def Z6 {p:κ×V}{r:List (κ×V)}{k:κ}(e:¬p.1=k):dq (p::r) k=dq r k:=by simp[dq,Zen,e]
def JA (k:κ):∀kvs:List (κ×V),(kvs.any fun kv=>decide (kv.1=k))=(dq kvs k).isSome
 | []=>rfl
 |p::r=>by
  rw[ZfM]
  by_cases e:p.1=k
  ·simp only[Z4 e,ZaT e,Bool.true_or,Option.isSome_some]
  ·rw[Z6 e,ZaK e,Bool.false_or];exact JA k r
def IA (k j:κ) (y:V):∀kvs:List (κ×V),dq (kvs.map fun kv=>if kv.1=k then (kv.1,y) else kv) j=(dq kvs j).map fun x=>if j=k then y else x
 | []=>rfl
 |p::r=>by
  have ih:=IA k j y r
  rw[ZbJ]
  by_cases h:p.1=k
  ·rw[Zaq h]
   by_cases e:p.1=j
   ·rw[Z4 (p:=(p.1,y)) e,Z4 e,ZeN,Zaq (e.symm.trans h)]
   ·rw[Z6 (p:=(p.1,y)) e,Z6 e,ih]
  ·rw[Zam h]
   by_cases e:p.1=j
   ·rw[Z4 (p:=p) e,Z4 e,ZeN,Zam (fun z=>h (e.trans z))]
   ·rw[Z6 (p:=p) e,Z6 e,ih]
def Ul (k j:κ) (y:V):∀kvs:List (κ×V),dq kvs k=none->dq (kvs++[(k,y)]) j=if j=k then some y else dq kvs j
 | [],_=>by
  by_cases e:k=j
  ·rw[Zaq e.symm];exact Z4 (p:=(k,y)) e
  ·rw[Zam (fun z=>e z.symm)];exact Z6 (p:=(k,y)) e
 |p::r,hn=>by
  rw[List.cons_append]
  have hk:¬p.1=k:=fun z=>by rw[Z4 z]at hn;cases hn
  rw[Z6 hk]at hn
  have ih:=Ul k j y r hn
  by_cases e:p.1=j
  ·rw[Z4 e,Z4 e,Zam (fun z=>hk (e.trans z))]
  ·rw[Z6 e,Z6 e,ih]
def Zc6 (kvs:List (κ×V)) (k j:κ) (y:V):dq (putK kvs k y) j=if j=k then some y else dq kvs j:=by
 unfold putK
 by_cases a:(kvs.any fun kv=>decide (kv.1=k))=true
 ·rw[Zaq a,IA]
  rw[JA]at a
  by_cases e:j=k
  ·obtain⟨x,hx⟩:=ZdG.mp a
   rw[Zaq e,e,hx,ZeN,Zaq rfl]
  ·rw[Zam e]
   cases dq kvs j with
   |none=>rfl
   |some x=>rw[ZeN,Zam e]
 ·rw[Zam a]
  refine Ul k j y kvs ?_
  rw[JA]at a
  cases q:dq kvs k with
  |none=>rfl
  |some x=>rw[q]at a;exact(a rfl).elim
def YF (kvs:List (κ×V)) (k:κ) (v:V):(putK kvs k v).length<=kvs.length+1:=by
 unfold putK
 split
 ·rw[Zat];omega
 ·rw[Zas,ZbA,Zdw];omega
def lh.Ov {o:Option V}{u:Option Value}(r:lh o u):o.isSome=u.isSome:=by
 cases o with
 |none=>cases u with
  |none=>rfl
  |some _=>exact(show False from r).elim
 |some _=>cases u with
  |none=>exact(show False from r).elim
  |some _=>rfl
def lh.getD {o:Option V}{u:Option Value}(r:lh o u) (rd:RelV d d'):RelV (o.getD d) (u.getD d'):=by
 cases o with
 |none=>cases u with
  |none=>exact rd
  |some _=>exact(show False from r).elim
 |some _=>cases u with
  |none=>exact(show False from r).elim
  |some _=>exact r
def KV.val {kvs:List (κ×V)}{vs:List (κ×Value)}(r:KV kvs vs) (k:κ):lh (dq kvs k) (valueAt vs k):=by
 unfold KV at r
 induction r with
 |nil=>exact True.intro
 | @cons p q ps qs h t ih=>
  obtain⟨h1,h2⟩:=h
  by_cases e:p.1=k
  ·have e':q.1=k:=h1.symm.trans e
   have b:valueAt (q::qs) k=some q.2:=by simp[valueAt,Zen,e']
   rw[Z4 e,b];exact h2
  ·have e':¬q.1=k:=fun z=>e (h1.trans z)
   have b:valueAt (q::qs) k=valueAt qs k:=by simp[valueAt,Zen,e']
   rw[Z6 e,b];exact ih
def KV.any {kvs:List (κ×V)}{vs:List (κ×Value)}(r:KV kvs vs) (k:κ):(kvs.any fun kv=>decide (kv.1=k))=vs.any fun kv=>decide (kv.1=k):=by
 unfold KV at r
 induction r with
 |nil=>rfl
 |cons h t ih=>rw[ZfM,ZfM,ih,h.1]
def KV.zo {kvs:List (κ×V)}{vs:List (κ×Value)}(r:KV kvs vs) (k:κ) (ry:RelV y u):
  KV (kvs.map fun kv=>if kv.1=k then (kv.1,y) else kv) (vs.map fun kv=>if kv.1=k then (kv.1,u) else kv):=by
 unfold KV at r |-
 induction r with
 |nil=>exact .nil
 | @cons p q ps qs h t ih=>
  rw[ZbJ,ZbJ]
  refine .cons ?_ ih
  obtain⟨h1,h2⟩:=h
  by_cases e:p.1=k
  ·rw[Zaq e,Zaq (h1.symm.trans e)];exact⟨h1,ry⟩
  ·rw[Zam e,Zam (fun z=>e (h1.trans z))];exact⟨h1,h2⟩
def KV.put (r:KV kvs vs) (k:κ) (ry:RelV y u):KV (putK kvs k y) (stored vs k u):=by
 unfold putK stored
 rw[r.any k]
 by_cases e:(vs.any fun kv=>decide (kv.1=k))=true
 ·rw[Zaq e,Zaq e];exact r.zo k ry
 ·rw[Zam e,Zam e];exact Ze5 r ⟨rfl,ry⟩
def KV.length {kvs:List (κ×V)}{vs:List (κ×Value)}(r:KV kvs vs):kvs.length=vs.length:=Zcf r
end
def xm (r:RelV (kV k) u):(fv P w).is k u=true:=by
 cases k with
 |inl i=>obtain⟨t,e⟩:=(show ∃t,u=Value.int i t from r);subst e;exact ZaA P w i t
 |inr x=>obtain⟨t,e⟩:=(show ∃t,u=Value.str x t from r);subst e;exact Zaz P w x t
def UB {P:Program}{w:World} :∀{ks:List Key}{us:List Value},Vals (ks.map kV) us->ItemsAre (fv P w) ks us
 | [],_,r=>by rw[ZgE]at r;cases r;exact .nil
 |k::ks,_,r=>by
  rw[ZbJ]at r
  cases r with
  |cons h t=>exact .cons (xm h) (UB t)
abbrev KT (H:Hp):List (List Key×V)->List (List Key×Addr×Value)->Prop:=Paired fun p q=>p.1=q.1/\H q.2.1=some (.tup (p.1.map kV))/\RelV p.2 q.2.2
def KT.val {H:Hp}{kvs:List (List Key×V)}{xs:List (List Key×Addr×Value)}(r:KT H kvs xs) (k:List Key):lh (dq kvs k) ((atKey xs k).map (·.2)):=by
 induction r with
 |nil=>exact True.intro
 | @cons p q ps qs h t ih=>
  obtain⟨h1,_,h2⟩:=h
  by_cases e:p.1=k
  ·have e':q.1=k:=h1.symm.trans e
   have b:atKey (q::qs) k=some q.2:=by simp[atKey,Zen,e']
   rw[Z4 e,b];exact h2
  ·have e':¬q.1=k:=fun z=>e (h1.trans z)
   have b:atKey (q::qs) k=atKey qs k:=by simp[atKey,Zen,e']
   rw[Z6 e,b];exact ih
def KT.zo {kvs:List (List Key×V)}{xs:List (List Key×Addr×Value)}(r:KT H kvs xs) (k:List Key) (ry:RelV y u):
  KT H (kvs.map fun kv=>if kv.1=k then (kv.1,y) else kv) (xs.map (putAt k u)):=by
 induction r with
 |nil=>exact .nil
 | @cons p q ps qs h t ih=>
  rw[ZbJ,ZbJ]
  refine .cons ?_ ih
  obtain⟨h1,h2,h3⟩:=h
  unfold putAt
  by_cases e:p.1=k
  ·rw[Zaq e,Zaq (h1.symm.trans e)];exact⟨h1,h2,ry⟩
  ·rw[Zam e,Zam (fun z=>e (h1.trans z))];exact⟨h1,h2,h3⟩
def KT.put (r:KT H kvs xs) (k:List Key) (hb:H b=some (.tup (k.map kV))) (ry:RelV y u):
  KT H (putK kvs k y) (storedH xs k b u):=by
 have e:(kvs.any fun kv=>decide (kv.1=k))=(atKey xs k).isSome:=by
  rw[JA,(r.val k).Ov,Option.isSome_map]
 unfold putK storedH
 rw[e]
 by_cases q:(atKey xs k).isSome=true
 ·rw[Zaq q,Zaq q];exact r.zo k ry
 ·rw[Zam q,Zam q];exact Ze5 r ⟨rfl,hb,ry⟩
def KT.keeps (r:KT H kvs xs) (ht:∀b ys,H b=some (.tup ys)->H' b=some (.tup ys)):KT H' kvs xs:=
 Paired.dS r fun _ _ z=> ⟨z.1,ht _ _ z.2.1,z.2.2⟩
section
variable {P:Program}{w:World}{H:Hp}{h:Heap}{a:Addr}
def GL (ok:bM P w H h) (e:Rd H a u):bw P w H h a u:=e.ok ok
def Bx {kvs:List (Key×V)}(ok:bM P w H h) (e:Rd H a (.dK kvs)):kvs.length<=sizeLine/\(a==sysModules)=false/\∃vs,KV kvs vs/\h.DictOf (fv P w) a vs:=
 show bw P w H h a (.dK kvs) from GL ok e
def Ts {kvs:List (Key×V)}(ok:bM P w H h) (e:H a=some (.dK kvs)):kvs.length<=sizeLine/\(a==sysModules)=false/\∃vs,KV kvs vs/\h.DictOf (fv P w) a vs:=Bx ok (.inl e)
def BG {ks:List Key}(ok:bM P w H h) (e:H a=some (.tup (ks.map kV))):(tupleKind (fv P w)).is h ks a:=by
 obtain⟨_,its,r,⟨o,h1,h2,n,h3⟩,_⟩:=(show bw P w H h a (.tup (ks.map kV)) from ok a _ e)
 exact⟨o,its.toArray,n,h1,h2,h3,by simpa using UB r⟩
def By {kvs:List (List Key×V)}(ok:bM P w H h) (e:Rd H a (.dT kvs)):kvs.length<=sizeLine/\(a==sysModules)=false/\
  ∃xs,KT H kvs xs/\h.DictOfH (tupleKind (fv P w)) a xs:=by
 obtain⟨z,y,xs,r,o,es,ep,h1,h2,h3,h4,h5⟩:=(show bw P w H h a (.dT kvs) from GL ok e)
 refine⟨z,y,xs,r,o,es,ep,h1,h2,h3,h4,fun x hx=> ?_,h5⟩
 have all:∀{l:List (List Key×V)}{m:List (List Key×Addr×Value)},KT H l m->∀x∈m,(tupleKind (fv P w)).is h x.1 x.2.1:=by
  intro l m q
  induction q with
  |nil=>intro x hx;exact nomatch hx
  | @cons p q ps qs hq t ih=>
   intro x hx
   rcases Zao.mp hx with e |hx
   ·subst e
    exact BG ok (by rw[<-hq.1];exact hq.2.1)
   ·exact ih x hx
 exact all r x hx
def Vw {kvs:List (List Key×V)}(ok:bM P w H h) (e:H a=some (.dT kvs)):kvs.length<=sizeLine/\(a==sysModules)=false/\
  ∃xs,KT H kvs xs/\h.DictOfH (tupleKind (fv P w)) a xs:=By ok (.inl e)
end
def qI (H:Hp) (a:Addr) (y:V) (r:Option V):Prop:=
 (∃kvs k,Rd H a (.dK kvs)/\y=kV k/\r=dq kvs k)∨∃kvs k b,Rd H a (.dT kvs)/\y=.ref b/\H b=some (.tup (k.map kV))/\r=dq kvs k
def uc (H:Hp) (a:Addr) (y v:V) (H':Hp):Prop:=
 (∃kvs k,H a=some (.dK kvs)/\y=kV k/\kvs.length<sizeLine/\H'=upd H a (.dK (putK kvs k v)))∨
 ∃kvs k b,H a=some (.dT kvs)/\y=.ref b/\H b=some (.tup (k.map kV))/\kvs.length<sizeLine/\H'=upd H a (.dT (putK kvs k v))
def qI.k {H:Hp}{a:Addr}{kvs:List (Key×V)}{k:Key}(e:H a=some (.dK kvs)):qI H a (kV k) (dq kvs k):=.inl ⟨kvs,k,.inl e,rfl,rfl⟩
def uc.k {H:Hp}{a:Addr}{kvs:List (Key×V)}{k:Key}{v:V}(e:H a=some (.dK kvs)) (hl:kvs.length<sizeLine):uc H a (kV k) v (upd H a (.dK (putK kvs k v))):=.inl ⟨kvs,k,e,rfl,hl,rfl⟩
section
variable {X:Cx}{pins:List (Addr×Obj)}{σ:St}{H:Hp}{s:Shared}{a:Addr}{y v:V}{u r:Value}{o:Option V}{A:Around}{E:Value->Shared->Prop}
def Inv.big (I:Inv X pins σ H s):sysModules<s.heap.objs.size:=by
 have h:mainGlobals<s.heap.objs.size:=(I.mod.glob.keeps I.bk).lt
 exact Zfv .d h
def Hg {h':Heap}{t':Nat}(I:Inv X pins σ H s) (mu:tV (H a)) (hs:Heap.SameBut a s.heap h') (he:∃q,h'.get? a=some q) (new:bw X.prog X.w (upd H a ob) h' a ob):
  Inv X pins σ (upd H a ob) {s with heap:=h',toks:=t'} :=
 I.write (x:=a) (e:=a) mu (.inl rfl) (fun b q hb z=> (hs.2 b hb).trans z) he new
def GG {h':Heap}{kvs:List (Key×V)}(z:kvs.length<=sizeLine) (hd:(a==sysModules)=false) (rel:KV kvs vs) (dd:h'.DictOf (fv P w) a vs):
  bw P w H' h' a (.dK kvs):=⟨z,hd,vs,rel,dd⟩
def ZcY {H':Hp}{Q:Unit->Shared->Prop}(hu:A.units+1<cLine) (I:Inv X pins σ H s) (g:uc H a y v H') (ry:RelV y u) (rv:RelV v r) (h:∀s',Inv X pins σ H' s'->Q () s'):
  wpAny (model X.prog X.w) A (setItem (.ref a) u r) Q E s:=by
 rcases g with ⟨kvs,k,e,ey,l,eH⟩ |⟨kvs,k,b,e,ey,eb,l,eH⟩
 ·subst ey eH
  obtain⟨z,hd,vs,rel,dd⟩:=Ts I.ai e
  have hz:vs.length<=sizeLine:=by rw[<-rel.length];exact z
  have hl:(putK kvs k v).length<=sizeLine:=by have:=YF kvs k v;omega
  refine wpAny_setItem_pairs (hsz:=hz) (xm ry) dd fun h' w6 hs=>h _ ?_
  have he:∃q,h'.get? a=some q:=let ⟨q,_,_,hq,_⟩:=w6;⟨q,hq⟩
  exact Hg I (by rw[e];exact True.intro) hs he (GG hl hd (rel.put k rv) w6)
 ·subst ey eH
  cases (show u=Value.ref b from ry)
  obtain⟨z,hd,xs,rel,dd⟩:=Vw I.ai e
  have hz:xs.length<=sizeLine:=by rw[<-Zcf rel];exact z
  have hl:(putK kvs k v).length<=sizeLine:=by have:=YF kvs k v;omega
  refine wpAny_setItem_heap (hsz:=hz) (tupleKind_room_in1 hu) (BG I.ai eb) dd fun h' w6 hs=>h _ ?_
  obtain⟨q,es,ep,hq,h2,h3,h4,_,h5⟩:=w6
  refine Hg I (by rw[e];exact True.intro) hs ⟨q,hq⟩ ⟨hl,hd,_,(rel.put k eb rv).keeps fun c ys ec=> ?_,q,es,ep,hq,h2,h3,h4,h5⟩
  rw[Zg (Ym ec e (fun z=>nomatch z))]
  exact ec
end
def L8 (td ty tv:TE):TS:=fun D σ H=>tv σ H fun v H1=>td σ H1 fun x H2=>ty σ H2 fun y H3=> ∃a H4,x=.ref a/\uc H3 a y v H4/\D.nx σ H4
section
variable {X:Cx}{o i e value:Expr}{pos pos' aao:Pos}{td ty tv:TE}
def Xl (hu:X.A.units+1<cLine) (ho:PE X o td) (hi:PE X i ty) (hv:PE X value tv) (hs:swapsWith value (some (.Subscript o i pos')) pos.line X.env=pure false):
  PS X (.Assign [.Subscript o i pos'] value pos) (L8 td ty tv):=by
 intro pins s σ H D I h
 refine wpAny_Assign_Subscript (aq (hv pins s σ H _ I h) fun r s1 ⟨v,H1,I1,rv,q1⟩=>aq (ho pins s1 σ H1 _ I1 q1) fun u s2 ⟨x,H2,I2,rx,q2⟩=>aq (hi pins s2 σ H2 _ I2 q2) fun iv s3 ⟨y,H3,I3,ry,a,H4,ex,g,q3⟩=> ?_) hs
 subst ex
 obtain rfl:u=Value.ref a:=rx
 exact ZcY hu I3 g ry rv fun s4 I4=> ⟨σ,H4,I4,q3⟩
end
def VS (h:Heap) (hb:sysModules<h.objs.size):bw P w H (h.push {cls:=.type "dict",data:=.dict #[]}) h.objs.size (.dK []):=
 ⟨Za2 _,Ze1.mpr (ZdL (ZaO hb)),[],.nil,Heap.DictOf.new h⟩
def Li:TE:=fun _ H Q=> ∀p,H p=none->Q (.ref p) (upd H p (.dK []))
section
variable {X:Cx}{pos:Pos}
def Il:PE X (.Dict [] [] pos) Li:=fun pins s σ H Q I h=>
 wpAny_Dict_empty ⟨.ref s.heap.objs.size,_,I.laid (a:=s.heap.objs.size) (o:=.dK []) (t':=s.toks) (fun _ _ q=>OF _ q) (Zae _) (VS s.heap I.big),rfl,h _ (I.ai.fresh (Zae _))⟩
end
def nF (kvs more:List (Key×V)):List (Key×V):=more.foldl (fun acc kv=>putK acc kv.1 kv.2) kvs
def KV.merge:∀{more:List (Key×V)}{rs:List (Key×Value)}{kvs:List (Key×V)}{vs:List (Key×Value)},KV more rs->KV kvs vs->KV (nF kvs more) (merged vs rs):=by
 intro more rs kvs vs r
 unfold KV at r
 induction r generalizing kvs vs with
 |nil=>intro q;exact q
 | @cons p q ps qs h t ih=>
  intro r0
  have e:KV (putK kvs p.1 p.2) (stored vs q.1 q.2):=by
   have:=r0.put p.1 h.2
   rw[<-h.1];exact this
  exact ih e
def Jo:∀(more kvs:List (Key×V)),(nF kvs more).length<=kvs.length+more.length
 | [],kvs=>by show kvs.length<=kvs.length+0;omega
 |p::r,kvs=>by
  have h1:=Jo r (putK kvs p.1 p.2)
  have h2:=YF kvs p.1 p.2
  show(nF (putK kvs p.1 p.2) r).length<=_
  rw[ZbA];omega
structure M1 (X:Cx) (o:Expr) (m:Str) (apos:Pos) (e:Expr) (cz:Pos):Prop where
 base:attributeBase o m X.env (eval o X.env)=eval o X.env
 FC:((backTo cz (starEach [e] X.env)).all (fun x=> !x.1)&&(backToKw cz (keywordEach [] X.env)).all (fun x=>x.1.isSome)
  &&decide (([e]:List Expr).length+([]:List Keyword).length+(if ([]:List Keyword).isEmpty then 0 else 1)<30))=true
 line:(apos.endLine==cz.line)=true
 trees:backTo cz (starEach [e] X.env)=[(false,eval e X.env)]
structure M2 (X:Cx) (o:Expr) (m:Str) (apos:Pos) (e f:Expr) (cz:Pos):Prop where
 base:attributeBase o m X.env (eval o X.env)=eval o X.env
 FC:((backTo cz (starEach [e,f] X.env)).all (fun x=> !x.1)&&(backToKw cz (keywordEach [] X.env)).all (fun x=>x.1.isSome)
  &&decide (([e,f]:List Expr).length+([]:List Keyword).length+(if ([]:List Keyword).isEmpty then 0 else 1)<30))=true
 line:(apos.endLine==cz.line)=true
 trees:backTo cz (starEach [e,f] X.env)=[(false,eval e X.env),(false,eval f X.env)]
def IV (H:Hp) (a:Addr):Prop:=(∃kvs,Rd H a (.dK kvs))∨∃kvs,Rd H a (.dT kvs)
def Vk {s:Shared}(I:Inv X pins σ H s) (d:IV H a):
  s.TypeIs (.ref a) "dict" /\(∀b,Value.ref a=.ref b->∃ob,s.heap.get? b=some ob/\ob.dict=none)/\(a==sysModules)=false:=by
 rcases d with ⟨kvs,e⟩ |⟨kvs,e⟩
 ·obtain⟨_,hd,vs,_,dd⟩:=Bx I.ai e
  refine⟨dd.typeIs,fun b q=> ?_,hd⟩
  cases q
  obtain⟨ob,_,_,h1,h2,_⟩:=dd
  exact⟨ob,h1,h2.2.1⟩
 ·obtain⟨_,hd,xs,_,dd⟩:=By I.ai e
  refine⟨dd.typeIs,fun b q=> ?_,hd⟩
  cases q
  obtain⟨ob,_,_,h1,h2,_⟩:=dd
  exact⟨ob,h1,h2.2.1⟩
section
variable {X:Cx}{pins:List (Addr×Obj)}{σ:St}{H:Hp}{s:Shared}{a:Addr}{y d:V}{u r:Value}{o:Option V}{A:Around}{E:Value->Shared->Prop}
def Vg (hu:A.units+1<cLine) (I:Inv X pins σ H s) (g:qI H a y o) (ry:RelV y u) (h:∀w' s',Inv X pins σ H s'->RelV (o.getD .af) w'->Q w' s'):
  wpAny (model X.prog X.w) A (call (.builtin "dict.get") [.ref a,u]) Q E s:=by
 rcases g with ⟨kvs,k,e,ey,l⟩ |⟨kvs,k,b,e,ey,eb,l⟩
 ·subst ey
  obtain⟨z,hd,vs,rel,dd⟩:=Bx I.ai e
  refine call_meetsIn Zfw dd.typeIs Zgz (Zgh _ _) (meets_dict_get (fv X.prog X.w) a (xm ry) hd) ⟨_,dd.mapOf,h _ _ (I.tok _) ?_⟩
  rw[l]
  exact(rel.val k).getD rfl
 ·subst ey
  cases (show u=Value.ref b from ry)
  obtain⟨z,hd,xs,rel,dd⟩:=By I.ai e
  refine call_meetsIn Zfw dd.typeIs Zgz (Zgh _ _) (meetsH_dict_get (tupleKind (fv X.prog X.w)) a b hd) ⟨tupleKind_room_in1 hu,k,xs,BG I.ai eb,dd,h _ _ (I.tok _) ?_⟩
  rw[l]
  exact(rel.val k).getD rfl
end
def Lj (td ty:TE):TE:=fun σ H Q=>td σ H fun x H1=> ∃a,x=.ref a/\IV H1 a/\ty σ H1 fun y H2=> ∃o,qI H2 a y o/\Q (o.getD .af) H2
section
variable {X:Cx}{o e f:Expr}{apos cz:Pos}{td ty tx:TE}
def Xz (hu:X.A.units+1<cLine) (ho:PE X o td) (he:PE X e ty) (m:M1 X o "get" apos e cz):PE X (.Call (.Attribute o "get" apos) [e] [] cz) (Lj td ty):=by
 intro pins s σ H Q I h
 refine wpAny_Call_method m.base m.FC m.line PySem.F.plainAttrs_dict Zfw PySem.F.type_dict_get (aq (ho pins s σ H _ I h) fun u s1 ⟨x,H1,I1,rx,a,ex,d,q1⟩=> ?_)
 subst ex
 obtain rfl:u=Value.ref a:=rx
 obtain⟨t1,t2,_⟩:=Vk I1 d
 refine⟨t1,t2,?_⟩
 rw[m.trees]
 refine Zfl rfl (ZfH (ZfZ (aq (he pins s1 σ H1 _ I1 q1) fun iv s2 ⟨y,H2,I2,ry,ov,g,q2⟩=>Zf9 ?_)))
 exact Vg hu I2 g ry fun w' s3 I3 iZ=> ⟨_,H2,I3,iZ,q2⟩
end
def dm (scope:Scope) (env:Env):List (Str×Addr):=scope.names.foldl (fun cs y=>if y.2==.free then (y.1,(env.cells.lookup y.1).getD 0)::cs else cs) []
def Ya {scope:Scope}{env:Env}(h:∀y∈scope.names,y.2=.free->∃c,env.cells.lookup y.1=some c):closureFor scope env=pure (dm scope env):=by
 unfold closureFor dm
 have key:∀(l:List (Str×NameKind)) (cs:List (Str×Addr)),(∀y∈l,y.2=.free->∃c,env.cells.lookup y.1=some c)->
   (forIn l cs (fun x r=>match x with |(name,kind)=>if (kind==NameKind.free)=true then do let c <-cellOf env name;pure (ForInStep.yield ((name,c)::r)) else pure (ForInStep.yield r)):Sem (List (Str×Addr)))
    =pure (l.foldl (fun cs y=>if y.2==.free then (y.1,(env.cells.lookup y.1).getD 0)::cs else cs) cs):=by
  intro l
  induction l with
  |nil=>intro cs _;rfl
  |cons y l ih=>
   intro cs hl
   obtain⟨n,k⟩:=y
   rw[ZgF,ZeM]
   by_cases hk:k=.free
   ·subst hk
    obtain⟨c,hc⟩:=hl (n,.free) Zau rfl
    have bH:env.cells.lookup n=some c:=hc
    have e1:cellOf env n=pure c:=by unfold cellOf;rw[bH]
    simp only[Zgs,ZeL,e1,bH,ZeA,pure_bind]
    exact ih _ fun y hy=>hl y (Zap _ hy)
   ·have hb:(k==NameKind.free)=false:=by simpa using hk
    simp only[hb,Zbo,Zdp,pure_bind]
    exact ih _ fun y hy=>hl y (Zap _ hy)
 simp only[key scope.names [] h,pure_bind]
 all_goals rfl
def Yl {scope:Scope}{env:Env}(h:(dm scope env).lookup x=some c):c=(env.cells.lookup x).getD 0/\(x,NameKind.free)∈scope.names:=by
 unfold dm at h
 have key:∀(l:List (Str×NameKind)) (cs:List (Str×Addr)),(l.foldl (fun cs y=>if y.2==.free then (y.1,(env.cells.lookup y.1).getD 0)::cs else cs) cs).lookup x=some c->
   (c=(env.cells.lookup x).getD 0/\(x,NameKind.free)∈l)∨cs.lookup x=some c:=by
  intro l
  induction l with
  |nil=>intro cs h;exact .inr h
  |cons y l ih=>
   intro cs h
   obtain⟨n,k⟩:=y
   rw[ZeM]at h
   rcases ih _ h with ⟨h1,h2⟩ |h'
   ·exact .inl ⟨h1,Zap _ h2⟩
   ·by_cases hk:k=.free
    ·subst hk
     simp only[Zgs,ZeL]at h'
     rw[ZeB]at h'
     cases hx:x==n with
     |true=>
      rw[hx]at h'
      have e:x=n:=by simpa using hx
      subst e
      have e':(env.cells.lookup x).getD 0=c:=ZaQ h'
      exact .inl ⟨e'.symm,Zau⟩
     |false=>rw[hx]at h';exact .inr h'
    ·have hb:(k==NameKind.free)=false:=by simpa using hk
     simp only[hb,Zbo,Zdp]at h'
     exact .inr h'
 rcases key _ _ h with h |h
 ·exact h
 ·simp at h
def WS {scope:Scope}(h:(x,NameKind.free)∈scope.names):∃c,(dm scope env).lookup x=some c:=by
 unfold dm
 have key:∀(l:List (Str×NameKind)) (cs:List (Str×Addr)),((x,NameKind.free)∈l∨∃c,cs.lookup x=some c)->∃c,(l.foldl (fun cs y=>if y.2==.free then (y.1,(env.cells.lookup y.1).getD 0)::cs else cs) cs).lookup x=some c:=by
  intro l
  induction l with
  |nil=>
   intro cs h
   rcases h with h |h
   ·simp at h
   ·exact h
  |cons y l ih=>
   intro cs h
   obtain⟨n,k⟩:=y
   rw[ZeM]
   refine ih _ ?_
   by_cases hk:k=.free
   ·subst hk
    simp only[Zgs,ZeL]
    rw[ZeB]
    cases hx:x==n with
    |true=>exact .inr ⟨_,rfl⟩
    |false=>
     rcases h with h |h
     ·rcases Zao.mp h with e |h
      ·have e1:x=n:=Zex Prod.fst e
       simp[e1]at hx
      ·exact .inl h
     ·exact .inr h
   ·have hb:(k==NameKind.free)=false:=by simpa using hk
    simp only[hb,Zbo,Zdp]
    rcases h with h |h
    ·rcases Zao.mp h with e |h
     ·exact absurd (Zex Prod.snd e).symm hk
     ·exact .inl h
    ·exact .inr h
 exact key _ _ (.inl h)
def rl (env:Env) (y:Str×NameKind):Str×NameKind:=if (y.2==NameKind.free&&env.scope.kind==.function&&env.kindOf y.1==some .cell) then (y.1,NameKind.cell) else y
def GR (env:Env) (y:Str×NameKind):(rl env y).1=y.1:=by unfold rl;split<;>rfl
def VG (h:y.2=.free):(rl env y).2=.cell∨(rl env y).2=.free:=by
 unfold rl;split
 ·exact .inl rfl
 ·exact .inr h
def TQ (h:y.2≠.free):rl env y=y:=by
 have hb:(y.2==NameKind.free)=false:=by simpa using h
 unfold rl;rw[hb];simp
def Jk (scope:Scope) (env:Env):(relabel scope env).names=scope.names.map (rl env):=rfl
def UU {scope:Scope}(hc:∀y∈scope.names,y.2≠.cell) (h:(relabel scope env).names.lookup x=some .cell∨(relabel scope env).names.lookup x=some .free):(x,NameKind.free)∈scope.names:=by
 rw[Jk]at h
 have key:∀(l:List (Str×NameKind)),(∀y∈l,y.2≠.cell)->(∃k,(k=NameKind.cell∨k=.free)/\(l.map (rl env)).lookup x=some k)->(x,NameKind.free)∈l:=by
  intro l
  induction l with
  |nil=>rintro _ ⟨k,_,h⟩;simp at h
  |cons y l ih=>
   rintro hl ⟨k',aQ,h⟩
   obtain⟨n,k⟩:=y
   have e1:(rl env (n,k))=(n,(rl env (n,k)).2):=Prod.ext (GR env _) rfl
   rw[ZbJ,e1,ZeB]at h
   cases hx:x==n with
   |true=>
    have e:x=n:=by simpa using hx
    subst e
    by_cases hk:k=.free
    ·subst hk;exact Zau
    ·rw[hx]at h
     rw[TQ (env:=env) (y:=(x,k)) hk]at h
     have e:k=k':=ZaQ h
     subst e
     rcases aQ with z |z
     ·exact absurd z (hl _ Zau)
     ·exact absurd z hk
   |false=>
    rw[hx]at h
    exact Zap _ (ih (fun y hy=>hl y (Zap _ hy)) ⟨k',aQ,h⟩)
 refine key _ hc ?_
 rcases h with h |h
 ·exact⟨_,.inl rfl,h⟩
 ·exact⟨_,.inr rfl,h⟩
def Jj {scope:Scope}(h:scope.names.lookup x=some .free):(relabel scope env).names.lookup x=some .cell∨(relabel scope env).names.lookup x=some .free:=by
 rw[Jk]
 have key:∀(l:List (Str×NameKind)),l.lookup x=some .free->(l.map (rl env)).lookup x=some .cell∨(l.map (rl env)).lookup x=some .free:=by
  intro l
  induction l with
  |nil=>intro h;simp at h
  |cons y l ih=>
   intro h
   obtain⟨n,k⟩:=y
   have e1:(rl env (n,k))=(n,(rl env (n,k)).2):=Prod.ext (GR env _) rfl
   rw[ZbJ,e1,ZeB]
   rw[ZeB]at h
   cases hx:x==n with
   |true=>
    rw[hx]at h
    have e:k=.free:=ZaQ h
    rcases VG (env:=env) (y:=(n,k)) e with z |z
    ·exact .inl (Zex some z)
    ·exact .inr (Zex some z)
   |false=>rw[hx]at h;exact ih h
 exact key _ h
def aS (X:Cx) (N':List Str) (scope:Scope) (C:Addr) (s2:Shared) (H2:Hp) (fp:List Addr):Cx:=
 {X with N:=N',cK:=s2,lC:=H2,env:=compEnvC scope (dm scope X.env) C X.env,outer:=X.stack,stack:=X.stack,ex:=fp,fn:=fun _=>false,pn:=[],xe:=fun _ _=>False}
def qB (so si:Scope) (N N':List Str) (ts:Nat) (br:List Nat):Bool:=
 decide (si.kind=.function)&&si.names.all (fun y=>y.2 !=.cell)&&si.names.all (fun y=>y.2 !=.local||si.names.lookup y.1==some .local)
 &&si.names.all (fun y=>y.2 !=.free||so.names.lookup y.1==some .cell||so.names.lookup y.1==some .free)
 &&decide N'.Nodup&&decide (N'.length=ts+br.length)
 &&(List.range br.length).all (fun k=> (N'[ts+k]? ==(br[k]?.bind fun j=>N[j]?))&&(N'[ts+k]?.isSome)&&(N'[ts+k]?.all fun x=>so.names.lookup x !=some .local&&si.names.lookup x==some .free))
def jx (ts:Nat) (br:List Nat) (σ:St):St:=List.replicate ts none++br.map fun j=> (σ[j]?).join
structure Cd (X:Cx) (N':List Str) (ts:Nat) (br:List Nat) (scope:Scope):Prop where
 kind:scope.kind=.function
 gQ:∀y∈scope.names,y.2≠.cell
 names:∀y∈scope.names,y.2=.local->scope.names.lookup y.1=some .local
 free:∀y∈scope.names,y.2=.free->X.env.kindOf y.1=some .cell∨X.env.kindOf y.1=some .free
 nd:N'.Nodup
 len:N'.length=ts+br.length
 S5:∀k j,br[k]? =some j->∃x,N'[ts+k]? =some x/\X.N[j]? =some x/\X.env.kindOf x≠some .local/\scope.names.lookup x=some .free
def Jv :∀{l:List (Str×NameKind)},l.lookup x=some k->(x,k)∈l
 | [],h=>by simp at h
 |(n,j)::l,h=>by
  rw[ZeB]at h
  cases hx:x==n with
  |true=>
   rw[hx]at h
   have e:x=n:=by simpa using hx
   have e':j=k:=ZaQ h
   subst e e'
   exact Zau
  |false=>rw[hx]at h;exact Zap _ (Jv h)
def JP {X:Cx}(h:qB X.env.scope scope X.N N' ts br=true):Cd X N' ts br scope:=by
 unfold qB at h
 simp only[ZaR]at h
 obtain⟨⟨⟨⟨⟨⟨h1,h2⟩,h3⟩,h4⟩,h5⟩,h6⟩,h7⟩:=h
 refine⟨Zdk h1,fun y hy z=> ?_,fun y hy z=> ?_,fun y hy z=> ?_,Zdk h5,Zdk h6,fun k j hk=> ?_⟩
 ·have q:=Zbj.mp h2 y hy
  rw[z]at q;exact absurd q .d
 ·have q:=Zbj.mp h3 y hy
  rw[z]at q
  simpa using q
 ·have q:=Zbj.mp h4 y hy
  rw[z]at q
  simpa[Env.kindOf] using q
 ·have az:k<br.length:=(Zab.mp hk).1
  have q:=Zbj.mp h7 k (Zbt.mpr az)
  simp only[ZaR]at q
  obtain⟨⟨q1,q2⟩,q3⟩:=q
  obtain⟨x,hx⟩:=ZdG.mp q2
  rw[hx]at q1 q3
  rw[hk]at q1
  have e1:some x=X.N[j]? :=by simpa using q1
  have pQ:(X.env.scope.names.lookup x !=some .local&&scope.names.lookup x==some .free)=true:=q3
  simp only[ZaR]at pQ
  refine⟨x,hx,e1.symm,?_,by simpa using pQ.2⟩
  have z:=pQ.1
  intro e
  have e':X.env.scope.names.lookup x=some .local:=e
  rw[e']at z
  exact absurd z .d
section
variable {X:Cx}{pins:List (Addr×Obj)}{σ:St}{H:Hp}{s:Shared}
def Hx {h':Heap}{t':Nat}(S:Cd X N' ts br scope) (I:Inv X pins σ H s) (hf:∀b∈fp,cC X pins H b)
  (ho:∀b∈fp,∃o,s.heap.get? b=some o) (hC:s.heap.objs.size<=C) (hn:h'.Ns C m) (k:∀b o,s.heap.get? b=some o->h'.get? b=some o):
  Inv (aS X N' scope C s H fp) [] (jx ts br σ) H {s with heap:=h',toks:=t'} :=by
 have sub:∀x c,(dm scope X.env).lookup x=some c->X.env.cells.lookup x=some c:=fun x c e=>by
  obtain⟨e1,e2⟩:=Yl e
  obtain⟨c',bH⟩:=I.ok.has x (S.free _ e2 rfl)
  rw[bH]at e1
  rw[bH,e1];rfl
 have fo:∀b o,s.heap.get? b=some o->b≠C:=fun b o e=>ZaO (ZaE (Zar e) hC)
 refine⟨⟨I.ok.mod,?_,I.ok.glob,I.ok.blt,hC,fun x y c e1 e2=>I.ok.inj x y c (sub x c e1) (sub y c e2),fun x hx=> ?_,fun x c z _=>absurd z Zav,I.ok.hd,I.ok.frames,.inl rfl,fun b hb=> ?_,fun b o e=>I.bs b o e,Zcd I.ok.jy I.sz,fun b o e hb=> ?_,fun b hb=> ?_,I.stack,I.q0⟩,
  rfl,I.bare,Un.kept k,⟨m,hn,fun i x v e1 e2 e3=> ?_⟩,fun x c e=> ?_,I.ai.fresh hC,fun x c e=>I.gk x c (sub x c e),fun p hp=>absurd (show p∈([]:List (Addr×Obj)) from hp) (by simp),I.ai.kept k,?_⟩
 ·show(relabel scope X.env).kind=.function
  exact S.kind
 ·exact WS (UU S.gQ hx)
 ·obtain⟨o,e⟩:=ho b hb
  refine⟨fo b o e,fun x c ec=> ?_⟩
  exact(hf b hb).2.2.2.2.1 x c (sub x c ec)
 ·obtain⟨e1,e2⟩:=I.bs b o e
  obtain⟨f0,f1,f2,f3,f4,f5⟩:=hf b hb
  rcases f3 with z |z
  ·exact I.ok.lO b o e z
  ·exact absurd (ZaE (Zar (I.ok.bs b o e).1) z) (ZbI _)
 ·intro z
  obtain⟨f0,f1,f2,f3,f4,f5⟩:=hf b hb
  rcases Zao.mp (I.uF b z) with q |q
  ·exact f1 q
  ·exact f2 q
 ·-- the aas values
  have hlen:¬i<ts:=fun az=>by
   unfold jx at e2
   rw[Zdt (by simpa using az),ZdM]at e2
   split at e2<;>cases e2
  have tK:(br.map fun j=> (σ[j]?).join)[i - ts]? =some (some v):=by
   unfold jx at e2
   rw[Zdd (by simpa using hlen),Zc9]at e2
   exact e2
  rw[ZbG]at tK
  cases hc:br[i - ts]? with
  |none=>rw[hc]at tK;cases tK
  |some j=>
   rw[hc]at tK
   have mG:(σ[j]?).join=some v:=ZaQ tK
   have e4:σ[j]? =some (some v):=by
    cases q:σ[j]? with
    |none=>rw[q]at mG;cases mG
    |some o=>rw[q]at mG;exact Zex some mG
   obtain⟨x',n1,n2,n3,n4⟩:=S.S5 _ _ hc
   have ei:ts+(i - ts)=i:=.o
   rw[ei]at n1
   have ex:x=x':=by
    have wY:N'[i]? =some x:=e1
    rw[n1]at wY;exact(ZaQ wY).symm
   subst ex
   obtain⟨mX,hnX,hl⟩:=I.loc
   have Ku:tP X.env.scope x:=by
    rcases S.free _ (Jv n4) rfl with z |z
    ·exact .inr (.inl z)
    ·exact .inr (.inr z)
   obtain⟨u,ru,lk⟩:=hl j x v n2 e4 Ku
   refine⟨u,ru,?_⟩
   rcases lk with ⟨z,_⟩ |⟨z,c,ec,mD⟩
   ·exact absurd z n3
   ·obtain⟨c',bH⟩:=WS (env:=X.env) (Jv n4)
    have:=sub x c' bH
    rw[ec]at this
    cases this
    refine .inr ⟨?_,c,bH,mD.keeps k⟩
    exact Jj n4
 ·obtain⟨v,z⟩:=I.cell x c (sub x c e)
  exact⟨v,z.keeps k⟩
 ·show(jx ts br σ).length=N'.length
  unfold jx
  rw[Zas,Zc9,Zat,S.len]
end
def AccAt (h:Heap) (D:Addr) (ys:List V):Prop:=ys.length<=sizeLine/\∃(its:List Value) (n:Nat),Vals ys its/\h.get? D=some {cls:=.type "list",data:=.seq its.toArray n}
def AccAt.keep {h h':Heap}(a:AccAt h D ys) (k:∀o,h.get? D=some o->h'.get? D=some o):AccAt h' D ys:=by
 obtain⟨z,its,n,r,e⟩:=a
 exact⟨z,its,n,r,k _ e⟩
abbrev TC:=List V->St->Hp->(List V->St->Hp->Prop)->Prop
def mK (Y:Cx) (D:Addr) (m:Sem PySem.Fin->Sem PySem.Fin) (t:TC):Prop:=
 ∀(pins:List (Addr×Obj)) (s:Shared) (σ:St) (H:Hp) (ys:List V) (Q:List V->St->Hp->Prop) (k:Sem PySem.Fin) (R:PySem.Fin->Shared->Prop),Inv Y pins σ H s->cC Y pins H D->AccAt s.heap D ys->t ys σ H Q->
  (∀s' cW aj H',Inv Y pins aj H' s'->cC Y pins H' D->AccAt s'.heap D cW->Q cW aj H'->wpAny (model Y.prog Y.w) Y.A k R (fun _ _=>False) s')->wpAny (model Y.prog Y.w) Y.A (m k) R (fun _ _=>False) s
def Cq (ifs:List Expr) (env:Env):Sem Bool:=forIn ifs true fun c r=>if r=true then do let ok <-isTrue c env (eval c env);pure (ForInStep.yield ok) else pure (ForInStep.yield r)
def lj (Y:Cx) (ifs:List Expr) (t:TT):Prop:=
 ∀(pins:List (Addr×Obj)) (s:Shared) (σ:St) (H:Hp) (Q:Bool->Hp->Prop),Inv Y pins σ H s->t σ H Q->wpAny (model Y.prog Y.w) Y.A (Cq ifs Y.env) (TP Y pins σ Q) Y.xe s
def xY:TT:=fun _ H Q=>Q true H
section
variable {Y:Cx}{D:Addr}
def Z8:lj Y [] xY:=fun pins s σ H Q I h=>wpAny_tests_nil ⟨H,I,h⟩
def Yr {c:Expr}{t:TT}(hc:PT Y c t):lj Y [c] t:=fun pins s σ H Q I h=>wpAny_tests_one (hc pins s σ H Q I h)
def Lg (te:TE):TC:=fun ys σ H Q=>te σ H fun v H1=>ys.length<sizeLine/\Q (ys++[v]) σ H1
def AccAt.gQ {h:Heap}(a:AccAt h D ys):∀b∈[D],∃o,h.get? b=some o/\∀v,o.data≠.cell v:=fun b hb=>by
 have e:b=D:=by simpa using hb
 subst e
 obtain⟨z,its,n,r,e⟩:=a
 exact⟨_,e,fun v z=>by
  have z':Data.seq its.toArray n=Data.cell v:=z
  cases z'⟩
def AccAt.through {s':Shared}(a:AccAt h D ys) (I:Inv Y (pins++kq [D] h) aj H' s'):AccAt s'.heap D ys/\H' D=none:=by
 obtain⟨z,its,n,r,e⟩:=a
 have q:=I.pin (D,_) (ZaD _ (ZaD _ (Z3 (ZaI.mpr rfl) e)))
 exact⟨⟨z,its,n,r,q.1⟩,q.2.1⟩
def ZI {elt:Expr}{te:TE}(hx:Y.xe=fun _ _=>False) (he:PE Y elt te):
    mK Y D (fun k=> (do let _ <-call (.builtin "list.append") [.ref D,<-eval elt Y.env]) >>=fun _=>k) (Lg te):=by
  intro pins s σ H ys Q k R I f a h hk
  refine AN (Zbu (Q:=fun _ s'=> ∃cW aj H',Inv Y pins aj H' s'/\cC Y pins H' D/\AccAt s'.heap D cW/\Q cW aj H') ?_ (fun _ s' ⟨cW,aj,H',q1,q2,q3,q4⟩=>hk s' cW aj H' q1 q2 q3 q4) fun _ _ z=>z)
  have I':=I.pinned (fp:=[D]) (fun b hb=>by have e:b=D:=by simpa using hb
                                            subst e;exact f) a.gQ
  refine AN (Zbu (he _ s σ H _ I' h) (fun u s1 ⟨v,H1,I1,ru,hz,q⟩=> ?_) fun e s1 z=>by rw[hx]at z;exact z)
  obtain⟨a1,n1⟩:=a.through I1
  have f1:cC Y pins H1 D:=⟨n1,f.2⟩
  obtain⟨z,its,n,r,e⟩:=a1
  have hl:=r.length
  refine AN (Zd6 F.slot_list_append ⟨_,e,rfl⟩ F.entry_list_append (F.args_list_append_2 _ _) (Zhl D its.toArray n u (by rw[Zan];omega)) ⟨e,Zak ?_⟩)
  have q2:=PySem.IsL.update e (·.push u)
  obtain⟨f0,g1,g2,g3,g4,g5⟩:=f1
  have I2:Inv Y pins σ H1 {s1 with heap:=s1.heap.update D (Obj.mapSeq (·.push u))} :=I1.jE.turned (t':=s1.toks) (it:=D) (fun b o hb eb=> (ZbQ s1.heap _ (ZdL hb)).trans eb) f0 g1 g3 g4 g5
  refine⟨ys++[v],σ,H1,I2,⟨f0,g1,g2,g3,g4,g5⟩,⟨by rw[Zas,Zdx];omega,its++[u],(if ((its.toArray.push u).size==its.toArray.size)=true then n else n+1),r.append (.cons ru .nil),?_⟩,q⟩
  have e3:its.toArray.push u=(its++[u]).toArray:=by simp
  rw[<-e3]
  exact q2
def inner (elt:Expr) (gens:List Comprehension) (scope:Scope) (pos:Pos) (d:Nat) (acc:Value) (env:Env) (k:Sem PySem.Fin):Sem PySem.Fin:=
 match gens[d+1]? with
 |some g'=>eval g'.iter env >>=fun x=>standAt g'.iter.pos >>=fun _=>foldedSetIterable g'.iter env x >>=fun x=>holding [x] (pyIter x) >>=fun kG=>
  runOwn (.compStart (.ListComp elt gens scope pos) (d+1) kG acc env) env >>=fun _=>k
 |none=> (do let _ <-call (.builtin "list.append") [acc,<-eval elt env]) >>=fun _=>k
set_option maxHeartbeats 400000 in
def Wd (elt tg iter:Expr) (ifs:List Expr) (gens:List Comprehension) (scope:Scope) (pos:Pos) (d:Nat) (it acc:Value) (env:Env) (hg:gens[d]? =some ⟨tg,iter,ifs,0⟩) (h2:∀g',gens[d+1]? =some g'->g'.is_async=0):
  compTurn (.ListComp elt gens scope pos) d it acc env=(standAt iter.pos >>=fun _=>pyNext it >>=fun r=>match r with
   |none=>pure (.done .next)
   |some v=>letOwnedTupleGo tg it v >>=fun _=>assign tg env v >>=fun _=>Cq ifs env >>=fun ok=>
    if ok=true then inner elt gens scope pos d acc env (again (.compLoop (.ListComp elt gens scope pos) d it acc env)) else again (.compLoop (.ListComp elt gens scope pos) d it acc env)):=by
 unfold compTurn inner
 dsimp only
 rw[hg]
 generalize hn:gens[d+1]? =o
 cases o with
 |none=>rfl
 |some g'=>
  have e:=h2 g' hn
  obtain⟨t',i',f',a'⟩:=g'
  have e':a'=0:=e
  subst e'
  rfl
def iq (g:TG) (tt:TT) (ti:TC) (J:It):TC:=fun ys σ H Q=> ∃W:Nat->Nat->List V->St->Hp->Prop,(∃m,W 0 m ys σ H)/\∀i m ys σ H,W i m ys σ H->
 (J.stop i H/\Q ys σ H)∨(J.go i H/\∃N:List V->St->Hp->Prop,(∀cW aj H',N cW aj H'->∃m',m'<m/\W (i+1) m' cW aj H')/\
  ∀x H',J.mU i H x H'->g x σ H' fun aV H2=>tt aV H2 fun b H3=>if b=true then ti ys aV H3 N else N ys aV H3)
def UJ {s:Shared}
    (hx:Y.xe=fun _ _=>False) (hc:Y.calm=true) (hg:gens[d]? =some ⟨tg,iter,ifs,0⟩) (T:Turn Y.prog Y.w Y.K tg J fp it tn) (hf:∀b∈fp,cC Y pins H b) (st:tn 0 s.heap) (hD:D∉fp)
    (h2:∀g',gens[d+1]? =some g'->g'.is_async=0) (pg:PG Y tg g) (pt:lj Y ifs tt) (pi:mK Y D (inner elt gens scope pos d (.ref D) Y.env) ti)
    (I:Inv Y pins σ H s) (f:cC Y pins H D) (a:AccAt s.heap D ys) (h:iq g tt ti J ys σ H Q):
    codeAny (model Y.prog Y.w) Y.A (.compLoop (.ListComp elt gens scope pos) d (.ref it) (.ref D) Y.env) (fun r s'=>match r with
      | .ok _=> ∃cW aj H',Inv Y pins aj H' s'/\cC Y pins H' D/\AccAt s'.heap D cW/\Q cW aj H'
      | .error _=>False) s:=by
  obtain⟨W,⟨m0,w0⟩,turn⟩:=h
  have stat:∀{H':Hp},(∀b∈fp,H' b=none)->∀b∈fp,cC Y pins H' b:=fun hn b hb=> ⟨hn b hb,(hf b hb).2⟩
  refine codeAny_loop rfl (fun n s'=> ∃i cW aj H',Inv Y pins aj H' s'/\cC Y pins H' D/\AccAt s'.heap D cW/\tn i s'.heap/\(∀b∈fp,H' b=none)/\W i n cW aj H') (fun n s3 hI=> ?_) m0 ⟨0,ys,σ,H,I,f,a,st,fun b hb=> (hf b hb).1,w0⟩
  obtain⟨i,qJ,iV,H3,I3,f3,a3,ba,wR,w3⟩:=hI
  show wpAny _ Y.A ((compTurn (.ListComp elt gens scope pos) d (.ref it) (.ref D) Y.env).onRaise (fun x=>do noteFrame x Y.env;theTreesLotGoes x)) _ _ s3
  refine wpAny_noted (Zbu (E:=fun _ _=>False) ?_ (fun _ _ q=>q) fun _ _ z=>z.elim)
  rw[Wd elt tg iter ifs gens scope pos d (.ref it) (.ref D) Y.env hg h2]
  refine AN (Zey (AN ?_))
  have aD:∀{h h':Heap},(∀b o,b∉fp->h.get? b=some o->h'.get? b=some o)->∀{zs},AccAt h D zs->AccAt h' D zs:=fun k _ q=>q.keep fun o e=>k D o hD e
  have IW:=I3.pinned (fp:=[D]) (fun b hb=>by have e:b=D:=by simpa using hb
                                             subst e;exact f3) a3.gQ
  have Cz:∀b∈fp,cC Y (pins++kq [D] s3.heap) H3 b:=fun b hb=>by
    obtain⟨g0,g1,g2,g3,g4,g5⟩:=stat wR b hb
    refine⟨g0,g1,g2,g3,g4,fun p hp=> ?_⟩
    rcases ZaL.mp hp with z |z
    · exact g5 p (Za7 _ z)
    · rcases ZaL.mp z with z |z
      · exact g5 p (ZaD _ z)
      · intro q
        have e:p.1=D:=by simpa using (JY z).1
        exact hD (by rw[<-e,q];exact hb)
  rcases turn i n qJ iV H3 w3 with ⟨stop,qn⟩ |⟨go,N,hN,step⟩
  · refine Zbu (T.done Y rfl rfl rfl hc i _ s3 iV H3 (fun _ _=>False) IW Cz ba stop) (fun r s4 ⟨hr,I4⟩=> ?_) fun _ _ z=>z
    subst hr
    obtain⟨a4,n4⟩:=a3.through I4
    exact Zak ⟨qJ,iV,H3,I4.jE,f3,a4,qn⟩
  · refine Zbu (T.item Y rfl rfl rfl hc i _ s3 iV H3 (fun _ _=>False) IW Cz ba go) (fun r s4 ⟨u,hr,h4⟩=> ?_) fun _ _ z=>z
    subst hr
    refine AN (Zbu h4 (fun _ s5 ⟨x,H5,I5,r5,y5,dr,wQ⟩=> ?_) fun _ _ z=>z)
    obtain⟨a5,n5⟩:=a3.through I5
    have f5:cC Y pins H5 D:=⟨n5,f3.2⟩
    have Po:∀b∈D::fp,∃o,s5.heap.get? b=some o/\∀v,o.data≠.cell v:=fun b hb=>by
      rcases Zao.mp hb with e |hb
      · exact a5.gQ b (by simp[e])
      · exact T.obj _ _ dr b hb
    have BY:=I5.jE.pinned (fp:=D::fp) (fun b hb=>by
      rcases Zao.mp hb with e |hb
      · rw[e];exact f5
      · exact stat wQ b hb) Po
    refine AN (Zbu (pg _ s5 iV H5 x u _ BY r5 (step x H5 y5)) (fun _ s6 ⟨mS,H6,I6,q6⟩=> ?_) fun _ _ z=>by rw[hx]at z;exact z)
    refine AN (Zbu (pt _ s6 mS H6 _ I6 q6) (fun b s7 ⟨H7,I7,q7⟩=> ?_) fun _ _ z=>by rw[hx]at z;exact z)
    have Dk:∀{fg:St}{H7:Hp}{s7:Shared},Inv Y (pins++kq (D::fp) s5.heap) fg H7 s7->AccAt s7.heap D qJ/\H7 D=none:=fun {fg H7 s7} J=>by
      obtain⟨z,its,n,r,e⟩:=id a5
      have q:=J.pin (D,_) (ZaD _ (ZaD _ (Z3 Zau e)))
      exact⟨⟨z,its,n,r,q.1⟩,q.2.1⟩
    have Dj:∀{fg:St}{H7:Hp}{s7:Shared},Inv Y (pins++kq (D::fp) s5.heap) fg H7 s7->tn (i+1) s7.heap/\∀b∈fp,H7 b=none:=fun {fg H7 s7} J=>by
      refine⟨T.keep _ _ _ dr fun b hb o e=> (J.pin (b,o) (ZaD _ (ZaD _ (Z3 (Zap _ hb) e)))).1,fun b hb=> ?_⟩
      obtain⟨o,e,dd⟩:=T.obj _ _ dr b hb
      exact(J.pin (b,o) (ZaD _ (ZaD _ (Z3 (Zap _ hb) e)))).2.1
    cases b with
    |false=>
     simp only[Zbo,Zdp]at q7 |-
     obtain⟨m',hm,w7⟩:=hN _ _ _ q7
     obtain⟨a7,n7⟩:=Dk I7
     obtain⟨t7,r7⟩:=Dj I7
     exact Zak ⟨rfl,m',hm,i+1,qJ,mS,H7,I7.jE,⟨n7,f3.2⟩,a7,t7,r7,w7⟩
    |true=>
     simp only[ZeL]at q7 |-
     obtain⟨a7,n7⟩:=Dk I7
     obtain⟨t7,r7⟩:=Dj I7
     have I7':=I7.jE.pinned (fp:=fp) (stat r7) (T.obj _ _ t7)
     have f7:cC Y (pins++kq fp s7.heap) H7 D:=by
       obtain⟨g0,g1,g2,g3,g4,g5⟩:=f3
       refine⟨n7,g1,g2,g3,g4,fun p hp=> ?_⟩
       rcases ZaL.mp hp with z |z
       · exact g5 p (Za7 _ z)
       · rcases ZaL.mp z with z |z
         · exact g5 p (ZaD _ z)
         · intro q
           exact hD (by rw[<-q];exact(JY z).1)
     refine pi _ s7 mS H7 qJ N _ _ I7' f7 a7 q7 fun s8 Kr ug H8 I8 f8 a8 q8=> ?_
     obtain⟨m',hm,w8⟩:=hN _ _ _ q8
     refine Zak ⟨rfl,m',hm,i+1,Kr,ug,H8,I8.jE,⟨f8.1,f3.2⟩,a8,T.keep _ _ _ t7 fun b hb o e=> (I8.pin (b,o) (ZaD _ (ZaD _ (Z3 hb e)))).1,fun b hb=> ?_,w8⟩
     obtain⟨o,e,dd⟩:=T.obj _ _ t7 b hb
     exact(I8.pin (b,o) (ZaD _ (ZaD _ (Z3 hb e)))).2.1
def Jx {elt tg iter:Expr}{ifs:List Expr}{gens:List Comprehension}{scope:Scope}{pos:Pos}{d:Nat}{it:Addr}{R:Result->Shared->Prop}{s:Shared}{A:Around}{prog:Program}{w:World}{env:Env}{acc:Value}{fp:List Addr}{tn:Nat->Heap->Prop}{J:It}{K:Zht}
  (hg:gens[d]? =some ⟨tg,iter,ifs,0⟩) (T:Turn prog w K tg J fp it tn) {i:Nat} (st:tn i s.heap) (h:codeAny (model prog w) A (.compLoop (.ListComp elt gens scope pos) d (.ref it) acc env) R s):
  codeAny (model prog w) A (.compStart (.ListComp elt gens scope pos) d (.ref it) acc env) R s:=by
 refine ZgG ?_
 show wpAny _ _ ((compStart (.ListComp elt gens scope pos) d (.ref it) acc env).onRaise (fun x=>do noteFrame x env;standAt theWindowsPlace)) _ _ s
 refine wpAny_notedAt ?_
 have sV:(clausesOf (.ListComp elt gens scope pos))[d]? =some ⟨tg,iter,ifs,0⟩:=hg
 unfold compStart
 rw[sV]
 show wpAny _ _ (ask >>=_) _ _ s
 refine AN (wpAny_askSetting (wpAny_ite ?_))
 split
 ·first
   |exact AN (Zak (Zak (And.intro rfl h)))
   |exact Zak (And.intro rfl h)
 ·refine AN (ZdA ?_)
  show wpAny _ _ (standAt iter.pos >>=_) _ _ s
  exact AN (Zey (AN (T.self A i s _ _ st (Zak (And.intro rfl h)))))
def K6 (wi:TI) (g:TG) (tt:TT) (ti:TC):TC:=fun ys σ H Q=>wi σ H fun J H1=>iq g tt ti J ys σ H1 Q
def XD {elt tg iter:Expr}{ifs:List Expr}{gens:List Comprehension}{scope:Scope}{pos:Pos}{d:Nat}{wi:TI}{g:TG}{tt:TT}{ti:TC}
    (hx:Y.xe=fun _ _=>False) (hc:Y.calm=true) (hg:gens[d+1]? =some ⟨tg,iter,ifs,0⟩) (hi:PI Y tg iter wi) (pg:PG Y tg g) (pt:lj Y ifs tt) (pi:mK Y D (inner elt gens scope pos (d+1) (.ref D) Y.env) ti)
    (hs:∀x,foldedSetIterable iter Y.env x=pure x) (h2:∀g',gens[d+1+1]? =some g'->g'.is_async=0):mK Y D (inner elt gens scope pos d (.ref D) Y.env) (K6 wi g tt ti):=by
  intro pins s σ H ys Q k R I f a h hk
  unfold inner
  rw[hg]
  have I':=I.pinned (fp:=[D]) (fun b hb=>by have e:b=D:=by simpa using hb
                                            subst e;exact f) a.gQ
  refine AN (Zbu (hi _ s σ H _ I' h) (fun v s1 h1=> ?_) fun _ _ z=>by rw[hx]at z;exact z)
  refine AN (Zey (AN (Zgi (hs v) (AN (ZbT (Zbu h1 (fun kG s2 h2=> ?_) fun _ _ z=>by rw[hx]at z;exact z))))))
  obtain⟨it,fp,tn,J,H2,e,I2,T,ak,f2,q2⟩:=h2
  subst e
  obtain⟨a2,n2⟩:=a.through I2
  have fD:cC Y pins H2 D:=⟨n2,f.2⟩
  have hD:D∉fp:=fun z=>by
    obtain⟨z1,its,n,r,e⟩:=a
    exact(f2 D z).2.2.2.2.2 (D,_) (ZaD _ (ZaD _ (Z3 (ZaI.mpr rfl) e))) rfl
  have FG:∀b∈fp,cC Y pins H2 b:=fun b hb=>by
    obtain⟨g0,g1,g2,g3,g4,g5⟩:=f2 b hb
    exact⟨g0,g1,g2,g3,g4,fun p hp=>g5 p (by
      rcases ZaL.mp hp with z |z
      · exact Za7 _ z
      · exact ZaD _ (Za7 _ z))⟩
  refine AN (wpAny_runOwn (ZdQ (Jx hg T ak (UJ (Q:=Q) hx hc hg T FG ak hD h2 pg pt pi I2.jE fD a2 q2)) fun r s' hr=> ?_))
  cases r with
  |ok fl=>
   obtain⟨cW,aj,H',q1,q2,q3,q4⟩:=hr
   exact hk s' cW aj H' q1 q2 q3 q4
  |error e=>exact hr.elim
end
section
variable {X:Cx}{pins:List (Addr×Obj)}{σ:St}{H H':Hp}{s s':Shared}
def WU {N':List Str}{scope:Scope}{C D:Addr}{fp:List Addr}{aj:St}{ys:List V}{pl:List (Addr×Obj)}{h':Heap}(I:Inv X pins σ H s) (hf:∀b∈fp,cC X pins H b) (hC:s.heap.objs.size<=C) (hD:s.heap.objs.size<=D) (kQ:D≠C)
  (J:Inv (aS X N' scope C s H fp) pl aj H' s') (n:H' D=none) (a:AccAt s'.heap D ys) (sb:Heap.SameBut C s'.heap h'):Inv X pins σ (upd H' D (.lst ys)) {s' with heap:=h'} :=by
 have fo:∀b o,s.heap.get? b=some o->b≠C:=fun b o e=>ZaO (ZaE (Zar e) hC)
 have ND:∀b o,s.heap.get? b=some o->b≠D:=fun b o e=>ZaO (ZaE (Zar e) hD)
 have zJ:∀b o,H b=some o->b≠D:=fun b o e=>ZaO (ZaE (I.ai.lt e) hD)
 have fC:H' C=none:=J.free
 have u:Un (aR X.stack) fp H H' s.heap s'.heap:=J.base
 refine I.Bn (s':= {s' with heap:=h'}) (ch:=fp) J.os ⟨fun b o e nb hb hx=> (sb.2 b (fo b o e)).trans (u.keep b o e nb hb hx),fun b o e nb hb hx=> ?_,fun b o e nb hx=>by rw[Zg (ND b o e)];exact u.free b o e nb hx,fun b o e hx=> ?_,
  fun b xs e=>by rw[Zg (zJ b _ e)];exact u.eK b xs e,fun b o xs e=>by rw[Zg (zJ b _ e)];exact u.eJ b o xs e,fun b ps e=>by rw[Zg (zJ b _ e)];exact u.dY b ps e⟩ (fun b v e=> ?_) J.bare fun b hb=> ?_
 ·obtain⟨sl,q⟩:=u.slot b o e nb hb hx
  exact⟨sl,(sb.2 b (fo b o e)).trans q⟩
 ·obtain⟨o',q⟩:=u.there b o e hx
  exact⟨o',(sb.2 b (fo b o e)).trans q⟩
 ·by_cases hb:b=D
  ·subst hb
   rw[Ze]at e
   cases e
   obtain⟨z,its,k,r,q⟩:=a
   exact⟨z,its,k,r,(sb.2 b kQ).trans q⟩
  ·rw[Zg hb]at e
   refine(J.ai b v e).cb (fun c w hc q=> (sb.2 c ?_).trans q) (fun c q=>by rw[Zg (Zi q n)];exact q) fun c xs q=>by rw[Zg (Zi q n)];exact q
   rcases hc with z |z
   ·rw[z];exact Zi e fC
   ·exact Zi z fC
 ·obtain⟨f0,f1,f2,f3,f4,f5⟩:=hf b hb
  exact⟨f3,f1,f4,f5⟩
def Jy {elt tg iter:Expr}{ifs:List Expr}{rest:List Comprehension}{scope:Scope}{pos:Pos}{N':List Str}{ts:Nat}{br:List Nat}{it:Addr}{fp:List Addr}{tn:Nat->Heap->Prop}{J:It}{g:TG}{tt:TT}{ti:TC}{Q:List V->Hp->Prop}{E:Value->Shared->Prop}{RR:Value->Addr->Result->Shared->Prop}
  (S:Cd X N' ts br scope) (hc:X.calm=true) (I:Inv X pins σ H s) (T:Turn X.prog X.w X.K tg J fp it tn) (st:tn 0 s.heap) (hf:∀b∈fp,cC X pins H b)
  (h2:∀g',(Comprehension.mk tg iter ifs 0::rest)[0+1]? =some g'->g'.is_async=0)
  (pg:∀C,PG (aS X N' scope C s H fp) tg g) (pt:∀C,lj (aS X N' scope C s H fp) ifs tt)
  (pi:∀C D,mK (aS X N' scope C s H fp) D (inner elt (⟨tg,iter,ifs,0⟩::rest) scope pos 0 (.ref D) (aS X N' scope C s H fp).env) ti)
  (h:iq g tt ti J [] (jx ts br σ) H fun ys _ H2=>Q ys H2)
  (QF:∀C D s' aj H' ys fl,s.heap.objs.size<=C->s.heap.objs.size<=D->D≠C->Inv (aS X N' scope C s H fp) [] aj H' s'->H' D=none->AccAt s'.heap D ys->Q ys H'->RR (.ref D) C (.ok fl) s'):
  wpAny (model X.prog X.w) X.A (newList []) (fun acc Lv=>wpAny (model X.prog X.w) X.A (newFunctionEnv scope X.env.globals (dm scope X.env) [] X.env.qual none .none (some X.env)) (fun oM Lu=>
   codeAny (model X.prog X.w) X.A (.compStart (.ListComp elt (⟨tg,iter,ifs,0⟩::rest) scope pos) 0 (.ref it) acc {oM with scope:=relabel scope X.env}) (RR acc oM.locals) Lu) E Lv) E s:=by
 refine ZbS (ZfI S.gQ (by intro y hy;simp at hy) (fun gF nZ mh=> ?_) S.kind)
 dsimp only at nZ mh |-
 generalize kP:s.heap.push {cls:=.type "list",dict:=none,data:=.seq ([]:List Value).toArray} =h0 at nZ mh |-
 have hC:h0.objs.size=s.heap.objs.size+1:=by rw[<-kP,Zdq]
 have kQ:s.heap.objs.size≠h0.objs.size:=by rw[hC];exact ZaO (Zgt _)
 have oB:s.heap.objs.size<=h0.objs.size:=by rw[hC];exact Ze3 _
 have fo:∀b o,s.heap.get? b=some o->b≠h0.objs.size:=fun b o e=>ZaO (ZaE (Zar e) oB)
 have old:∀b o,s.heap.get? b=some o->gF.get? b=some o:=fun b o e=>mh.extBut b o (fo b o e) (OF _ (kP▸OF _ e))
 have gJ:gF.get? s.heap.objs.size=some {cls:=.type "list",data:=.seq ([]:List Value).toArray 0} :=mh.extBut _ _ kQ (OF _ (kP▸Zax _ rfl))
 have ho:∀b∈fp,∃o,s.heap.get? b=some o:=fun b hb=>let ⟨o,e,_⟩:=T.obj _ _ st b hb;⟨o,e⟩
 have I1:Inv (aS X N' scope h0.objs.size s H fp) [] (jx ts br σ) H {s with heap:=gF,toks:=s.toks+([]:List (Str×Value)).length} :=Hx S I hf ho oB nZ old
 have fresh:=I.ai.fresh (a:=s.heap.objs.size) (Zae _)
 have A8:∀b∈fp,cC (aS X N' scope h0.objs.size s H fp) [] H b:=fun b hb=>by
  obtain⟨f0,f1,f2,f3,f4,f5⟩:=hf b hb
  refine⟨f0,(I1.ok.kW b hb).1,I1.ok.kU b hb,.inl hb,(I1.ok.kW b hb).2,fun p hp=>absurd (show p∈([]:List (Addr×Obj)) from hp) (by simp)⟩
 have fD:cC (aS X N' scope h0.objs.size s H fp) [] H s.heap.objs.size:=by
  refine⟨fresh,kQ,fun z=> ?_,.inr (Zae _),fun x c e z=> ?_,fun p hp=>absurd (show p∈([]:List (Addr×Obj)) from hp) (by simp)⟩
  ·obtain⟨_,o,dc,_⟩:=I.stack.mem z
   exact absurd (Zar dc) (ZbI _)
  ·obtain⟨e1,e2⟩:=Yl e
   obtain⟨c',bH⟩:=I.ok.has x (S.free _ e2 rfl)
   obtain⟨v,q⟩:=I.cell x c' bH
   rw[bH]at e1
   have e3:c=c':=e1
   have l:=q.lt
   rw[<-e3,z]at l
   exact absurd l (ZbI _)
 have aD:AccAt gF s.heap.objs.size []:=⟨Za2 _,[],0,.nil,gJ⟩
 have QM:s.heap.objs.size∉fp:=fun z=>by obtain⟨o,e⟩:=ho _ z;exact absurd (Zar e) (ZbI _)
 have av:tn 0 gF:=T.keep _ _ _ st fun b _ o e=>old b o e
 have run:=Jx (elt:=elt) (gens:=⟨tg,iter,ifs,0⟩::rest) (scope:=scope) (pos:=pos) (d:=0) rfl T av
  (UJ (Y:=aS X N' scope h0.objs.size s H fp) (D:=s.heap.objs.size) (Q:=fun ys _ H2=>Q ys H2) (elt:=elt) (gens:=⟨tg,iter,ifs,0⟩::rest) (scope:=scope) (pos:=pos) (d:=0) rfl hc rfl T A8 av QM h2 (pg _) (pt _) (pi _ _) I1 fD aD h)
 refine ZdQ run fun r s' hr=> ?_
 cases r with
 |error e=>exact hr.elim
 |ok fl=>
  obtain⟨cW,aj,H',q1,q2,q3,q4⟩:=hr
  exact QF _ _ s' aj H' cW fl oB (Zae _) kQ q1 q2.1 q3 q4
end
def Cu (wi:TI) (ts:Nat) (br:List Nat) (g:TG) (tt:TT) (ti:TC):TE:=fun σ H Q=>wi σ H fun J H1=>iq g tt ti J [] (jx ts br σ) H1 fun ys _ H2=> ∀p,H2 p=none->Q (.ref p) (upd H2 p (.lst ys))
section
variable {X:Cx}{elt tg iter:Expr}{ifs:List Expr}{rest:List Comprehension}{scope:Scope}{pos:Pos}{wi:TI}{g:TG}{tt:TT}{ti:TC}
def Yc (N':List Str) (ts:Nat) (br:List Nat) (hi:PI X tg iter wi) (pg:∀C s H fp,PG (aS X N' scope C s H fp) tg g) (pt:∀C s H fp,lj (aS X N' scope C s H fp) ifs tt)
  (pi:∀C s H fp D,mK (aS X N' scope C s H fp) D (inner elt (⟨tg,iter,ifs,0⟩::rest) scope pos 0 (.ref D) (aS X N' scope C s H fp).env) ti)
  (ok:qB X.env.scope scope X.N N' ts br=true:=by rfl) (hc:X.calm=true:=by rfl) (h2:∀g',(Comprehension.mk tg iter ifs 0::rest)[0+1]? =some g'->g'.is_async=0:=by(intro g' h;cases h<;>rfl))
  (hs:∀x,foldedSetIterable iter X.env x=pure x:=by intro _;rfl):
  PE X (.ListComp elt (⟨tg,iter,ifs,0⟩::rest) scope pos) (Cu wi ts br g tt ti):=by
 intro pins s σ H Q I h
 have S:=JP ok
 rw[Zg6]
 refine Zeo (use:=none) rfl hs (Ya fun y hy e=>I.ok.has _ (S.free y hy e)) S.kind S.names (aq (hi pins s σ H _ I h) fun v s1 h1=>aq h1 fun kG s2 iL=> ?_)
 obtain⟨it,fp,tn,J,H2,e,I2,T,ak,f2,q2⟩:=iL
 subst e
 refine Jy (RR:=fun acc C=>compPost (model X.prog X.w) X.A X.xe none _ acc C) S hc I2 T ak f2 h2 (fun C=>pg C _ _ _) (fun C=>pt C _ _ _) (fun C D=>pi C _ _ _ D) q2 ?_
 intro C D s' aj H' ys fl hC hD kQ J' n a q
 obtain⟨m,hn,_⟩:=J'.loc
 exact⟨m,hn,fun h' sb=> ⟨.ref D,_,WU I2 f2 hC hD kQ J' n a sb,rfl,q D n⟩⟩
def Jb (N':List Str) (ts:Nat) (br:List Nat) {i:Nat}{x:Str}{px CH:Pos}(hN:X.N.Nodup) (sQ:X.N[i]? =some x) (hx:Loc X.env.scope x) (hi:PI X tg iter wi) (pg:∀C s H fp,PG (aS X N' scope C s H fp) tg g) (pt:∀C s H fp,lj (aS X N' scope C s H fp) ifs tt)
  (pi:∀C s H fp D,mK (aS X N' scope C s H fp) D (inner elt (⟨tg,iter,ifs,0⟩::rest) scope pos 0 (.ref D) (aS X N' scope C s H fp).env) ti)
  (Ae:swapsWith (.ListComp elt (⟨tg,iter,ifs,0⟩::rest) scope pos) (some (.Name x px)) CH.line X.env=pure true:=by rfl)
  (ok:qB X.env.scope scope X.N N' ts br=true:=by rfl) (hc:X.calm=true:=by rfl) (h2:∀g',(Comprehension.mk tg iter ifs 0::rest)[0+1]? =some g'->g'.is_async=0:=by(intro g' h;cases h<;>rfl))
  (hs:∀x,foldedSetIterable iter X.env x=pure x:=by intro _;rfl) (fG:X.fn x=true∨X.env.scope.names.lookup x=some .local:=by first |exact .inl rfl |exact .inr rfl |assumption):
  PS X (.Assign [.Name x px] (.ListComp elt (⟨tg,iter,ifs,0⟩::rest) scope pos) CH) (uE (Cu wi ts br g tt ti) (cg i)):=by
 intro pins s σ H D I h
 have S:=JP ok
 rw[exec_Assign_Name_used _ _ _ _ Ae]
 refine AN (Zey (AN ?_))
 show wpAny _ X.A (do let _ <-comprehension (.ListComp elt (⟨tg,iter,ifs,0⟩::rest) scope pos) scope X.env _ (newList []) false (eval iter X.env) (some (assign (.Name x px) X.env))) _ _ s
 refine AN (Zbu (Zeo (use:=some (assign (.Name x px) X.env)) (Q:=fun _ s'=> ∃aj H',Inv X pins aj H' s'/\D.nx aj H') rfl hs (Ya fun y hy e=>I.ok.has _ (S.free y hy e)) S.kind S.names
  (aq (hi pins s σ H _ I h) fun v s1 h1=>aq h1 fun kG s2 iL=> ?_)) (fun _ s' hq=>Zak (Zak hq)) fun _ _ e=>e)
 obtain⟨it,fp,tn,J,H2,e,I2,T,ak,f2,q2⟩:=iL
 subst e
 refine Jy (RR:=fun acc C=>compPost (model X.prog X.w) X.A X.xe (some (assign (.Name x px) X.env)) _ acc C) S hc I2 T ak f2 h2 (fun C=>pg C _ _ _) (fun C=>pt C _ _ _) (fun C D=>pi C _ _ _ D) q2 ?_
 intro C B s' aj H' ys fl hC hB Fq J' n a q
 obtain⟨m,hn,_⟩:=J'.loc
 have IX:Inv X pins σ (upd H' B (.lst ys)) s':=WU I2 f2 hC hB Fq J' n a (Heap.SameBut.refl C s'.heap)
 have fC:=I2.mE (H':=upd H' B (.lst ys)) (b:=C) hC (by rw[Zg (ZdL Fq)];exact J'.free)
 obtain⟨f0,f1,FG,f3,f4,f5⟩:=fC
 show wpAny _ X.A (assign (.Name x px) X.env (.ref B)) _ _ s'
 refine wpAny_assign_Name (Uo (v:=.ref B) (u:=.ref B) IX hN sQ hx rfl (fun fM I'' ⟨c,sb,jN⟩=> ?_) fG)
 have QO:C≠c:=by
  rcases jN with z |z
  ·rw[z];exact f1
  ·exact(f4 x c z).symm
 refine⟨m,Heap.Ns.sameBut hn sb QO,fun h' L7=> ?_⟩
 refine⟨σ.set i (some (.ref B)),_,I''.turned (t':=fM.toks) (it:=C) (fun b o hb e=> (L7.2 b hb).trans e) f0 f1 f3 f4 f5,q B n⟩
end
section
variable {X:Cx}
def ZD :dW X (.builtin "isinstance") (fun xs H Q=> ∃x t b,xs=[x,.ty c]/\fI X.K H x t/\PySem.W.kitOne X.K t (.type c)=some b/\Q (.bl b) H):=by
 intro pins s σ H xs us Q I r h
 obtain⟨x,t,b,rfl,ty,e,q⟩:=h
 obtain⟨u,v,rfl,ru,rv⟩:=vals2 r
 cases rv
 exact ZcO I ru ty e fun tk=> ⟨.bl b,H,I.tok tk,rfl,q⟩
def JT (hc:X.calm=true:=by rfl):dW X (.builtin "all") (fun xs H Q=> ∃(p:Addr) (bs:List Bool),xs=[.ref p]/\ag X.K H p (bs.map V.bl)/\Q (.bl (bs.all id)) H):=by
 intro pins s σ H xs us Q I r h
 obtain⟨p,bs,rfl,hp,q⟩:=h
 obtain⟨u,rfl,ru⟩:=ZfU r
 cases ru
 obtain⟨its,rv,pl,hz⟩:=I.list hp
 have hb:∀(i:Nat) (v:Value),its.toArray[i]? =some v->v=.bool (bs.getD i false):=fun i v e=>by
  have e':its[i]? =some v:=by simpa using e
  have hl:=rv.length
  have hi:i<its.length:=(Zab.mp e').1
  have bg:i< (bs.map V.bl).length:=.o
  obtain⟨u,hu,ru⟩:=rv.get (i:=i) (x:=(bs.map V.bl)[i]) (by simp)
  rw[e']at hu
  cases hu
  rw[Zgu]at ru
  have g8:i<bs.length:=by simpa using bg
  have e2:bs.getD i false=bs[i]:=by simp[ZbL,g8]
  rw[e2]
  exact ru
 refine call_all_walk (ZeR pl.isList ?_)
 have cG:p≠s.heap.objs.size:=ZaO (by obtain⟨o,n,e,_⟩:=pl;exact Zar e)
 refine⟨s.heap.objs.size,_,_,_,_,_,fun i=>bs.getD i false,rfl,Zhm (A:=X.A.in1) (show X.A.in1.handled=none from I.ok.hd hc) s.heap.objs.size p cG its.toArray,⟨⟨_,Zax _ rfl,rfl,rfl⟩,pl.isList.at fun o e=>OF _ e⟩,fun i v s' Q' E' hP hQ=> ?_,fun h' tk hk=> ?_⟩
 ·rw[hb i v hP]
  exact Zds hQ
 ·have e:(List.range its.toArray.size).all (fun i=>bs.getD i false)=bs.all id:=by
   have hl:its.toArray.size=bs.length:=by have:=rv.length;rw[Zat]at this;simpa using this.symm
   rw[hl,ZdX,Zbj,Zbj]
   constructor
   ·intro h b hb
    obtain⟨i,hi,e⟩:=List.mem_iff_getElem.mp hb
    have:=h i (Zbt.mpr hi)
    rw[ZbL,Zal hi,ZeA,e]at this
    exact this
   ·intro h i hi
    have bg:=Zbt.mp hi
    rw[ZbL,Zal bg,ZeA]
    exact h _ (ZeC bg)
  rw[e]
  refine⟨.bl (bs.all id),H,I.kept fun b o eb=>hk b o ?_ (OF _ eb),rfl,q⟩
  intro z
  have e1:b=s.heap.objs.size:=by simpa using z
  exact absurd (Zar eb) (by rw[e1];exact ZbI _)
def pI (ns:List Int):Nat:=(PyProof.Rows.firstMet (fun i=>ns.getD i 0) ns.length).length
def Ue (hc:X.calm=true:=by rfl):dW X (.type "set") (fun xs H Q=> ∃(p:Addr) (ns:List Int),xs=[.ref p]/\ag X.K H p (ns.map V.int)/\ns.length<=1000/\∀q S,H q=none->Q (.ref q) (upd H q (.set S (pI ns)))):=by
 intro pins s σ H xs us Q I r h
 obtain⟨p,ns,rfl,hp,hn,q⟩:=h
 obtain⟨u,rfl,ru⟩:=ZfU r
 cases ru
 obtain⟨its,rv,pl,hz⟩:=I.list hp
 have hl:=rv.length
 rw[Zat]at hl
 refine call_set_list (I.ok.hd hc) pl.isList (Jw rv) (by rw[Zan,<-hl];unfold scanBound;omega) fun h' tk hs hk=> ?_
 have e:its.toArray.size=ns.length:=by simp[hl]
 rw[e]at hs
 exact⟨.ref s.heap.objs.size,_,I.laid (a:=s.heap.objs.size) (o:=.set _ (pI ns)) (fun b o eb=>hk b o (Zar eb) eb) (Zae _) hs,rfl,q _ _ I.fresh⟩
def Ug:dW X (.builtin "len") (fun xs H Q=> ∃p S n,xs=[.ref p]/\H p=some (.set S n)/\Q (.int n) H):=by
 intro pins s σ H xs us Q I r h
 obtain⟨p,S,n,rfl,hp,q⟩:=h
 obtain⟨u,rfl,ru⟩:=ZfU r
 cases ru
 obtain⟨o,es,ep,t,h1,h2,h3,h4,h5,h6,h7,h8⟩:=(show bw X.prog X.w H s.heap p (.set S n) from I.ai p _ hp)
 refine call_len_set h1 h2 h3 h7 (by have:scanBound=4096:=rfl;omega) ⟨.int n,H,I.tok _,⟨_,by rw[h8]⟩,q⟩
def We:dW X (.type "range") (fun xs H Q=> ∃j:Int,xs=[.int j]/\∀q,H q=none->Q (.ref q) (upd H q (.fN 0 j))):=by
 intro pins s σ H xs us Q I r h
 obtain⟨j,rfl,q⟩:=h
 obtain⟨u,rfl,ru⟩:=ZfU r
 obtain⟨t,rfl⟩:=ru
 refine call_range_1 ?_
 exact⟨.ref s.heap.objs.size,_,I.laid (a:=s.heap.objs.size) (o:=.fN 0 j) (fun b o eb=>OF _ eb) (Zae _) ⟨_,_,_,Zax _ rfl⟩,rfl,q _ I.fresh⟩
def upTo (n:Nat):List V:=(List.range n).map fun(i:Nat)=>V.int (i:Int)
def JL {acc:Array Value}(h:ItemsOf (fun i v=> ∃t,v=.int (0+i*1) t) acc n):Vals (upTo n) acc.toList:=by
 obtain⟨h1,h2⟩:=h
 obtain⟨l⟩:=acc
 have h1:l.length=n:=h1
 have h2:∀(j:Nat) (v:Value),l[j]? =some v->∃t,v=.int (j:Int) t:=fun j v e=>by
  obtain⟨t,q⟩:=h2 j v (by simpa using e)
  exact⟨t,by rw[q];congr 1;omega⟩
 have key:∀(l:List Value) (k:Nat),(∀(j:Nat) (v:Value),l[j]? =some v->∃t,v=.int ((k+j:Nat):Int) t)->Vals ((List.range' k l.length).map fun(i:Nat)=>V.int (i:Int)) l:=by
  intro l
  induction l with
  |nil=>intro k _;exact .nil
  |cons v l ih=>
   intro k h
   rw[ZbA,List.range'_succ,ZbJ]
   obtain⟨t,e⟩:=h 0 v rfl
   refine .cons ⟨t,by rw[e];simp⟩ (ih (k+1) fun j w q=> ?_)
   obtain⟨t',e'⟩:=h (j+1) w (by simpa using q)
   exact⟨t',by rw[e'];congr 1;omega⟩
 have:=key l 0 (fun j v e=>by simpa using h2 j v e)
 unfold upTo
 rw[<-h1,List.range_eq_range']
 exact this
def Uf (hc:X.calm=true:=by rfl):dW X (.type "list") (fun xs H Q=> ∃(p:Addr) (j:Int),xs=[.ref p]/\H p=some (.fN 0 j)/\0<=j/\j<=1000/\∀q,H q=none->Q (.ref q) (upd H q (.lst (upTo j.toNat)))):=by
 intro pins s σ H xs us Q I r h
 obtain⟨p,j,rfl,hp,h0,h1,q⟩:=h
 obtain⟨u,rfl,ru⟩:=ZfU r
 cases ru
 obtain⟨t,u,v,e⟩:=(show bw X.prog X.w H s.heap p (.fN 0 j) from I.ai p _ hp)
 refine call_list_range (n:=j.toNat) (I.ok.hd hc) e (small_one .o .o .o .o) (by rw[Zg3];split<;>omega) .o fun h' tk acc c' hk hS gJ=> ?_
 have r2:=JL gJ
 have hlen:(upTo j.toNat).length<=sizeLine:=by unfold upTo;rw[Zat,Zcb,ZaP];omega
 exact⟨.ref s.heap.objs.size,_,I.laid (a:=s.heap.objs.size) (o:=.lst (upTo j.toNat)) hk (Zae _) ⟨hlen,acc.toList,c',r2,by simpa using hS⟩,rfl,q _ I.fresh⟩
def Ij:bu X (binaryOp .Add) (fun x y H Q=> ∃a b ys,x=.ref a/\y=.ref b/\ah X.K H a []/\ah X.K H b ys/\Q (.ref b) H):=by
 intro pins s σ H x y u v Q I rx ry h
 obtain⟨a,b,ys,rfl,rfl,ha,hb,q⟩:=h
 cases rx
 cases ry
 obtain⟨its,rv,pl,hz⟩:=I.tuple ha
 obtain⟨iH,fT,dH,aI⟩:=I.tuple hb
 cases rv
 obtain⟨⟨cls,dd,data,sl⟩,ho,dE,n,hd⟩:=id pl
 obtain⟨⟨Gj,mI,data2,iw⟩,gW,jk,n2,hd2⟩:=id dH
 simp only at dE hd jk hd2
 subst dE hd jk hd2
 exact concat_meets ⟨_,ho,rfl⟩ ⟨_,gW,rfl⟩ Zgr Zg5 Zfk Zfh (Ze9 _ _)
   (tuple_addW0 a b #[] iH.toArray n n2 dd mI sl iw rfl) ⟨ho,gW,⟨.ref b,H,I,rfl,q⟩⟩
end
def WC {K:Zht}{a:Addr}{xs:List V}{g:TG}{tt:TT}{ti:TC}{ys:List V}{σ:St}{H:Hp}{Q:List V->St->Hp->Prop}(Pv:Nat->List V->St->Hp->Prop) (h0:Pv 0 ys σ H)
  (hl:∀i ys σ H,i<=xs.length->Pv i ys σ H->ah K H a xs)
  (hs:∀i x ys σ H,xs[i]? =some x->Pv i ys σ H->g x σ H fun aV H2=>tt aV H2 fun b H3=>if b=true then ti ys aV H3 (Pv (i+1)) else Pv (i+1) ys aV H3)
  (hd:∀ys σ H,Pv xs.length ys σ H->Q ys σ H):iq g tt ti (BV K a) ys σ H Q:=by
 refine⟨fun i m ys σ H=>m=xs.length - i/\i<=xs.length/\Pv i ys σ H,⟨xs.length,by simp,Za2 _,h0⟩,?_⟩
 rintro i m ys σ H ⟨rfl,hi,p⟩
 have q:=hl i ys σ H hi p
 by_cases az:i<xs.length
 ·refine .inr ⟨⟨xs,xs[i],q,by simp[az]⟩,Pv (i+1),fun cW aj H' p'=> ⟨xs.length - (i+1),.o,rfl,az,p'⟩,fun x H' y=> ?_⟩
  obtain⟨e,y⟩:=y
  subst e
  exact hs i x ys σ _ (y xs q) p
 ·have e:i=xs.length:=.o
  subst e
  exact .inl ⟨⟨xs,q,Zae _⟩,hd ys σ H p⟩
def Ye {K:Zht}{a:Addr}{xs:List V}{g:TG}{tt:TT}{ti:TC}{ys:List V}{σ:St}{H:Hp}{Q:List V->St->Hp->Prop}(Pv:Nat->List V->St->Hp->Prop) (h0:Pv 0 ys σ H)
  (hl:∀i ys σ H,i<=xs.length->Pv i ys σ H->ag K H a xs)
  (hs:∀i x ys σ H,xs[i]? =some x->Pv i ys σ H->g x σ H fun aV H2=>tt aV H2 fun b H3=>if b=true then ti ys aV H3 (Pv (i+1)) else Pv (i+1) ys aV H3)
  (hd:∀ys σ H,Pv xs.length ys σ H->Q ys σ H):iq g tt ti (BW K a) ys σ H Q:=by
 refine⟨fun i m ys σ H=>m=xs.length - i/\i<=xs.length/\Pv i ys σ H,⟨xs.length,by simp,Za2 _,h0⟩,?_⟩
 rintro i m ys σ H ⟨rfl,hi,p⟩
 have q:=hl i ys σ H hi p
 by_cases az:i<xs.length
 ·refine .inr ⟨⟨xs,xs[i],q,by simp[az]⟩,Pv (i+1),fun cW aj H' p'=> ⟨xs.length - (i+1),.o,rfl,az,p'⟩,fun x H' y=> ?_⟩
  obtain⟨e,y⟩:=y
  subst e
  exact hs i x ys σ _ (y xs q) p
 ·have e:i=xs.length:=.o
  subst e
  exact .inl ⟨⟨xs,q,Zae _⟩,hd ys σ H p⟩
def YC {lo:Int}{n:Nat}{g:TG}{tt:TT}{ti:TC}{ys:List V}{σ:St}{H:Hp}{Q:List V->St->Hp->Prop}(Pv:Nat->List V->St->Hp->Prop) (h0:Pv 0 ys σ H)
  (hs:∀i ys σ H,i<n->Pv i ys σ H->g (.int (lo+i)) σ H fun aV H2=>tt aV H2 fun b H3=>if b=true then ti ys aV H3 (Pv (i+1)) else Pv (i+1) ys aV H3)
  (hd:∀ys σ H,Pv n ys σ H->Q ys σ H):iq g tt ti (oY lo n) ys σ H Q:=by
 refine⟨fun i m ys σ H=>m=n - i/\i<=n/\Pv i ys σ H,⟨n,by simp,Za2 _,h0⟩,?_⟩
 rintro i m ys σ H ⟨rfl,hi,p⟩
 by_cases az:i<n
 ·refine .inr ⟨az,Pv (i+1),fun cW aj H' p'=> ⟨n - (i+1),.o,rfl,az,p'⟩,fun x H' y=> ?_⟩
  obtain⟨e,y⟩:=y
  subst e y
  exact hs i ys σ _ az p
 ·have e:i=n:=.o
  subst e
  exact .inl ⟨Zae _,hd ys σ H p⟩
def pb {X:Cx}{N':List Str}{scope:Scope}{C:Addr}{s:Shared}{H:Hp}{fp:List Addr}(i:Nat) {x:Str}{pos:Pos}(hN:N'.Nodup:=by decide+kernel) (hi:N'[i]? =some x:=by rfl) (hx:(relabel scope X.env).names.lookup x=some .local:=by rfl):
  PG (aS X N' scope C s H fp) (.Name x pos) (cg i):=ZE (X:=aS X N' scope C s H fp) hN hi (.inl hx) (.inr hx)
def Def (P:Program) (w:World) (K:Zht) (mg:Str->Option Value) (base:Heap) (k:Nat) (x:Str) (ps:List Str) (sp:Sp):Prop:=
 ∃f fd,aA P w K mg base aE k f fd ps sp/\mg x=some (.ref f)/\PySem.W.keepIn K (.ref f)=true/\Binds K fd ps []
section
variable {X:Cx}{k:Nat}{x:Str}{ps:List Str}{sp:Sp}{e:Expr}{es:List Expr}{t:TA}{p pos:Pos}
def Zh (d:Def X.prog X.w X.K X.mg X.base k x ps sp) (hr:bW k X.A) (ha:PA X (e::es) t) (hg:Gl X x:=by rfl) (g9:(x==("__debug__" :Str))=false:=by decide)
  (he:starEach (e::es) X.env=(false,eval e X.env)::starEach es X.env:=by rfl) (eX:(backTo pos (starEach es X.env)).any (·.1)=false:=by rfl):
  PE X (.Call (.Name x p) (e::es) [] pos) (uB sp [] E0 t):=by
 obtain⟨f,fd,F,hm,hk,hb⟩:=d
 exact Yt F hr hg hm hk hb .nil MT ha g9 he eX
end
def bR (K:Zht) (H:Hp) (x:V):Prop:=∃T,fI K H x (.type T)
def whole:V->Bool
 | .int _=>true
 |_=>false
def bz:V->Int->Int->Bool
 | .int i,a,b=>decide (a<=i)&&decide (i<=b)
 |_,_,_=>false
def xV:Option HO->Option (List V)
 |some (.tup xs)=>some xs
 |_=>none
def bA (H:Hp):V->Option (List V)
 | .ref a=>xV (H a)
 |_=>none
def ZC :bA H (.ref a)=xV (H a):=rfl
def Zn (h:H a=some (.tup xs)):bA H (.ref a)=some xs:=by rw[ZC,h];rfl
def Zcm (h:xV o=some xs):o=some (.tup xs):=by
 cases o with
 |none=>cases h
 |some o=>cases o<;>first |(cases h;rfl) |cases h
def Zu {H:Hp}{x:V}{xs:List V}(h:bA H x=some xs):∃a,x=.ref a/\H a=some (.tup xs):=by
 cases x with
 |ref a=>exact⟨a,rfl,Zcm h⟩
 |_=>cases h
def ae.bA (s:ae H H') (h:L2.bA H x=some xs):L2.bA H' x=some xs:=by
 obtain⟨a,rfl,q⟩:=Zu h
 exact Zn (s _ _ q)
def ae.iD {K:Zht}{H H':Hp}(s:ae H H') {x:V}(h:bR K H x):bR K H' x:=by
 obtain⟨T,t⟩:=h
 cases t with
 |af=>exact⟨_,.af⟩
 |bl y=>exact⟨_,.bl y⟩
 |int i=>exact⟨_,.int i⟩
 |str y=>exact⟨_,.str y⟩
 |hG y=>exact⟨_,.hG y⟩
 |lst e=>exact⟨_,.lst (s _ _ e)⟩
 |cJ e=>exact⟨_,.cJ (s _ _ e)⟩
 |tup e=>exact⟨_,.tup (s _ _ e)⟩
 |dK e=>exact⟨_,.dK (s _ _ e)⟩
 |dT e=>exact⟨_,.dT (s _ _ e)⟩
def zW:V->Bool
 | .int _=>true
 | .bl _=>true
 |_=>false
def DW:V->Bool
 | .bl _=>true
 |_=>false
def V1 {K:Zht}{H:Hp}{x:V}{T:String}(t:fI K H x (.type T)):PySem.W.kitOne K (.type T) (.type "int")=some (zW x):=by cases t<;>rfl
def XT {K:Zht}{H:Hp}{x:V}{T:String}(t:fI K H x (.type T)):PySem.W.kitOne K (.type T) (.type "bool")=some (DW x):=by cases t<;>rfl
def ZcL {K:Zht}{H:Hp}{x:V}{T:String}(t:fI K H x (.type T)):PySem.W.kitOne K (.type T) (.type "tuple")=some (bA H x).isSome:=by
 cases t with
 |tup e=>rw[Zn e];rfl
 |lst e=>rw[ZC,e];rfl
 |cJ e=>rw[ZC,e];rfl
 |dK e=>rw[ZC,e];rfl
 |dT e=>rw[ZC,e];rfl
 |_=>rfl
def ZaM (x:V):whole x=(zW x&& !DW x):=by cases x<;>rfl
def au (p:Addr) (H H':Hp):Prop:=∀b o,H b=some o->b≠p->H' b=some o
def au.trans (a:au p H H1) (b:au p H1 H2):au p H H2:=fun c o h n=>b c o (a c o h n) n
def ae.x (a:ae H H1):au p H H1:=fun c o h _=>a c o h
def au.upd :au p H (L2.upd H p o):=fun b u h n=>by rw[Zg n];exact h
def newX (H:Hp) (p:Addr) (o:HO):∃H',upd H p o=H'/\au p H H':=⟨_,rfl,au.upd⟩
def Tz {X:Cx}(hu:X.A.units<cLine):bu X (compareOp .Eq) (fun x y H Q=> ∃(a b:Addr) (xs:List V),x=.ref a/\y=.ref b/\ag X.K H a xs/\ag X.K H b []/\Q (.bl xs.isEmpty) H):=by
 intro pins s σ H x y u v Q I rx ry h
 obtain⟨a,b,xs,rfl,rfl,ha,hb,q⟩:=h
 cases rx
 cases ry
 obtain⟨its,rv,pl,hz⟩:=I.list ha
 obtain⟨iH,fT,dH,aI⟩:=I.list hb
 cases fT
 cases rv with
 |nil=>exact SeqAt.eq_listAt (e:=fun _=>true) pl.isList dH.isList rfl hu (fun j h1 h2=>absurd h2 (by simp)) ⟨.bl true,H,I,rfl,q⟩
 |cons r t=>exact SeqAt.eq_list_lengthsAt pl.isList dH.isList (by simp) hu ⟨.bl false,H,I,rfl,q⟩
def TF {X:Cx}(hu:X.A.units<cLine):bu X (compareOp .NotEq) (fun x y H Q=> ∃(a b:Addr) (xs:List V),x=.ref a/\y=.ref b/\ag X.K H a xs/\ag X.K H b []/\Q (.bl (!xs.isEmpty)) H):=by
 intro pins s σ H x y u v Q I rx ry h
 obtain⟨a,b,xs,rfl,rfl,ha,hb,q⟩:=h
 cases rx
 cases ry
 obtain⟨its,rv,pl,hz⟩:=I.list ha
 obtain⟨iH,fT,dH,aI⟩:=I.list hb
 cases fT
 cases rv with
 |nil=>exact SeqAt.RcNeAt.lists (e:=fun _=>true) pl.isList dH.isList rfl hu (fun j h1 h2=>absurd h2 (by simp)) _ _ _ _ ⟨.bl false,H,I,rfl,q⟩
 |cons r t=>exact SeqAt.RcNeAt.lists_lengths pl.isList dH.isList (by simp) hu _ _ _ _ ⟨.bl true,H,I,rfl,q⟩
section
variable {prog:Program}{w:World}{A:Around}{E:Value->Shared->Prop}{s:Shared}
def Za8 (h1:s.heap.IsTupleIter j t i) (h2:s.heap.IsTuple t its) (hx:its[i]? =some x)
  (k:∀h',h'.IsTupleIter j t (i+1)->Heap.SameBut j s.heap h'->Q x {s with heap:=h'}):wpAny (model prog w) A (Builtin.SmallTypes.nextOf (.ref j)) Q E s:=by
 obtain⟨o,eo,co,dO⟩:=id h1
 obtain⟨ot,et,_,nt,dt⟩:=h2
 unfold Builtin.SmallTypes.nextOf
 refine AN (Zb7 (name:=Str.ofString "__next__") h1.typeIs Zd1 (Zdr Zd1 h1.typeIs ZfP ?_ (ZfN _)))
 show wpAny _ _ (field (.ref j) 0 >>=_) _ _ s
 refine AN (ZbR eo dO (x:=.ref t) rfl ?_)
 show wpAny _ _ (if (Value.ref t==Value.none)=true then _ else _) _ _ s
 rw[Zam (show ¬((Value.ref t==Value.none)=true) from Zav)]
 show wpAny _ _ (field (.ref j) 1 >>=_) _ _ s
 refine AN (ZbR eo dO (x:=.int i 0) rfl ?_)
 show wpAny _ _ (seqItems? (.ref t) >>=_) _ _ s
 refine AN (Zb5 et dt ?_)
 simp only[ZdT,hx]
 refine AN (ZeW eo dO (by simp) (Zak ⟨x,rfl,Zak (k _ ⟨_,Zdl _ eo (Zfx (Zef dO _)),(Obj.cls_mapFields ..).trans co,?_⟩ (Zdj ..))⟩))
 rw[Zef dO]
 simp[rawInt]
def ZcA {Q:Value->Shared->Prop}(hh:A.handled=none) (h1:s.heap.IsTupleIter j t i) (h2:s.heap.IsTuple t its) (hx:its[i]? =none)
  (k:∀h' e,Heap.ExtBut j s.heap h'->(∃o,h'.get? e=some o/\o.cls=.type "StopIteration")->E (.ref e) {s with heap:=h'}):wpAny (model prog w) A (Builtin.SmallTypes.nextOf (.ref j)) Q E s:=by
 obtain⟨o,eo,co,dO⟩:=id h1
 obtain⟨ot,et,_,nt,dt⟩:=h2
 unfold Builtin.SmallTypes.nextOf
 refine AN (Zb7 (name:=Str.ofString "__next__") h1.typeIs Zd1 (Zdr Zd1 h1.typeIs ZfP ?_ (ZfN _)))
 show wpAny _ _ (field (.ref j) 0 >>=_) _ _ s
 refine AN (ZbR eo dO (x:=.ref t) rfl ?_)
 show wpAny _ _ (if (Value.ref t==Value.none)=true then _ else _) _ _ s
 rw[Zam (show ¬((Value.ref t==Value.none)=true) from Zav)]
 show wpAny _ _ (field (.ref j) 1 >>=_) _ _ s
 refine AN (ZbR eo dO (x:=.int i 0) rfl ?_)
 show wpAny _ _ (seqItems? (.ref t) >>=_) _ _ s
 refine AN (Zb5 et dt ?_)
 simp only[ZdT,hx]
 refine AN (ZdA (AN (ZeW eo dO (by simp) ?_)))
 show wpAny _ _ (newExc (.type "StopIteration") [] >>=_) _ _ _
 refine AN ?_
 simp only[newExc,newTuple]
 refine AN (ZbS ?_ (by size_fits))
 refine AN (m:=firstArgMember _ _) (Zgi (a:=Value.none) (by first |rfl |(simp only[firstArgMember];rfl)) (ZbS ?_ (by size_fits)))
 simp only[raiseNew]
 refine AN (wpAny_handled ?_)
 first |rw[show A.in1.handled=none from hh] |rw[hh]
 exact AN (Zak (ZgY (k _ _ (((Zdj ..).extBut.push _).push _) ⟨_,Zax _ rfl,rfl⟩)))
end
def F4 {A:Around}(hh:A.handled=none) (j t:Addr) (cG:t≠j) (its:Array Value):
  Draws prog w A j [j,t] its.size (fun i v=>its[i]? =some v) (fun i h=>h.IsTupleIter j t i/\h.IsTuple t its) where
 live:=fun _ _ st=>let ⟨o,ho,_⟩:=st.1;⟨o,ho⟩
 frame:=fun _ _ _ st hk=> ⟨st.1.at fun o e=>hk j (by simp) o e,st.2.at fun o e=>hk t (by simp) o e⟩
 item:=fun i s Q E hi st hQ=>Za8 st.1 st.2 (x:=its[i]) (by simp[hi]) fun h' a b=>hQ _ h' s.toks (by simp[hi]) ⟨a,st.2.extBut b.extBut cG⟩ b
 done:=fun s Q E st hE=>ZcA hh st.1 st.2 (by simp) hE
section
variable {prog:Program}{w:World}{A:Around}{E:Value->Shared->Prop}{s:Shared}
def ZcW (l:Addr) (its:Array Value) (n:Nat) (hW:Option Addr) (sl:Array (Option Value)):
  Meets (Builtin.«enumerate.__new__» ⟨[.type "enumerate",.ref l],[]⟩) (fun _ R s=>s.heap.get? l=some {cls:=.type "tuple",dict:=hW,data:=.seq its n,slots:=sl}/\
   R (.ok (.ret (.ref (s.heap.push {cls:=.type "tuple_iterator",data:=.fields #[.ref l,.int 0 0]}).objs.size)))
    {s with heap:=(s.heap.push {cls:=.type "tuple_iterator",data:=.fields #[.ref l,.int 0 0]}).push {cls:=.type "enumerate",data:=.fields #[.none,.bool false,.ref s.heap.objs.size,rawInt 0,.none,.none]} }):=
 .of_wp fun prog w A R s h=>by
  obtain⟨hp,g,d,tk,os⟩:=s
  obtain⟨hl,h⟩:=h
  have mf:=sub_enumerate
  have hL:Heap.IsTuple (Shared.heap ⟨hp,g,d,tk,os⟩) l its:=⟨_,hl,rfl,n,rfl⟩
  wp_walk using AutoSeq1.wpAny_loadPart' hl
  refine wpAny_stack_any fun st=>Zak ?_
  split
  ·rename_i c _ _ _ _ _
   cases (c==Value.type "enumerate")<;> (wp_walk using AutoSeq1.wpAny_loadPart' hl,ZfY hL;exact⟨_,rfl,h⟩)
  ·wp_walk using AutoSeq1.wpAny_loadPart' hl,ZfY hL
   exact⟨_,rfl,h⟩
def Zbl (hL:s.heap.IsTuple l its)
  (h:∀h',IsEnum h' (s.heap.objs.size+1) s.heap.objs.size 0 .none->h'.IsTupleIter s.heap.objs.size l 0->(∀b o,s.heap.get? b=some o->h'.get? b=some o)->Q (.ref (s.heap.objs.size+1)) {s with heap:=h'}):
  wpAny (model prog w) A (call (.type "enumerate") [.ref l]) Q E s:=by
 obtain⟨⟨c,hW,dt,sl⟩,hl,hc,n,hd⟩:=hL
 replace hc:c=.type "tuple" :=hc
 replace hd:dt=.seq its n:=hd
 subst hc hd
 refine callType_new F.called_enumerate .d (F.typeCall_enumerate_1 _) (F.newCall_enumerate_1 _) (fun obj=>F.args_object_init_2 obj _) F.entry_enumerate_new (ZcW l its n hW sl) ⟨hl,?_⟩
 have hz:(s.heap.push {cls:=.type "tuple_iterator",data:=.fields #[.ref l,.int 0 0]}).objs.size=s.heap.objs.size+1:=Zdq ..
 show _/\_
 rw[hz]
 have he:IsEnum ((s.heap.push {cls:=.type "tuple_iterator",data:=.fields #[.ref l,.int 0 0]}).push {cls:=.type "enumerate",data:=.fields #[.none,.bool false,.ref s.heap.objs.size,rawInt 0,.none,.none]}) (s.heap.objs.size+1) s.heap.objs.size 0 .none:=by
  have q:=Zax (s.heap.push {cls:=.type "tuple_iterator",data:=.fields #[.ref l,.int 0 0]}) (o:= {cls:=.type "enumerate",data:=.fields #[.none,.bool false,.ref s.heap.objs.size,rawInt 0,.none,.none]}) rfl
  rw[hz]at q
  exact q
 exact⟨⟨_,he,rfl⟩,h _ he ⟨_,OF _ (Zax _ rfl),rfl,rfl⟩ fun b o x=>OF _ (OF _ x)⟩
end
def qG (K:Zht) (t:Addr):It:=
 ⟨fun i H=> ∃xs x,ah K H t xs/\xs[i]? =some x,fun i H x H'=> ∃(T:Addr) (y:V),x=.ref T/\H T=none/\H'=upd H T (.par [.int (i:Int),y])/\∀xs,ah K H t xs->xs[i]? =some y,fun i H=> ∃xs,ah K H t xs/\xs.length=i⟩
def Zcl {P:Program}{w:World}{K:Zht}{elts:List Expr}{kk:Nat}{pos:Pos}(t e j:Addr) (kM:e≠j) (sh:t≠e) (sf:t≠j):
  Turn P w K (.Tuple elts kk pos) (qG K t) [e,j] e (fun i h=> (∃old,IsEnum h e j i old)/\h.IsTupleIter j t i) where
 mem:=by simp
 obj:=fun i h st b hb=>by
  obtain⟨⟨old,he⟩,o,ho,hc,hd⟩:=st
  rcases Zao.mp hb with rfl |hb
  ·exact⟨_,he,fun v z=>by cases z⟩
  ·rw[ZaI.mp hb]
   exact⟨o,ho,fun v z=>by rw[hd]at z;cases z⟩
 keep:=fun i h h' st k=> ⟨let ⟨old,he⟩:=st.1;⟨old,k e (by simp) _ he⟩,st.2.at fun o q=>k j (by simp) o q⟩
 item:=by
  intro X hP hw hK hc i pins s σ H E I hf st hg
  subst hP hw hK
  obtain⟨xs,x,hq,hx⟩:=hg
  obtain⟨its,rv,p,hz⟩:=I.tuple hq
  obtain⟨u,hu,ru⟩:=rv.get hx
  have hl:=rv.length
  have om:i<its.toArray.size:=by
   have:=(Zab.mp hu).1
   simpa using this
  have W:=Zfq (prog:=X.prog) (w:=X.w) (A:=X.A) (F4 (A:=X.A.in1) (show X.A.in1.handled=none from I.ok.hd hc) j t sf its.toArray) e kM (by simp[kM,sh.symm]) (by simp)
  have hT:s.heap.IsTuple t its.toArray:=p
  refine W.item i s _ _ om ⟨st.1,st.2,hT⟩ fun T vals h' tk hP fP ow jf hk=> ⟨_,rfl,W.go elts kk pos i T _ _ _ jf fun dj dQ fF=> ?_⟩
  obtain⟨mV,x2,kI,rfl⟩:=hP
  have l9:its[i]? =some x2:=by simpa using kI
  rw[hu]at l9
  cases l9
  have jn:H T=none:=I.ai.fresh fP
  have both:∀b o,b∉[e,j]->s.heap.get? b=some o->dj.get? b=some o:=fun b o hb q=>fF b o hb (hk b o hb q)
  have kO:T∉[e,j]:=W.apart _ _ _ jf
  have oz:dj.IsTuple T #[.int i mV,u]:=ow.at fun o q=>fF T o kO q
  have neT:∀b o,s.heap.get? b=some o->b≠T:=fun b o q=>ZaO (ZaE (Zar q) fP)
  have dw:∀b o,H b=some o->b≠T:=fun b o q=>Zi q jn
  have cF:∀b o,H b=some o->b∉[e,j]:=fun b o q z=>by
   have:=(hf b z).1
   rw[this]at q;cases q
  refine⟨.ref T,upd H T (.par [.int (i:Int),x]),?_,rfl,⟨T,x,rfl,jn,rfl,fun ys hy=>by rw[I.uv hy hq];exact hx⟩,⟨dQ.1,dQ.2.1⟩,fun b hb=> ?_⟩
  ·refine(show Inv X pins σ (upd H T (.par [.int (i:Int),x])) {s with heap:=dj,toks:=tk} from ?_)
   refine I.call (g':=s.gens) (d':=s.drawn) (t':=tk) (h':=dj) (ch:=[e,j]) ⟨fun b o q _ _ hx=>both b o hx q,fun b o q _ _ hx=> ⟨o.slots,both b o hx q⟩,fun b o q n hx=>by rw[Zg (neT b o q)];exact n,fun b o q hx=> ⟨o,both b o hx q⟩,
    fun b ys q=>by rw[Zg (dw b _ q)];exact q,fun b o u q=>by rw[Zg (dw b _ q)];exact q,fun b ps q=> ⟨#[],by rw[Zg (dw b _ q),q];simp⟩⟩ (fun b v q=> ?_) I.bare fun b hb=> ?_
   ·by_cases hb:b=T
    ·subst hb
     rw[Ze]at q
     cases q
     exact⟨aZ,[.int i mV,u],.cons ⟨mV,rfl⟩ (.cons ru .nil),oz⟩
    ·rw[Zg hb]at q
     refine(I.ai b v q).cb (fun c z bH q'=>both c z ?_ q') (fun c q'=>by rw[Zg (dw c _ q')];exact q') fun c ys q'=>by rw[Zg (dw c _ q')];exact q'
     rcases bH with z' |z'
     ·rw[z'];exact cF b v q
     ·exact cF c _ z'
   ·obtain⟨f0,f1,f2,f3,f4,f5⟩:=hf b hb
    exact⟨f3,f1,f4,f5⟩
  ·rw[Zg (fun z=>kO (by rw[<-z];exact hb))]
   exact(hf b hb).1
 done:=by
  intro X hP hw hK hc i pins s σ H E I hf st hg
  subst hP hw hK
  obtain⟨xs,hq,hx⟩:=hg
  obtain⟨its,rv,p,hz⟩:=I.tuple hq
  have hl:=rv.length
  have W:=Zfq (prog:=X.prog) (w:=X.w) (A:=X.A) (F4 (A:=X.A.in1) (show X.A.in1.handled=none from I.ok.hd hc) j t sf its.toArray) e kM (by simp[kM,sh.symm]) (by simp)
  have hn:i=its.toArray.size:=by rw[Zan];omega
  have hT:s.heap.IsTuple t its.toArray:=p
  rw[hn]at st
  refine W.done s _ _ ⟨st.1,st.2,hT⟩ fun h' tk hk=> ⟨rfl,?_⟩
  have cF:∀b o,H b=some o->b∉[e,j]:=fun b o q z=>by
   have:=(hf b z).1
   rw[this]at q;cases q
  refine I.call (g':=s.gens) (d':=s.drawn) (t':=tk) (h':=h') (ch:=[e,j]) ⟨fun b o q _ _ hx=>hk b o hx q,fun b o q _ _ hx=> ⟨o.slots,hk b o hx q⟩,fun b o q n hx=>n,fun b o q hx=> ⟨o,hk b o hx q⟩,fun b ys q=>q,fun b o u q=>q,fun b ps q=> ⟨#[],by rw[q];simp⟩⟩ (fun b v q=> ?_) I.bare fun b hb=> ?_
  ·refine(I.ai b v q).cb (fun c z bH q'=>hk c z ?_ q') (fun _ q'=>q') fun _ _ q'=>q'
   rcases bH with z' |z'
   ·rw[z'];exact cF b v q
   ·exact cF c _ z'
  ·obtain⟨f0,f1,f2,f3,f4,f5⟩:=hf b hb
   exact⟨f3,f1,f4,f5⟩
 self:=fun A i s Q E st h=>let ⟨old,he⟩:=st.1;Zfr he h
section
variable {X:Cx}{elts:List Expr}{kk:Nat}{tp:Pos}
def OC (K:Zht) (ta:TA):TI:=fun σ H R=>ta σ H fun vs H1=> ∃t,vs=[.ref t]/\(∃xs,ah K H1 t xs)/\R (qG K t) H1
def HU {a:Expr}{ta:TA}{p pos:Pos}(hg:Gl X "enumerate") (hm:X.mg "enumerate" =none) (ha:PA X [a] ta) (hs:starEach [a] X.env=[(false,eval a X.env)]:=by rfl):PI X (.Tuple elts kk tp) (.Call (.Name "enumerate" p) [a] [] pos) (OC X.K ta):=by
 intro pins s σ H R I h
 refine Call_ (YD I hg hm boot_enumerate (Zb2 (aq (ha pos pins s σ H _ I h) fun us s1 ⟨vs,H1,I1,r1,q1⟩=> ?_) hs rfl))
 obtain⟨t,e,⟨xs,hq⟩,q⟩:=q1
 subst e
 obtain⟨u,rfl,ru⟩:=ZfU r1
 cases ru
 obtain⟨its,rv,pl,hz⟩:=I1.tuple hq
 have hT:s1.heap.IsTuple t its.toArray:=pl
 have ht:t<s1.heap.objs.size:=by obtain⟨o,ho,_⟩:=hT;exact Zar ho
 refine Zbl hT fun h' he hj hk=>Zfr he ?_
 have I2:Inv X pins σ H1 {s1 with heap:=h'} :=I1.kept (t':=s1.toks) hk
 refine⟨s1.heap.objs.size+1,[s1.heap.objs.size+1,s1.heap.objs.size],_,_,H1,rfl,I2,Zcl t _ _ (Nat.succ_ne_self _) (ZaO (ZdU ht)) (ZaO ht),⟨⟨_,he⟩,hj⟩,fun b hb=> ?_,q⟩
 have jm:s1.heap.objs.size<=b:=by
  rcases Zao.mp hb with z |z
  ·rw[z];exact Ze3 _
  ·rw[ZaI.mp z];exact Zae _
 exact I1.mE jm (I1.ai.fresh jm)
end
def ZcD {K:Zht}{a:Addr}{xs:List V}{g:TG}{tt:TT}{ti:TC}{ys:List V}{σ:St}{H:Hp}{Q:List V->St->Hp->Prop}(Pv:Nat->List V->St->Hp->Prop) (h0:Pv 0 ys σ H)
  (hl:∀i ys σ H,i<=xs.length->Pv i ys σ H->ah K H a xs)
  (hs:∀i x T ys σ H,xs[i]? =some x->H T=none->Pv i ys σ H->g (.ref T) σ (upd H T (.par [.int (i:Int),x])) fun aV H2=>tt aV H2 fun b H3=>if b=true then ti ys aV H3 (Pv (i+1)) else Pv (i+1) ys aV H3)
  (hd:∀ys σ H,Pv xs.length ys σ H->Q ys σ H):iq g tt ti (qG K a) ys σ H Q:=by
 refine⟨fun i m ys σ H=>m=xs.length - i/\i<=xs.length/\Pv i ys σ H,⟨xs.length,by simp,Za2 _,h0⟩,?_⟩
 rintro i m ys σ H ⟨rfl,hi,p⟩
 have q:=hl i ys σ H hi p
 by_cases az:i<xs.length
 ·refine .inr ⟨⟨xs,xs[i],q,by simp[az]⟩,Pv (i+1),fun cW aj H' p'=> ⟨xs.length - (i+1),.o,rfl,az,p'⟩,fun x H' y=> ?_⟩
  obtain⟨T,z,e1,e2,e3,e4⟩:=y
  subst e1 e3
  exact hs i z T ys σ H (e4 xs q) e2 p
 ·have e:i=xs.length:=.o
  subst e
  exact .inl ⟨⟨xs,q,rfl⟩,hd ys σ H p⟩
structure Fl (P:Program) (w:World) (outer:List Env) (H:Hp) (s:Shared) (e C:Addr) (H':Hp) (s':Shared):Prop where
 os:s'.os=s.os
 bare:AllBare s'.gens
 un:Un (aR outer) [] H H' s.heap s'.heap
 ai:bM P w H' s'.heap
 wU:∃B a0,Heap.FlyingW B outer e (.ref C) a0 s'.heap/\(∀b o,s.heap.get? b=some o->b∉aR outer->∃u,B.get? b=some u)/\∀b o,H' b=some o->∃u,B.get? b=some u
def aC (P:Program) (w:World):j8:=fun outer H s E ev s'=> ∃e C H',ev=.ref e/\Fl P w outer H s e C H' s'/\E (.ref e) (some C) H'
section
variable {P:Program}{w:World}{base:Heap}{env:Env}{outer:List Env}{s0 s1 s2:Shared}{H0 H1 H2:Hp}{e C L:Addr}{A:Around}
def YT {B h1 h2:Heap}(x:bM P w H h1) (bK:∀b o,H b=some o->∃u,B.get? b=some u) (k1:B.StaysIn h1) (k2:B.StaysIn h2):bM P w H h2:=fun a o ha=>
  (x a o ha).cb (fun b u hb hq=>by
    have:∃u',B.get? b=some u':=by
      rcases hb with rfl |hb
      · exact bK _ _ ha
      · exact bK _ _ hb
    obtain⟨u',hu⟩:=this
    have e1:=k1 b u' hu
    rw[hq]at e1
    cases e1
    exact k2 b _ hu) (fun _ q=>q) fun _ _ q=>q
def Wp {B h':Heap}(u0:Un (aR outer) [] H0 H1 s0.heap s1.heap) (u1:Un (aR (env::outer)) [] H1 H2 s1.heap s2.heap) (hf:env.frame=some L) (ab:s0.heap.objs.size<=L) (fu:s0.heap.FunFrames base outer) (fz:∀b∈aR outer,H0 b=none)
  (bK:∀b o,s1.heap.get? b=some o->b∉aR (env::outer)->∃u,B.get? b=some u) (k1:B.StaysIn s2.heap) (k2:B.StaysIn h') (up:s2.heap.UpToSlots h'):Un (aR outer) [] H0 H2 s0.heap h':=by
 have cP:∀b,b∈aR (env::outer)↔b=L∨b∈aR outer:=fun b=>by
  show b∈(env::outer).filterMap (·.frame)↔_
  rw[Zdm (f:=fun(x:Env)=>x.frame) (a:=env) (b:=L) hf,Zao]
  exact Iff.rfl
 have out:∀b o,s0.heap.get? b=some o->b∉aR outer->b∉aR (env::outer):=fun b o hb hn hm=>by
  rcases (cP b).mp hm with q |q
  ·rw[q]at hb
   exact absurd (ZaE (Zar hb) ab) (ZbI _)
  ·exact hn q
 have zU:∀b o u,s2.heap.get? b=some o->B.get? b=some u->h'.get? b=some o:=fun b o u hb hu=>by
  have e1:=k1 b u hu
  rw[hb]at e1
  cases e1
  exact k2 b _ hu
 have pG:∀b o,s0.heap.get? b=some o->b∈aR outer->∃sl,h'.get? b=some {o with slots:=sl} :=fun b o hb hm=>by
  obtain⟨_,o',dc,nf⟩:=fu.mem hm
  rw[hb]at dc
  cases dc
  obtain⟨yP,e1⟩:=u0.slot b o hb (fz b hm) hm (by simp)
  have n1:=u0.free b o hb (fz b hm) (by simp)
  obtain⟨iw,e2⟩:=u1.slot b _ e1 n1 ((cP b).mpr (.inr hm)) (by simp)
  obtain⟨LL,e3⟩:=up b _ e2 nf
  exact⟨LL,e3⟩
 refine⟨fun b o hb hn Ew _=> ?_,fun b o hb hn hm _=>pG b o hb hm,fun b o hb hn hx=> ?_,fun b o hb _=> ?_,fun b xs hb=>u1.eK b xs (u0.eK b xs hb),fun b o u hb=>u1.eJ b o u (u0.eJ b o u hb),fun b ps hb=> ?_⟩
 ·have e1:=u0.keep b o hb hn Ew (by simp)
  have n1:=u0.free b o hb hn (by simp)
  have cT:=out b o hb Ew
  have e2:=u1.keep b o e1 n1 cT (by simp)
  obtain⟨u,hu⟩:=bK b o e1 cT
  exact zU b o u e2 hu
 ·obtain⟨o1,e1⟩:=u0.there b o hb (by simp)
  have n1:=u0.free b o hb hn (by simp)
  exact u1.free b o1 e1 n1 (by simp)
 ·by_cases hm:b∈aR outer
  ·obtain⟨sl,q⟩:=pG b o hb hm
   exact⟨_,q⟩
  ·obtain⟨o1,e1⟩:=u0.there b o hb (by simp)
   obtain⟨u,hu⟩:=bK b o1 e1 (out b o hb hm)
   exact⟨u,k2 b u hu⟩
 ·obtain⟨m1,q1⟩:=u0.dY b ps hb
  obtain⟨m2,q2⟩:=u1.dY b _ q1
  exact⟨m1++m2,by rw[q2,ZfW]⟩
end
def MR {P:Program}{w:World}{K:Zht}{mg:Str->Option Value}{base:Heap}{N:List Str}{qual:Str}{scope:Scope}{f:Addr}{cd:Value}{A:Around}{outer:List Env}{s:Shared}{H:Hp}{E:XK} :
  Passes (aC P w) (aF (aC P w) P w K mg base N qual scope f cd A outer s H E) E:=by
 intro pins σ H1 s1 ev s2 I h
 obtain⟨e,C,H',rfl,F,hE⟩:=h
 obtain⟨B,a0,fl,bK,fH⟩:=F.wU
 refine wpAny_leaves_onW (L:=s.heap.objs.size) I.ok.frames rfl fl fun h' oF up=> ?_
 refine⟨e,C,H',rfl,⟨F.os.trans I.os,F.bare,Wp (base:=base) (L:=s.heap.objs.size) I.base F.un rfl (Zae _) I.ok.eI I.ok.gL bK fl.1 oF.1 up,YT F.ai fH fl.1 oF.1,B,a0,oF,fun b o hb hn=> ?_,fH⟩,hE⟩
 obtain⟨o1,e1⟩:=I.base.there b o hb (by simp[aF])
 refine bK b o1 e1 fun hm=> ?_
 have cH:b∈(envOfC qual scope s.heap.objs.size f cd::outer).filterMap (·.frame):=hm
 rw[Zdm (f:=fun(x:Env)=>x.frame) (a:=envOfC qual scope s.heap.objs.size f cd) (b:=s.heap.objs.size) rfl]at cH
 rcases Zao.mp cH with q |q
 ·rw[q]at hb
  exact absurd (Zar hb) (ZbI _)
 ·exact hn q
def Xu {K:Zht}{h:Heap}(X:K.In h) (q:PySem.W.excIn K C tN newId=true):
  ∃bm N nm qn bs hdct sn sub ab col dd k0 k1 k2 k3 k5 mN,h.get? C=some (excClassObj nm qn C N bs bm hdct sn sub ab col dd k0 k1 k2 k3 k5 newId)/\h.Ns N mN/\mN "__init__" =none/\OwnTail h tN bm:=by
 unfold PySem.W.excIn at q
 split at q
 ·rename_i dd cd sl lk
  split at q
  ·rename_i c2 bm j0 j1 j2 j3 nn j5 em es
   rw[ZaR,ZaR,ZaR,ZaR,ZaR]at q
   obtain⟨⟨⟨⟨⟨q1,q2⟩,q3⟩,q4⟩,q5⟩,q6⟩:=q
   have z1:=Zaj.mp q1
   have z2:=Zaj.mp q2
   have z6:=Zaj.mp q6
   subst z1 z2
   have ob:=X _ _ lk
   have z3:cd.hasDel=false:=by revert q3;cases cd.hasDel<;>simp
   have zs:sl= #[j0,j1,j2,j3,some (.builtin nn),j5]:=by
    apply Array.toList_inj.mp
    rw[es]
   refine⟨bm,cd.ns,cd.name,cd.qualname,cd.bases,cd.hasDict,cd.slotNames,cd.subclasses,cd.abstract,cd.collection,dd,j0,j1,j2,j3,j5,h.nsMap cd.ns,?_,.of_isNs (PySem.W.isNs_of_in X q5),PySem.W.nsMap_none_of_in X q5 z6,PySem.W.tail_of_in X q4⟩
   rw[ob,zs]
   obtain⟨a1,a2,a3,a4,a5,a6,a7,a8,a9,a10,a11⟩:=cd
   cases em
   cases z3
   rfl
  ·cases q
 ·cases q
def KZ (C:Addr) (E:XK) (ta:TA):TS:=fun _ σ H=>ta σ H fun vs H1=>vs.length<=sizeLine/\∀e,E (.ref e) (some C) H1
def ZaC {P:Program}{w:World}{K:Zht}{mg:Str->Option Value}{base:Heap}{N:List Str}{qual:Str}{scope:Scope}{f:Addr}{cd:Value}{A:Around}{outer:List Env}{s s1:Shared}{H H1:Hp}{E:XK}
  {pins:List (Addr×Obj)}{σ:St}{h':Heap}{e C:Addr}{vs:List Value} (I:Inv (aF (aC P w) P w K mg base N qual scope f cd A outer s H E) pins σ H1 s1) (mk:Heap.MadeExcOf s1.heap h' e (.ref C) vs) (hE:E (.ref e) (some C) H1):
  (aF (aC P w) P w K mg base N qual scope f cd A outer s H E).xe (.ref e) {s1 with heap:=h'} :=by
 have sR:∀env∈(envOfC qual scope s.heap.objs.size f cd::outer),∀b,env.frame=some b->b∈aR (envOfC qual scope s.heap.objs.size f cd::outer):=fun env he b hb=>Zc4.mpr ⟨env,he,hb⟩
 have st:=I.stack
 refine wpAny_leaves_madeW (L:=s.heap.objs.size) (base:=PySem.W.hideAll s1.heap (aR (envOfC qual scope s.heap.objs.size f cd::outer))) (h:=s1.heap) I.ok.frames rfl (fun b o q=>Zeb _ q) (PySem.W.funFrames_hide st sR) mk fun h2 t fl tp _ up=> ?_
 have bK:∀b o,s1.heap.get? b=some o->b∉aR (envOfC qual scope s.heap.objs.size f cd::outer)->∃u,(PySem.W.hideAll s1.heap (aR (envOfC qual scope s.heap.objs.size f cd::outer))).get? b=some u:=fun b o hb hn=> ⟨o,Ze2 _ hb hn⟩
 have fH:∀b o,H1 b=some o->∃u,(PySem.W.hideAll s1.heap (aR (envOfC qual scope s.heap.objs.size f cd::outer))).get? b=some u:=fun b o hb=>by
  have hl:=I.ai.lt hb
  have hx:∃u,s1.heap.get? b=some u:=by
   have ok:=I.ai b o hb
   cases o with
   |lst xs=>obtain⟨_,_,_,_,q⟩:=ok;exact⟨_,q⟩
   |tup xs=>obtain⟨_,_,_,⟨ob,q,_⟩,_⟩:=ok;exact⟨_,q⟩
   |par xs=>obtain⟨_,_,_,ob,q,_⟩:=ok;exact⟨_,q⟩
   |dK kvs=>obtain⟨_,_,_,_,ob,_,_,q,_⟩:=ok;exact⟨_,q⟩
   |dT kvs=>obtain⟨_,_,_,_,ob,_,_,q,_⟩:=ok;exact⟨_,q⟩
   |set S n=>obtain⟨ob,_,_,_,q,_⟩:=ok;exact⟨_,q⟩
   |ins C dx fs=>obtain⟨_,_,_,q,_⟩:=ok;exact⟨_,q⟩
   |own y=>exact ok
   |xd fs=>obtain⟨_,⟨_,_,_,q,_⟩,_⟩:=ok;exact⟨_,q⟩
   |fN lo hi=>obtain⟨_,_,_,q⟩:=ok;exact⟨_,q⟩
   |cJ ob u=>exact⟨_,ok.1⟩
   |bY ps=>exact⟨_,(show s1.heap.get? b=some _ from ok)⟩
   |met f y=>exact⟨_,(show s1.heap.get? b=some _ from ok)⟩
   |ext φ=>exact ok.2.1
  obtain⟨u,hu⟩:=hx
  exact bK b u hu fun hm=>by
   have:=I.q0 b hm
   rw[this]at hb
   cases hb
 have k1:Heap.StaysIn (PySem.W.hideAll s1.heap (aR (envOfC qual scope s.heap.objs.size f cd::outer))) h':=fun b o q=>mk.keeps b o (Zeb _ q)
 refine⟨e,C,H1,rfl,⟨I.os,I.bare,Wp (s1:=s1) (s2:= {s1 with heap:=h'}) (base:=base) (L:=s.heap.objs.size) I.base (Un.kept mk.keeps) rfl (Zae _) I.ok.eI I.ok.gL bK k1 fl.1 up,YT (I.ai.kept mk.keeps) fH k1 fl.1,_,_,fl,fun b o hb hn=> ?_,fH⟩,hE⟩
 obtain⟨o1,e1⟩:=I.base.there b o hb (by simp[aF])
 refine bK b o1 e1 fun hm=> ?_
 have cH:b∈(envOfC qual scope s.heap.objs.size f cd::outer).filterMap (·.frame):=hm
 rw[Zdm (f:=fun(x:Env)=>x.frame) (a:=envOfC qual scope s.heap.objs.size f cd) (b:=s.heap.objs.size) rfl]at cH
 rcases Zao.mp cH with q |q
 ·rw[q]at hb
  exact absurd (Zar hb) (ZbI _)
 ·exact hn q
def YQ {P:Program}{w:World}{K:Zht}{mg:Str->Option Value}{base:Heap}{N:List Str}{qual:Str}{scope:Scope}{f:Addr}{cd:Value}{A:Around}{outer:List Env}{s:Shared}{H:Hp}{E:XK}{x:Str}{C:Addr}{B newId Ow:String}{tN:List Value}
  {oG:Expr}{rest:List Expr}{np cz pos:Pos}{ta:TA} (FB:ExcBaseFacts B newId Ow tN) (hmg:mg x=some (.ref C)) (hex:PySem.W.excIn K C tN newId=true) (hg:Gl (aF (aC P w) P w K mg base N qual scope f cd A outer s H E) x)
  (ha:PA (aF (aC P w) P w K mg base N qual scope f cd A outer s H E) (oG::rest) ta)
  (he:starEach (oG::rest) (envOfC qual scope s.heap.objs.size f cd)=(false,eval oG (envOfC qual scope s.heap.objs.size f cd))::starEach rest (envOfC qual scope s.heap.objs.size f cd):=by rfl)
  (eX:(backTo cz (starEach rest (envOfC qual scope s.heap.objs.size f cd))).any (·.1)=false:=by rfl) (hd:(x==("__debug__" :Str))=false:=by decide):
  PS (aF (aC P w) P w K mg base N qual scope f cd A outer s H E) (.Raise (some (.Call (.Name x np) (oG::rest) [] cz)) none pos) (KZ C E ta):=by
 intro pins s1 σ H1 D I h
 obtain⟨bm,Nn,nm,qn,bs,hdct,sn,sub,ab,col,dd,k0,k1,k2,k3,k5,mN,hC,hN,Pq,T⟩:=Xu I.mod.nJ hex
 refine wpAny_Raise_call_subT (C:=C) (nm:=nm) (q:=qn) (N:=Nn) (bs:=bs) (bm:=bm) (hdct:=hdct) (sn:=sn) (sub:=sub) (ab:=ab) (col:=col) (dd:=dd) (k0:=k0) (k1:=k1) (k2:=k2) (k3:=k3) (k5:=k5)
  FB (mN:=mN) (T.hasType FB.hasBase) (I.ok.hd rfl) ?_ Pq (Je I hg hmg ⟨rfl,?_⟩ hd)
 ·show(backTo cz (starEach (oG::rest) (envOfC qual scope s.heap.objs.size f cd))).any (·.1)=false
  rw[he]
  show(false||(backTo cz (starEach rest (envOfC qual scope s.heap.objs.size f cd))).any (·.1))=false
  rw[eX]
  rfl
 ·have q:=ha cz pins s1 σ H1 _ I h
  show wpAny _ _ (evalArgs (.ref C) true (backTo cz (starEach (oG::rest) (envOfC qual scope s.heap.objs.size f cd))) []) _ _ _
  have q':wpAny (model P w) (A.deeper (envOfC qual scope s.heap.objs.size f cd)) (spliced (backTo cz (starEach (oG::rest) (envOfC qual scope s.heap.objs.size f cd)))) _ _ s1:=q
  rw[he]at q' |-
  refine ZfH (Zbu q' (fun us s2 h2=> ?_) fun _ _ y=>y)
  obtain⟨vs,H2,I2,r,hz,hE⟩:=h2
  refine⟨rfl,by rw[<-r.length];exact hz,I2.bk _ _ hC,hN.keeps I2.bk,T.keeps I2.bk,fun h' e mk=> ?_⟩
  exact ZaC I2 mk (hE e)
section
variable {X:Cx}
def Le (ta tb:TE):TE:=fun σ H Q=>ta σ H fun v H1=> ∃x,v=.str x/\(Str.empty++x).length<=sizeLine/\tb σ H1 fun u H2=> ∃n:Int,u=.int n/\n.natAbs.log2<1920/\(Str.empty++x++(Str.ofString (toString n))).length<=sizeLine/\∀z,Q (.str z) H2
def Xh (ha:PE X a ta) (hb:PE X b tb):PE X (.JoinedStr [a,.FormattedValue b (-1) none p] pos) (Le ta tb):=by
 intro pins s σ H Q I h
 refine JoinedStr_many (ZeE (Zbu (ha pins s σ H _ I h) (fun u s1 h1=> ?_) fun _ _ y=>y))
 obtain⟨v,H1,I1,r1,x,rfl,hz,h2⟩:=h1
 obtain⟨t,rfl⟩:=r1
 refine⟨hz,ZeE (ZfJ (Zbu (hb pins s1 σ H1 _ I1 h2) (fun u s2 h3=> ?_) fun _ _ y=>y))⟩
 obtain⟨v,H2,I2,r2,n,rfl,hn,aI,q⟩:=h3
 obtain⟨t2,rfl⟩:=r2
 refine Zfy hn ⟨aI,?_⟩
 refine joinParts_nil ?_ aI
 exact⟨.str _,H2,(I2.tok _).tok _,⟨_,rfl⟩,q _⟩
end
section
variable {P:Program}{w:World}{K:Zht}{mg:Str->Option Value}{base:Heap}
def aG.fO {x qual:Str}{st:Stmt}{f:Addr}{fd:FuncData}{N ps:List Str}{k:Nat}{sp:Sp}(F:aG K x qual st f fd) (S:bh N ps (ay st)) (len:∀vs H Q E,sp vs H Q E->vs.length=ps.length)
    (hb:∀(ao:Value) (A:Around) (outer:List Env) (s:Shared) (H:Hp) (vs:List V) (Q:VK) (E:XK),bW k (A.deeper (envOfC qual (ay st) s.heap.objs.size f ao))->sp vs H Q E->
      ∃t,fJ (aF (aC P w) P w K mg base N qual (ay st) f ao A outer s H E) (dB st) t/\t {nx:=fun _ H'=>Q .af H',rt:=Q} (start N vs) H):aA P w K mg base (aC P w) (k+1) f fd ps sp:=by
  obtain⟨oc,od,kV,doc,pm,an,ao,ct,fm,rfl,lk,dh⟩:=F.ex
  exact xp lk dh S len fun A outer s H vs Q E hr eG=>hb ao A outer s H vs Q E hr eG
def aY (P:Program) (w:World) (K:Zht) (mg:Str->Option Value) (base:Heap) (k:Nat) (x:Str) (ps:List Str) (sp:Sp):Prop:=
 ∃f fd,aA P w K mg base (aC P w) k f fd ps sp/\mg x=some (.ref f)/\PySem.W.keepIn K (.ref f)=true/\Binds K fd ps []
def ZW {A:Around}{s:Shared}{p pos:Pos}
  (d:aY P w K mg base k x ps sp) (hr:bW k (A.deeper (envOfC qual scope s.heap.objs.size f cd))) (ha:PA (aF (aC P w) P w K mg base N qual scope f cd A outer s H E) (e::es) t) (hg:Gl (aF (aC P w) P w K mg base N qual scope f cd A outer s H E) x:=by rfl)
  (g9:(x==("__debug__" :Str))=false:=by decide)
  (he:starEach (e::es) (envOfC qual scope s.heap.objs.size f cd)=(false,eval e (envOfC qual scope s.heap.objs.size f cd))::starEach es (envOfC qual scope s.heap.objs.size f cd):=by rfl)
  (eX:(backTo pos (starEach es (envOfC qual scope s.heap.objs.size f cd))).any (·.1)=false:=by rfl):
  PE (aF (aC P w) P w K mg base N qual scope f cd A outer s H E) (.Call (.Name x p) (e::es) [] pos) (uB sp [] E t):=by
 obtain⟨g,fd,F,hm,hk,hb⟩:=d
 exact Yt F hr hg hm hk hb .nil MR ha g9 he eX
end
end L2
namespace L2
open PySem PySem.Spec PyProof.Rows PySem.Builtin PySem.Builtin.ObjectAttr PySem.Builtin.Getset_descriptor
def jR (e C:Addr):HO:=.ext fun h=> ∃o,h.get? e=some o/\o.cls=.ref C
structure mQ (K:Zht) (C:Addr):Prop where
 ga:PySem.W.findIn K (.ref C) "__getattribute__" =some (some (.builtin "BaseException.__getattribute__"))
 hook:PySem.W.findIn K (.ref C) "__getattr__" =some none
 cl:PySem.W.findIn K (.ref C) "__class__" =some (some (.builtin "object.__class__"))
 ob:PySem.W.mroIn K C (.type "object")=some true
 bx:PySem.W.mroIn K C (.type "BaseException")=some true
 cls:(PySem.W.clsIn K C).isSome=true
section
variable {prog:Program}{w:World}{A:Around}{E:Value->Shared->Prop}{s:Shared}{K:Zht}{e C:Addr}{o:Obj}{R:Result->Shared->Prop}
def J8 {h:Heap}(hx:h.get? e=some o) (hc:o.cls=.ref C):PySem.W.Looks M h (typeOf (.ref e)) (.ref C):=hc▸(PySem.W.Looks.ld hx).andThen .now
def VY (X:K.In s.heap) (hx:s.heap.get? e=some o) (hc:o.cls=.ref C) (Z:mQ K C) (h:R (.ok (.ret (.ref C))) s):
  codeAny (model prog w) A (.call (.builtin "getset_descriptor.__get__") ⟨[.builtin "object.__class__",.ref e,tp],[]⟩) R s:=by
 obtain⟨h0,g0,d0,t0,o0⟩:=s
 have LT:=J8 (M:=model prog w) hx hc
 have LM:=ZgZ (M:=model prog w) X Z.ob
 refine ZfK Zg7.plain PySem.W.KF.entry_gs (Zg7.check _ _ _ _ _ _ _ _ PySem.W.KF.type_class (PySem.W.KF.args_gs _ _ _) ?_)
 unfold Builtin.«getset_descriptor.__get__» descrGet
 rw[PySem.W.dga_obj]
 refine AN (Zak ?_)
 unfold descrGetter descrCheckInstance descrNameAndClass isInstance
 simp only[PySem.W.KF.owner_class]
 repeat lk
 refine⟨Code.quiet_builtin _ (by decide+kernel),Zda PySem.W.KF.entry_class ?_⟩
 unfold Builtin.«object.__class__» shownTypeOf
 repeat lk
 exact h
def ZcV (X:K.In s.heap) (hx:s.heap.get? e=some o) (hc:o.cls=.ref C) (Z:mQ K C) (hq:Q (.done (.ret (.ref C))) s):
  wpAny (model prog w) A (Builtin.«object.__getattribute__» ⟨[.ref e,.str "__class__" tk],[]⟩) Q E s:=by
 obtain⟨h0,g0,d0,t0,o0⟩:=s
 have LT:=J8 (M:=model prog w) hx hc
 have LC:=ZfL (M:=model prog w) X Z.cl
 have hT5:(⟨h0,g0,d0,t0,o0⟩:Shared).TypeIs (.builtin "object.__class__") "getset_descriptor" :=F.typeOf_object_class
 have f5:=F.typeOf_object_class
 have f6:=F.slot_gs_get.lookup
 have f7:=F.slot_gs_set.lookup
 repeat (any_goals (first |assumption |with_reducible refine LT.at ?_ |with_reducible refine LC.at ?_ |wp_step))
 refine VY (s:=⟨h0,g0,d0,t0,o0⟩) X hx hc Z ?_
 exact Zak hq
def VX (X:K.In s.heap) (hx:s.heap.get? e=some o) (hc:o.cls=.ref C) (Z:mQ K C) (hq:R (.ok (.ret (.ref C))) s):
  codeAny (model prog w) A (.call (.builtin "BaseException.__getattribute__") ⟨[.ref e,.str "__class__" tk],[]⟩) R s:=by
 refine ZfK F.attr_ValueError.ga.plain F.entry_bexc_ga ?_
 obtain⟨h0,g0,d0,t0,o0⟩:=s
 have LT:=J8 (M:=model prog w) hx hc
 have LB:=ZgZ (M:=model prog w) X Z.bx
 have hk:builtinKind "BaseException.__getattribute__" =some .slot:=by decide+kernel
 have eG:splitId "BaseException.__getattribute__" =some ("BaseException", "__getattribute__"):=by decide+kernel
 have ha:=F.args_bexc_ga (.ref e) (.str "__class__" tk)
 simp only[checkBuiltinCall,hk,eG]
 have LI:PySem.W.Looks (model prog w) h0 (isInstance (.ref e) (.type "BaseException")) true:=LT.andThen LB
 refine AN (LI.at ?_)
 repeat (first |exact ZcV (s:=⟨h0,g0,d0,t0,o0⟩) X hx hc Z hq |assumption |wp_step)
def VW (X:K.In s.heap) (hx:s.heap.get? e=some o) (hc:o.cls=.ref C) (Z:mQ K C) (hq:Q (some (.ref C)) {s with toks:=s.toks+1}):
  wpAny (model prog w) A (getAttr? (.ref e) "__class__") Q E s:=by
 obtain⟨h0,g0,d0,t0,o0⟩:=s
 have LT:=J8 (M:=model prog w) hx hc
 have L1:=ZfL (M:=model prog w) X Z.ga
 have L2:=ZfL (M:=model prog w) X Z.hook
 have f3:=F.attr_ValueError.ga.bind (.ref e)
 have kI:(Value.builtin "BaseException.__getattribute__" ==Value.builtin "object.__getattribute__")=false:=by decide+kernel
 have z4:(onTheHeap (Value.ref C)&&Value.builtin "BaseException.__getattribute__" ==Value.builtin "object.__getattribute__")=false:=by rw[kI];rfl
 unfold getAttr? getAttrBy? getAttrBy
 refine AN (wpAny_mkText (AN (Zgj (ZbT (AN (LT.at (AN (L1.at ?_))))))))
 repeat (any_goals (first |assumption |with_reducible refine L2.at ?_ |wp_step))
 refine VX (s:=⟨h0,g0,d0,t0+1,o0⟩) X hx hc Z ?_
 repeat (any_goals (first |assumption |wp_step))
def XU (Z:mQ K C):PySem.W.KitX K (.ref e) (.ref C) (fun h=> ∃o,h.get? e=some o/\o.cls=.ref C) where
 ty:=fun M h _ ⟨o,hx,hc⟩=>J8 hx hc
 it:=fun M h X _=>by
  obtain⟨cd,dh⟩:=ZdG.mp Z.cls
  unfold PySem.W.clsIn at dh
  split at dh
  ·rename_i lk
   intro A2 Q2 E2 s2 k q
   unfold isType loadHead
   exact AN (wpAny_loadPart (k _ _ (X _ _ lk)) (Zak q))
  ·cases dh
 ne:=fun h tp dd its n sl X qh=>by
  obtain⟨cd,dh⟩:=ZdG.mp Z.cls
  refine Zfs.mpr fun q=> ?_
  have z:C=tp:=Value.ref.inj (Zaj.mp q)
  rw[<-z]at qh
  unfold PySem.W.clsIn at dh
  split at dh
  ·rename_i lk
   have y:=(X _ _ lk).symm.trans qh
   cases y
  ·cases dh
 ca:=fun X ⟨o,hx,hc⟩ k=>VW X hx hc Z k
end
section
variable {X:Cx}
def JS:dW X (.builtin "isinstance") (fun xs H Q=> ∃e C y c b,xs=[.ref e,y]/\H e=some (jR e C)/\mQ X.K C/\(∀u,RelV y u->u=c)/\PySem.W.kitOne X.K (.ref C) c=some b/\Q (.bl b) H):=by
 rintro pins s σ H vs us Q I r ⟨e,C,y,c,b,rfl,he,Z,hy,hk,q⟩
 cases r with
 |cons r1 r2=>
  cases r2 with
  |cons r3 r4=>
   cases r4
   rw[hy _ r3]
   rw[show _=Value.ref e from r1]
   obtain⟨p,_,_⟩:=(show bw X.prog X.w H s.heap e (jR e C) from I.ai e _ he)
   exact Zc8 (XU Z) I.cD p hk (fun z=>nomatch z) fun tk=> ⟨.bl b,H,I.tok _,rfl,q⟩
end
end L2
namespace L2
open PySem PySem.Spec PyProof.Rows
abbrev Cx.jL (X:Cx) (e:Value):Cx:= {X with A:=X.A.mark (some e),calm:=false,xe:=fun _ _=>False}
section
variable {X:Cx}{pins:List (Addr×Obj)}{σ:St}{H H':Hp}{s s':Shared}
def Inv.jL (I:Inv X pins σ H s) (e:Value):Inv (X.jL e) pins σ H s:=
 ⟨⟨I.ok.mod,I.ok.kind,I.ok.glob,I.ok.blt,I.ok.above,I.ok.inj,I.ok.has,I.ok.kX,fun h=>Bool.noConfusion h,I.ok.frames,I.ok.mZ,I.ok.kW,I.ok.bs,I.ok.jy,I.ok.lO,I.ok.kU,I.ok.eI,I.ok.gL⟩,I.os,I.bare,I.base,I.loc,I.cell,I.free,I.gk,I.pin,I.ai,I.len⟩
def Inv.Kx (I:Inv (X.jL e) pins σ H s) (hd:X.calm=true->X.A.handled=none):Inv X pins σ H s:=
 ⟨⟨I.ok.mod,I.ok.kind,I.ok.glob,I.ok.blt,I.ok.above,I.ok.inj,I.ok.has,I.ok.kX,hd,I.ok.frames,I.ok.mZ,I.ok.kW,I.ok.bs,I.ok.jy,I.ok.lO,I.ok.kU,I.ok.eI,I.ok.gL⟩,I.os,I.bare,I.base,I.loc,I.cell,I.free,I.gk,I.pin,I.ai,I.len⟩
def Inv.Gk {e C:Addr}{B h':Heap}{o:Obj}(I:Inv X pins σ H s) (un:Un (aR X.stack) [] H H' s.heap s'.heap) (os:s'.os=s.os) (bare:AllBare s'.gens) (ai:bM X.prog X.w H' s'.heap)
  (bK:∀b o,s.heap.get? b=some o->b∉aR X.stack->∃u,B.get? b=some u) (fH:∀b o,H' b=some o->∃u,B.get? b=some u) (be:B.get? e=none) (k1:B.StaysIn s'.heap) (k2:B.StaysIn h') (up:s'.heap.UpToSlots h')
  (he:h'.get? e=some o) (hc:o.cls=.ref C) (hd:∃vs,o.data=.fields vs):Inv X pins σ (upd H' e (jR e C)) {s' with heap:=h'}/\H' e=none:=by
 have n0:H' e=none:=by
  cases q:H' e with
  |none=>rfl
  |some u=>
   obtain⟨u',hu⟩:=fH e u q
   rw[be]at hu
   cases hu
 have pG:∀b o,s.heap.get? b=some o->b∈aR X.stack->∃sl,h'.get? b=some {o with slots:=sl} :=fun b o hb hm=>by
  obtain⟨_,o',dc,nf⟩:=I.stack.mem hm
  rw[hb]at dc
  cases dc
  obtain⟨yP,e1⟩:=un.slot b o hb (I.q0 b hm) hm (by simp)
  obtain⟨iw,e2⟩:=up b _ e1 nf
  exact⟨iw,e2⟩
 have Nq:∀b u,s.heap.get? b=some u->b≠e:=fun b u hb z=>by
  rw[z]at hb
  by_cases hm:e∈aR X.stack
  ·obtain⟨_,o',dc,nf⟩:=I.stack.mem hm
   rw[hb]at dc
   cases dc
   obtain⟨sl,q⟩:=pG e u hb hm
   rw[he]at q
   cases q
   obtain⟨vs,hv⟩:=hd
   exact nf vs hv
  ·obtain⟨u',hu⟩:=bK e u hb hm
   rw[be]at hu
   cases hu
 have zU:∀b o u,s'.heap.get? b=some o->B.get? b=some u->h'.get? b=some o:=fun b o u hb hu=>by
  have e1:=k1 b u hu
  rw[hb]at e1
  cases e1
  exact k2 b _ hu
 refine⟨I.Bn (s':= {s' with heap:=h'}) (ch:=[]) os ⟨fun b u hb hn hf _=> ?_,fun b u hb hn hm _=>pG b u hb hm,fun b u hb hn _=> ?_,fun b u hb _=> ?_,fun b xs hb=> ?_,fun b u v hb=> ?_,fun b ps hb=> ?_⟩ ?_ bare (fun b hb=>absurd hb (by simp)),n0⟩
 ·have e1:=un.keep b u hb hn hf (by simp)
  obtain⟨u',hu⟩:=bK b u hb hf
  exact zU b u u' e1 hu
 ·rw[Zg (Nq b u hb)]
  exact un.free b u hb hn (by simp)
 ·by_cases hm:b∈aR X.stack
  ·obtain⟨sl,q⟩:=pG b u hb hm
   exact⟨_,q⟩
  ·obtain⟨u',hu⟩:=bK b u hb hm
   exact⟨u',k2 b u' hu⟩
 ·have q:=un.eK b xs hb
  rw[Zg (Zi q n0)]
  exact q
 ·have q:=un.eJ b u v hb
  rw[Zg (Zi q n0)]
  exact q
 ·obtain⟨m,q⟩:=un.dY b ps hb
  exact⟨m,by rw[Zg (Zi q n0)];exact q⟩
 ·intro b u hb
  by_cases jO:b=e
  ·subst jO
   rw[Ze]at hb
   cases hb
   refine⟨⟨o,he,hc⟩,⟨o,he⟩,fun h1 h2 p k=> ?_⟩
   obtain⟨o1,q1,q2⟩:=p
   exact⟨o1,k _ q1,q2⟩
  ·rw[Zg jO]at hb
   have x:=YT ai fH k1 k2 b u hb
   refine x.cb (fun c w' jN q=>q) (fun c q=> ?_) fun c xs q=> ?_
   ·rw[Zg (Zi q n0)];exact q
   ·rw[Zg (Zi q n0)];exact q
end
def KW (X:Cx) (ic ie:Nat) (cS:Addr) (k:Nat) (ts:TS):TS:=fun D σ H=> ∃f fd sp,σ[ic]? =some (some (.ref f))/\(∀s,bM X.prog X.w H s->PySem.W.FnAt f s)/\aA X.prog X.w X.K X.mg X.base (aC X.prog X.w) k f fd [] sp/\(∀s,BindsTo s fd ⟨[],[]⟩ [])/\
 sp [] H (fun _ _=>False) fun ev c H'=> ∃e C,ev=.ref e/\c=some C/\PySem.W.exmOne X.K (.ref C) (.ref cS)=some true/\(H' e=none->ts {nx:=fun aj H2=>D.nx (aj.set ie none) H2,rt:=fun _ _=>False} (σ.set ie (some (.ref e))) (upd H' e (jR e C)))
def Za3 {X:Cx}{ic ie k:Nat}{c n S:Str}{cS:Addr}{b0:Stmt}{Cy:List Stmt}{ts:TS}{p1 p2 p3 p4 p5 p6:Pos}(EV:X.calm=true) (kL:X.stack=X.env::X.outer) (fZ:X.env.frame=some X.env.locals) (hN:X.N.Nodup) (P2:X.N[ic]? =some c) (OJ:tP X.env.scope c)
  (wA:X.N[ie]? =some n) (qp:X.env.scope.names.lookup n=some .local) (hS:X.mg S=some (.ref cS)) (P6:Gl X S) (hr:bW k X.A) (O3:∀e,fJ (X.jL (.ref e)) (b0::Cy) ts)
  (Qi:(c==("__debug__" :Str))=false:=by decide) (Qh:(c==("__classdict__" :Str))=false:=by decide) (Qj:(S==("__debug__" :Str))=false:=by decide)
  (Ae:swapsWith (.Call (.Name c p1) [] [] p2) none p3.line X.env=pure false:=by rfl):
  PS X (.Try [.Expr (.Call (.Name c p1) [] [] p2) p3] [.ExceptHandler (some (.Name S p4)) (some n) (b0::Cy) p5] [] [] p6) (KW X ic ie cS k ts):=by
 intro pins s σ H D I h
 obtain⟨f,fd,sp,kH,fG,F,hb,eG⟩:=h
 refine wpAny_Try_except ?_
 refine Zgp (wpAny_Expr_any ?_ I.quiet Ae)
 refine Zdh ?_
 have nm:=Yh (X:=X.ip (fun _ _=>False)) (i:=ic) (x:=c) (pos:=p1) P2 OJ Qi Qh pins s σ H (fun v H2=>v=.ref f/\H2=H) (I.ip _) ⟨_,kH,rfl,rfl⟩
 refine Zbu nm (fun u s1 h1=> ?_) (fun _ _ z=>z.elim)
 obtain⟨v,H1,I1,r1,rfl,rfl⟩:=h1
 have I1:=I1.kc
 obtain rfl:u=Value.ref f:=r1
 refine PySem.W.callWith_F0 (fG _ I1.ai) ?_
 refine ZgO (ZdQ (F.run X.A X.stack s1 H1 ⟨[],[]⟩ [] [] _ _ hr I1.FJ (hb s1) .nil eG) fun r s2 hq=> ?_)
 cases r with
 |ok fl=>
  cases fl with
  |ret u=>obtain⟨_,_,_,_,_,_,_,z⟩:=hq;exact z.elim
  |next=>exact hq.elim
  |brk=>exact hq.elim
  |cont=>exact hq.elim
 |error ev=>
  obtain⟨e,C,H2,rfl,FL,e',C',q1,q2,hx,hk⟩:=hq
  cases q1
  cases q2
  obtain⟨B,a0,fl,bK,fH⟩:=FL.wU
  rw[kL]at fl
  show wpAny (model X.prog X.w) X.A (noteFrame (.ref e) X.env) _ X.xe s2
  have A7:X.A.frames=some (X.env::X.outer):=by rw[<-kL];exact I.ok.frames
  refine wpAny_looks_onW (L:=X.env.locals) A7 fZ fl fun h4 held uu=> ?_
  refine wpAny_landsW held fun h5 A9 ur=> ?_
  have Th:∃o vs,h5.get? e=some o/\o.cls=.ref C/\o.data=.fields vs:=by
   obtain⟨oe,vs,g1,g2,g3,_⟩:=A9.first
   exact⟨oe,vs,g1,g2,g3⟩
  obtain⟨o5,qR,Fy,Fx,Ri⟩:=Th
  have c5:=I1.Gk (h':=h5) FL.un FL.os FL.bare FL.ai bK fH fl.2.1 fl.1 A9.1 (uu.trans ur) Fy Fx ⟨_,Ri⟩
  have I5:=c5.1.jL (.ref e)
  refine wpAny_handleBy_cons (codeAny_handlers_test ?_) (by intro q;cases q)
  refine Je (X:=X.jL (.ref e)) I5 P6 hS ?_ Qj
  have LX:=PySem.W.exm_one (M:=model X.prog X.w) (c:=.ref cS) (e:=e) I5.cD (J8 Fy Fx) hx
  refine LX.at ?_
  refine codeAny_handlers_suite_as ?_
  refine lands_againW (s:= {s2 with heap:=h5}) A9 fun h6 FA xQ=> ?_
  obtain⟨o6,Co,Rg,Rf,Rc,_⟩:=FA.first
  obtain⟨I6,n6⟩:=I1.Gk (h':=h6) FL.un FL.os FL.bare FL.ai bK fH fl.2.1 fl.1 FA.1 ((uu.trans ur).trans xQ) Rg Rf ⟨_,Rc⟩
  have I6:=I6.jL (.ref e)
  have OQ:=hk n6
  refine YO (X:=X.jL (.ref e)) (i:=ie) I6 hN wA (.inl qp) (v:=.ref e) (u:=.ref e) rfl (fun s7 I7=> ?_) (.inr qp)
  refine Zbu (O3 e pins s7 _ _ _ I7 OQ) (fun Rq s8 h8=> ?_) fun _ _ z=>z.elim
  cases Rq with
  |ret u=>obtain⟨_,_,_,_,_,z⟩:=h8;exact z.elim
  |brk=>obtain⟨_,_,_,z⟩:=h8;exact z.elim
  |cont=>obtain⟨_,_,_,z⟩:=h8;exact z.elim
  |next=>
   obtain⟨ug,H8,I8,q8⟩:=h8
   have I8:=I8.Kx (fun z=>I.ok.hd z)
   obtain⟨m8,Ex,PM⟩:=I8.loc
   have AQ:(X.env.scope.kind==.class||(X.env.scope.kind==.module&&X.env.locals !=X.env.globals))=false:=by rw[I8.ok.kind];rfl
   refine wpAny_nameGoes_keeps qp Ex AQ fun h9 v9 Pr nW=> ?_
   have st:=YO (M:=model X.prog X.w) (A:=X.A) (E:=fun _ _=>False) (X:=X) (i:=ie) I8 hN wA (.inl qp) (v:=.af) (u:=.none) rfl (Q:=fun _ _=>True) (fun _ _=>trivial) (.inr qp)
   refine⟨ug.set ie none,H8,?_,q8⟩
   have az:ie<ug.length:=by rw[I8.len];exact(Zab.mp wA).1
   obtain⟨oL,_,_,hoL,_⟩:=id Ex
   have iO:=I8.iO
   refine⟨I8.ok,I8.os,I8.bare,⟨fun b o eb nb hb hx=> ?_,fun b o eb nb hb hx=> ?_,I8.base.free,fun b o eb hx=> ?_,I8.base.eK,I8.base.eJ,I8.base.dY⟩,⟨_,Pr,fun j y v' e1 e2 e3=> ?_⟩,fun y cc ec=> ?_,I8.free,I8.gk,fun p hp=> ?_,fun b ob eb=> ?_,by simpa using I8.len⟩
   ·exact(nW.2 b (ZaO (ZaE (Zar eb) I8.ok.above))).trans (I8.base.keep b o eb nb hb hx)
   ·obtain⟨sl,q⟩:=I8.base.slot b o eb nb hb hx
    exact⟨sl,(nW.2 b (ZaO (ZaE (Zar eb) I8.ok.above))).trans q⟩
   ·obtain⟨o',q⟩:=I8.base.there b o eb hx
    exact⟨o',(nW.2 b (ZaO (ZaE (Zar eb) I8.ok.above))).trans q⟩
   ·by_cases hj:j=ie
    ·subst hj
     rw[ZdZ az]at e2
     cases e2
    ·rw[Zem (ZdL hj)]at e2
     obtain⟨u',r',q⟩:=PM j y v' e1 e2 e3
     refine⟨u',r',?_⟩
     rcases q with ⟨kk,q⟩ |⟨kk,c',ec,z⟩
     ·refine .inl ⟨kk,?_⟩
      have ne:y≠n:=fun z=>hj (WB hN e1 (z▸wA))
      simp[ne,q]
     ·exact .inr ⟨kk,c',ec,z.sameBut nW (iO y c' ec)⟩
   ·obtain⟨w',z⟩:=I8.cell y cc ec
    exact⟨w',z.sameBut nW (iO y cc ec)⟩
   ·obtain⟨e1,n1,ne1,NB,d1⟩:=I8.pin p hp
    exact⟨(nW.2 p.1 ne1).trans e1,n1,ne1,NB,d1⟩
   ·refine(I8.ai b ob eb).cb (fun cc w' jN q=> (nW.2 cc ?_).trans q) (fun _ q=>q) fun _ _ q=>q
    rintro rfl
    rcases jN with rfl |jN
    ·rw[I8.free]at eb;cases eb
    ·rw[I8.free]at jN;cases jN
def ig (c:Addr) (q:Str):HO:=.ext fun h=>h.CodeRec (.ref c) q
def nH (f:Addr) (q:Str) (params:Arguments) (body:Expr) (scope:Scope) (cl:List (Str×Addr)) (pm:Value) (c:Addr) (ct:Value):HO:=.ext fun h=>h.get? f=some (PySem.W.kla_obj "<lambda>" q params body scope cl pm c ct)
def jA (H:Hp) (f:Addr) (q:Str) (params:Arguments) (body:Expr) (scope:Scope) (cl:List (Str×Addr)):Prop:=∃pm c ct,H f=some (nH f q params body scope cl pm c ct)/\H c=some (ig c q)
def jA.same (x:jA H f q params body scope cl) (s:ae H H'):jA H' f q params body scope cl:=by
 obtain⟨pm,c,ct,h1,h2⟩:=x
 exact⟨pm,c,ct,s _ _ h1,s _ _ h2⟩
def aab (H:Hp) (q:Str) (ps:Array Value):Prop:=TriplesOk ps.toList/\∀pos cv,codeAmong pos ps.toList=some cv->∃c,cv=.ref c/\H c=some (ig c q)
def TabAt (H:Hp) (P:Addr) (q:Str):Prop:=∃ps,H P=some (.bY ps)/\aab H q ps
def JQ {h h':Heap}(x:h.CodeRec (.ref c) q) (k:∀o,h.get? c=some o->h'.get? c=some o):h'.CodeRec (.ref c) q:=by
 obtain⟨c2,oc,vs,tq,e,g1,g2,g3⟩:=x
 cases e
 exact⟨c,oc,vs,tq,rfl,k _ g1,g2,g3⟩
def VR {h:Heap}(x:h.CodeRec (.ref c) q):bw P w H h c (ig c q):=by
 obtain⟨c2,oc,vs,tq,e,g1,g2,g3⟩:=id x
 cases e
 exact⟨x,⟨_,g1⟩,fun h1 h2 p k=>JQ p k⟩
def Hz {h:Heap}(x:h.get? f=some (PySem.W.kla_obj "<lambda>" q params body scope cl pm c ct)):
  bw P w H h f (nH f q params body scope cl pm c ct):=⟨x,⟨_,x⟩,fun h1 h2 p k=>k _ p⟩
def WW {pos p2:Pos} :∀(l:List Value),TriplesOk l->codeAmong p2 (l++[rawInt pos.line,rawInt pos.col,c])=some cv->codeAmong p2 l=some cv∨cv=c
 | [],_,h=>by
  have h':(if (pos.line:Int)==(p2.line:Int)&&(pos.col:Int)==(p2.col:Int) then some c else codeAmong p2 [])=some cv:=h
  split at h'
  ·exact .inr (ZaQ h').symm
  ·cases h'
 | .int a t:: .int b u::x::r,ht,h=>by
  have h':(if a==p2.line&&b==p2.col then some x else codeAmong p2 (r++[rawInt pos.line,rawInt pos.col,c]))=some cv:=h
  show(if a==p2.line&&b==p2.col then some x else codeAmong p2 r)=some cv∨cv=c
  split at h'
  ·rename_i hq
   rw[Zaq hq]
   exact .inl h'
  ·rename_i hq
   rw[Zam hq]
   exact WW r ht h'
def JC {pos:Pos}{c:Value} :∀(l:List Value),TriplesOk l->TriplesOk (l++[rawInt pos.line,rawInt pos.col,c])
 | [],_=>trivial
 | .int _ _:: .int _ _::_::r,h=>JC r h
structure xF (X:Cx) (c P:Addr):Prop where
 code:X.env.code=.ref c
 hd:PySem.W.CodeHd X.base c P
 bm:∃bm ob,X.mg "__builtins__" =some (.ref bm)/\bm≠builtinsNs/\X.base.get? bm=some ob/\ob.cls=.type "module" /\ob.dict=some builtinsNs/\ob.data=.plain
def K9 (X:Cx) (P:Addr) (params:Arguments) (body:Expr) (scope:Scope):TE:=fun σ H Q=>TabAt H P (X.env.qual++ "<lambda>")/\∀f H',au P H H'->H f=none->TabAt H' P (X.env.qual++ "<lambda>")->jA H' f (X.env.qual++ "<lambda>") params body scope (dm scope X.env)->Q (.ref f) H'
def Yp {X:Cx}{c P:Addr}{params:Arguments}{body:Expr}{scope:Scope}{pos:Pos}(L:xF X c P) (AL:defaultsOf params X.env=([],[])) (fZ:∀y∈scope.names,y.2=.free->X.env.kindOf y.1=some .cell∨X.env.kindOf y.1=some .free):
  PE X (.Lambda params body scope pos) (K9 X P params body scope):=by
 intro pins s σ H Q I h
 obtain⟨⟨ps,hP,hT,hC⟩,q⟩:=h
 have oP:s.heap.get? P=some (PySem.W.tabObj ps):=I.ai P _ hP
 have dE:=Ya (scope:=scope) (env:=X.env) fun y hy e=>I.ok.has _ (fZ y hy e)
 have wO:s.heap.Ns mainGlobals X.mg:=I.mod.glob.keeps I.bk
 obtain⟨bm,ob,b1,b2,b3,b4,b5,b6⟩:=L.bm
 have P7:mainGlobals≠P:=fun z=>by
  obtain⟨o,es,ep,e,d,_⟩:=wO
  rw[z,oP]at e
  cases e
  cases d
 have oq:bm≠P:=fun z=>by
  have e:=I.bk _ _ b3
  rw[z,oP]at e
  cases e
  cases b4
 have Qr:bm≠mainGlobals:=fun z=>by
  obtain⟨o,es,ep,e,d,_⟩:=wO
  have e2:=I.bk _ _ b3
  rw[z,e]at e2
  cases e2
  rw[d]at b6
  cases b6
 have BA:s.heap.BuiltinsAt X.mg P:=⟨bm,ob,b1,b2,Qr,oq,I.bk _ _ b3,b4,b5,b6⟩
 refine PySem.W.kla_eval AL ?_
 cases hf:codeAmong pos ps.toList with
 |some cv=>
  obtain⟨c',rfl,bH⟩:=hC pos cv hf
  refine PySem.W.kla_makeFunctionHit dE I.ok.glob wO L.code (L.hd.keeps I.bk) oP hT hf BA fun oK h' tk hk hsz=> ?_
  have nf:H h'.objs.size=none:=I.ai.fresh hsz
  have s1:ae H (upd H h'.objs.size (nH h'.objs.size (X.env.qual++ "<lambda>") params body scope (dm scope X.env) ((X.mg "__name__").getD .none) c' oK)):=fun b o hb=>by rw[Zg (Zi hb nf)];exact hb
  refine⟨.ref h'.objs.size,_,I.laid (t':=tk) (a:=h'.objs.size) (fun b u e=>OF _ (hk b u e)) hsz (Hz (Zax _ rfl)),rfl,?_⟩
  exact q _ _ (fun b o hb _=>s1 b o hb) nf ⟨ps,s1 _ _ hP,hT,fun p2 Bk z=>by obtain⟨c2,e2,h2⟩:=hC p2 Bk z;exact⟨c2,e2,s1 _ _ h2⟩⟩ ⟨_,c',oK,Ze,s1 _ _ bH⟩
 |none=>
  refine PySem.W.kla_makeFunction dE I.ok.glob wO L.code (L.hd.keeps I.bk) oP hT hf P7 BA fun c' oK h' tk hx bU az wc sj=> ?_
  have vL:∀b o,s.heap.get? b=some o->b<c':=fun b o e=>ZaE (Zar e) bU
  have ltH:∀b o,H b=some o->b<c':=fun b o e=>ZaE (I.ai.lt e) bU
  have nc:H c'=none:=I.ai.fresh bU
  have nf:H h'.objs.size=none:=I.ai.fresh (Zcd bU (Zec az))
  have MK:P≠c':=Zi hP nc
  have Dg:P≠h'.objs.size:=Zi hP nf
  have cnf:c'≠h'.objs.size:=ZaO az
  generalize wC:h'.objs.size=f at nf Dg cnf
  generalize Aj:ps++ #[rawInt pos.line,rawInt pos.col,Value.ref c']=nA at sj
  generalize Av:nH f (X.env.qual++ "<lambda>") params body scope (dm scope X.env) ((X.mg "__name__").getD .none) c' oK=lo
  have keep:∀b o,b≠P->s.heap.get? b=some o->(h'.push (PySem.W.kla_obj "<lambda>" (X.env.qual++ "<lambda>") params body scope (dm scope X.env) ((X.mg "__name__").getD .none) c' oK)).get? b=some o:=fun b o hb e=>OF _ (hx b o hb e)
  have bQ:∀b o,H b=some o->b≠P->upd (upd (upd H P (.bY nA)) c' (ig c' (X.env.qual++ "<lambda>"))) f lo b=some o:=fun b o hb cG=>by
   rw[Zg (Zi hb nf),Zg (Zi hb nc),Zg cG]
   exact hb
  have Bq:upd (upd (upd H P (.bY nA)) c' (ig c' (X.env.qual++ "<lambda>"))) f lo P=some (.bY nA):=by rw[Zg Dg,Zg MK,Ze]
  have atC:upd (upd (upd H P (.bY nA)) c' (ig c' (X.env.qual++ "<lambda>"))) f lo c'=some (ig c' (X.env.qual++ "<lambda>")):=by rw[Zg cnf,Ze]
  have Gx:upd (upd (upd H P (.bY nA)) c' (ig c' (X.env.qual++ "<lambda>"))) f lo f=some lo:=Ze
  have J:Inv X pins σ (upd (upd (upd H P (.bY nA)) c' (ig c' (X.env.qual++ "<lambda>"))) f lo) {s with heap:=h'.push (PySem.W.kla_obj "<lambda>" (X.env.qual++ "<lambda>") params body scope (dm scope X.env) ((X.mg "__name__").getD .none) c' oK),toks:=tk} :=by
   refine I.un (t':=tk) ⟨fun b o e n _ _=>keep b o (fun z=>by rw[z,hP]at n;cases n) e,fun b o e n _ _=> ⟨o.slots,keep b o (fun z=>by rw[z,hP]at n;cases n) e⟩,fun b o e n _=> ?_,fun b o e _=> ?_,fun b xs e=>bQ b _ e (fun z=>by rw[z,hP]at e;cases e),fun b o u e=>bQ b _ e (fun z=>by rw[z,hP]at e;cases e),fun b qs e=> ?_⟩ ?_
   ·have hl:=vL b o e
    rw[Zg (by rw[<-wC];exact ZaO (Zfv hl az)),Zg (ZaO hl),Zg (fun z=>by rw[z,hP]at n;cases n)]
    exact n
   ·by_cases hb:b=P
    ·rw[hb];exact⟨_,OF _ sj⟩
    ·exact⟨o,keep b o hb e⟩
   ·by_cases hb:b=P
    ·rw[hb,hP]at e
     cases e
     exact⟨_,by rw[hb,Bq,Aj]⟩
    ·exact⟨#[],by rw[bQ b _ e hb];simp⟩
   ·intro b o hb
    by_cases h1:b=f
    ·rw[h1,Gx]at hb
     cases hb
     rw[h1,<-Av]
     refine Hz ?_
     rw[<-wC]
     exact Zax _ rfl
    ·by_cases h2:b=c'
     ·rw[h2,atC]at hb
      cases hb
      rw[h2]
      exact VR (JQ wc fun o e=>OF _ e)
     ·by_cases h3:b=P
      ·rw[h3,Bq]at hb
       cases hb
       rw[h3]
       exact OF _ sj
      ·have cT:H b=some o:=by rw[Zg h1,Zg h2,Zg h3]at hb;exact hb
       refine(I.ai b o cT).cb (fun z u hz e=>keep z u ?_ e) (fun z e=> ?_) fun z xs e=> ?_
       ·rcases hz with hz |hz
        ·rw[hz];exact h3
        ·intro aI;rw[aI,hP]at hz;cases hz
       ·exact bQ z _ e fun aI=>by rw[aI,hP]at e;cases e
       ·exact bQ z _ e fun aI=>by rw[aI,hP]at e;cases e
  refine⟨.ref f,_,J,rfl,?_⟩
  refine q f _ (fun b o hb cG=>bQ b o hb cG) nf ⟨nA,Bq,?_,fun p2 Bk z=> ?_⟩ ⟨_,c',oK,by rw[Gx,<-Av],atC⟩
  ·rw[<-Aj,Zb8]
   exact JC _ hT
  ·rw[<-Aj,Zb8]at z
   rcases WW _ hT z with z |z
   ·obtain⟨c2,e2,h2⟩:=hC p2 Bk z
    exact⟨c2,e2,bQ _ _ h2 fun aI=>by rw[aI,hP]at h2;cases h2⟩
   ·exact⟨c',z,atC⟩
def pS {X:Cx}(OG:∀e s',wpAny (model X.prog X.w) X.A (leaving X.env e) (fun _ fM=>aC X.prog X.w X.outer X.lC X.cK E e fM) (fun e' fM=>aC X.prog X.w X.outer X.lC X.cK E e' fM) s'->X.xe e s')
  (kL:X.stack=X.env::X.outer) (fZ:X.env.frame=some X.env.locals) (hex:X.ex=[]):Passes (aC X.prog X.w) X E:=by
 intro pins σ H1 s1 ev s2 I h
 obtain⟨e,C,H',rfl,F,hE⟩:=h
 obtain⟨B,a0,fl,bK,fH⟩:=F.wU
 have un:=F.un
 rw[kL]at fl bK un
 have ib:Un (aR X.outer) [] X.lC H1 X.cK.heap s1.heap:=by have:=I.base;rw[hex]at this;exact this
 have A7:X.A.frames=some (X.env::X.outer):=by rw[<-kL];exact I.ok.frames
 refine OG _ _ (wpAny_leaves_onW (L:=X.env.locals) A7 fZ fl fun h' oF up=> ?_)
 refine⟨e,C,H',rfl,⟨F.os.trans I.os,F.bare,Wp (base:=X.base) (L:=X.env.locals) ib un fZ I.ok.above I.ok.eI I.ok.gL bK fl.1 oF.1 up,YT F.ai fH fl.1 oF.1,B,a0,oF,fun b o hb hn=> ?_,fH⟩,hE⟩
 obtain⟨o1,e1⟩:=ib.there b o hb (by simp)
 refine bK b o1 e1 fun hm=> ?_
 have cH:b∈(X.env::X.outer).filterMap (·.frame):=hm
 rw[Zdm (f:=fun(x:Env)=>x.frame) (a:=X.env) (b:=X.env.locals) fZ]at cH
 rcases Zao.mp cH with q |q
 ·rw[q]at hb
  exact absurd (ZaE (Zar hb) I.ok.above) (ZbI _)
 ·exact hn q
def gz (P:Program) (w:World) (K:Zht) (mg:Str->Option Value) (base:Heap) (N:List Str) (q:Str) (scope:Scope) (f:Addr) (cd:Value) (cl:List (Str×Addr)) (A:Around) (outer:List Env) (s:Shared) (H:Hp) (E:XK):Cx where
 prog:=P
 w:=w
 K:=K
 mg:=mg
 base:=base
 A:=A.deeper (PySem.W.envX q scope s.heap.objs.size f cd cl)
 N:=N
 cK:=s
 lC:=H
 env:=PySem.W.envX q scope s.heap.objs.size f cd cl
 outer:=outer
 stack:=PySem.W.envX q scope s.heap.objs.size f cd cl::outer
 ex:=[]
 calm:=true
 fn:=fun _=>false
 pn:=[]
 xe:=fun e s'=>wpAny (model P w) (A.deeper (PySem.W.envX q scope s.heap.objs.size f cd cl)) (leaving (PySem.W.envX q scope s.heap.objs.size f cd cl) e) (fun _ fM=>aC P w outer H s E e fM) (fun e' fM=>aC P w outer H s E e' fM) s'
structure Two (base:Heap) (scope:Scope) (cl:List (Str×Addr)) (x y:Str) (vx vy:V):Prop where
 kx:scope.names.lookup x=some .free
 ky:scope.names.lookup y=some .free
 only:∀z,scope.names.lookup z=some .cell∨scope.names.lookup z=some .free->z=x∨z=y
 ne:x≠y
 cx:∃c u,cl.lookup x=some c/\base.IsCell c (some u)/\RelV vx u
 cy:∃c u,cl.lookup y=some c/\base.IsCell c (some u)/\RelV vy u
 mem:∀z c,cl.lookup z=some c->z=x∨z=y
 inj:∀c,cl.lookup x=some c->cl.lookup y=some c->False
def JN {h b1 b2:Heap} :∀{l:List Env},h.FunFrames b1 l->(∀b∈aR l,b2.get? b=none)->h.FunFrames b2 l
 | [],_,_=>trivial
 |env::r,⟨hk,⟨L,o,hf,_,ho,hd⟩,hr⟩,hn=> ⟨hk,⟨L,o,hf,hn L (Zc4.mpr ⟨env,.head _,hf⟩),ho,hd⟩,JN hr fun b hb=>hn b (by
  obtain⟨e,he,q⟩:=Zc4.mp hb
  exact Zc4.mpr ⟨e,.tail _ he,q⟩)⟩
def Inv.rebase {X:Cx}{s:Shared}(I:Inv X pins σ H s):
  ∃bq,X.base.StaysIn bq/\tY X.prog X.w X.K X.mg bq X.A X.stack s H/\∀b o,s.heap.get? b=some o->H b=none->b∉aR X.stack->bq.get? b=some o:=by
 have bK:∀b o,s.heap.get? b=some o->H b=none->b∉aR X.stack->(PySem.W.hideAll (iK s.heap H) (aR X.stack)).get? b=some o:=fun b o e n hf=>Ze2 _ (II e n) hf
 have st:X.base.StaysIn (PySem.W.hideAll (iK s.heap H) (aR X.stack)):=fun b o e=>bK b o (I.bs b o e).1 (I.bs b o e).2 fun hm=>by
  have:=(I.stack.mem hm).1
  rw[e]at this
  cases this
 refine⟨_,st,⟨I.ok.frames,⟨I.mod.nJ.keeps st,I.mod.glob.keeps st,?_,I.mod.nolimit.keeps st⟩,fun b o e=>HL (Zeb _ e),?_,JN I.stack fun b hb=>ZfF _ hb,I.q0,I.ai,I.bare⟩,bK⟩
 ·obtain⟨mb,h1,h2⟩:=I.mod.blt
  exact⟨mb,h1.keeps st,h2⟩
 ·rw[ZgS,UC]
  exact Zae _
def Ll (wi:TI) (ts:Nat) (br:List Nat) (g:TG) (tt:TT) (ti:St->TC):TE:=fun σ H Q=>wi σ H fun J H1=>iq g tt (ti σ) J [] (jx ts br σ) H1 fun ys _ H2=> ∀p,H2 p=none->Q (.ref p) (upd H2 p (.lst ys))
def Ik {X:Cx}{elt tg iter:Expr}{ifs:List Expr}{rest:List Comprehension}{scope:Scope}{pos:Pos}{wi:TI}{g:TG}{tt:TT}{ti:St->TC}(N':List Str) (ts:Nat) (br:List Nat) (hi:PI X tg iter wi) (pg:∀C s H fp,PG (aS X N' scope C s H fp) tg g) (pt:∀C s H fp,lj (aS X N' scope C s H fp) ifs tt)
  (pi:∀pins σ C s H fp D,Inv X pins σ H s->(∀b∈fp,cC X pins H b)->mK (aS X N' scope C s H fp) D (inner elt (⟨tg,iter,ifs,0⟩::rest) scope pos 0 (.ref D) (aS X N' scope C s H fp).env) (ti σ))
  (ok:qB X.env.scope scope X.N N' ts br=true:=by rfl) (hc:X.calm=true:=by rfl) (h2:∀g',(Comprehension.mk tg iter ifs 0::rest)[0+1]? =some g'->g'.is_async=0:=by(intro g' h;cases h<;>rfl))
  (hs:∀x,foldedSetIterable iter X.env x=pure x:=by intro _;rfl):
  PE X (.ListComp elt (⟨tg,iter,ifs,0⟩::rest) scope pos) (Ll wi ts br g tt ti):=by
 intro pins s σ H Q I h
 have S:=JP ok
 rw[Zg6]
 refine Zeo (use:=none) rfl hs (Ya fun y hy e=>I.ok.has _ (S.free y hy e)) S.kind S.names (aq (hi pins s σ H _ I h) fun v s1 h1=>aq h1 fun kG s2 iL=> ?_)
 obtain⟨it,fp,tn,J,H2,e,I2,T,ak,f2,q2⟩:=iL
 subst e
 refine Jy (RR:=fun acc C=>compPost (model X.prog X.w) X.A X.xe none _ acc C) S hc I2 T ak f2 h2 (fun C=>pg C _ _ _) (fun C=>pt C _ _ _) (fun C D=>pi pins σ C _ _ _ D I2 f2) q2 ?_
 intro C D s' aj H' ys fl hC hD kQ J' n a q
 obtain⟨m,hn,_⟩:=J'.loc
 exact⟨m,hn,fun h' sb=> ⟨.ref D,_,WU I2 f2 hC hD kQ J' n a sb,rfl,q D n⟩⟩
def SX:Const->Option V
 | .int n=>some (.int n)
 | .bool b=>some (.bl b)
 | .str x=>some (.str x)
 | .none=>some .af
 |_=>none
def rD:Expr->Option V
 | .Constant c _ _=>SX c
 | .UnaryOp .USub (.Constant (.int n) _ _) _=>some (.int (-n))
 | .BinOp (.Constant (.int a) _ _) .Pow (.Constant (.int b) _ _) _=>if 0<=b/\b<=1000000/\a.natAbs<2^64 then some (.int (a^b.toNat)) else none
 |_=>none
def rq:List Expr->Option (List V)
 | []=>some []
 |e::r=>match rD e,rq r with
  |some v,some vs=>some (v::vs)
  |_,_=>none
inductive Lit where
 |sc (v:V)
 |tup (xs:List V)
 |lst (xs:List V)
 |hW
def jZ (H:Hp) (v:V):Lit->Prop
 | .sc u=>v=u
 | .tup xs=> ∃a:Addr,v=.ref a/\H a=some (.tup xs)
 | .lst xs=> ∃a:Addr,v=.ref a/\H a=some (.lst xs)
 | .hW=> ∃a:Addr,v=.ref a/\H a=some (.dK [])
def jZ.same {H H':Hp}{v:V} :∀{l:Lit},jZ H v l->ae H H'->jZ H' v l
 | .sc _,h,_=>h
 | .tup _,⟨a,e,h⟩,s=> ⟨a,e,s _ _ h⟩
 | .lst _,⟨a,e,h⟩,s=> ⟨a,e,s _ _ h⟩
 | .hW,⟨a,e,h⟩,s=> ⟨a,e,s _ _ h⟩
def litOf:Expr->Option Lit
 | .Tuple es _ _=>match rq es with
  |some xs=>if xs.length<=1000 then some (.tup xs) else none
  |none=>none
 | .List es _=>match rq es with
  |some xs=>if xs.length<=1000 then some (.lst xs) else none
  |none=>none
 | .Dict [] [] _=>some .hW
 |e=> (rD e).map .sc
def litsOf:List Expr->Option (List Lit)
 | []=>some []
 |e::r=>match litOf e,litsOf r with
  |some v,some vs=>some (v::vs)
  |_,_=>none
section
variable {X:Cx}
def GH (h:rD e=some v):PE X e (tC v)/\(∀es,starEach (e::es) X.env=(false,eval e X.env)::starEach es X.env)/\∀a:Addr,v≠.ref a:=by
 unfold rD at h
 split at h
 ·rename_i c j p
  cases c with
  |int n=>cases h;exact⟨Zd,fun _=>rfl,fun a z=>by cases z⟩
  |bool b=>cases h;exact⟨Wb,fun _=>rfl,fun a z=>by cases z⟩
  |str x=>cases h;exact⟨ZS,fun _=>rfl,fun a z=>by cases z⟩
  |none=>cases h;exact⟨Yn,fun _=>rfl,fun a z=>by cases z⟩
  |_=>cases h
 ·cases h
  refine⟨fun pins s σ H Q I q=>GI Hi Zd pins s σ H Q I ⟨_,rfl,q⟩,fun _=>rfl,fun a z=>by cases z⟩
 ·split at h
  ·rename_i hc
   cases h
   refine⟨fun pins s σ H Q I q=>Zo Wy Zd Zd pins s σ H Q I ⟨_,_,rfl,rfl,hc,q⟩,fun _=>rfl,fun a z=>by cases z⟩
  ·cases h
 ·cases h
def Wx:∀{es:List Expr}{vs:List V},rq es=some vs->PA X es (fun _ H Q=>Q vs H)
 | [],vs,h=>by cases h;exact Zb
 |e::r,vs,h=>by
  unfold rq at h
  split at h
  ·rename_i v ws h1 h2
   cases h
   obtain⟨p1,p2,_⟩:=GH (X:=X) h1
   exact fun pos pins s σ H Q I q=>Za p1 (Wx h2) (p2 r) pos pins s σ H Q I q
  ·cases h
def TK {e:Expr}{l:Lit}(h:litOf e=some l):PE X e (fun _ H Q=> ∀v H',ae H H'->jZ H' v l->(∀a:Addr,v=.ref a->H a=none)->Q v H')/\∀es,starEach (e::es) X.env=(false,eval e X.env)::starEach es X.env:=by
 unfold litOf at h
 split at h
 ·split at h
  ·rename_i xs hx
   split at h
   ·rename_i hl
    cases h
    refine⟨fun pins s σ H Q I q=>Zs (Wx hx) pins s σ H Q I ⟨Zec (CI hl),fun p hp=>q _ _ (fun b o hb=>by rw[Zg (Zi hb hp)];exact hb) ⟨p,rfl,Ze⟩ fun a z=>by cases z;exact hp⟩,fun _=>rfl⟩
   ·cases h
  ·cases h
 ·split at h
  ·rename_i xs hx
   split at h
   ·rename_i hl
    cases h
    refine⟨fun pins s σ H Q I q=>ZH (Wx hx) pins s σ H Q I ⟨Zec (CI hl),fun p hp=>q _ _ (fun b o hb=>by rw[Zg (Zi hb hp)];exact hb) ⟨p,rfl,Ze⟩ fun a z=>by cases z;exact hp⟩,fun _=>rfl⟩
   ·cases h
  ·cases h
 ·cases h
  exact⟨fun pins s σ H Q I q=>Il pins s σ H Q I fun p hp=>q _ _ (fun b o hb=>by rw[Zg (Zi hb hp)];exact hb) ⟨p,rfl,Ze⟩ fun a z=>by cases z;exact hp,fun _=>rfl⟩
 ·rename_i x0 h1 h2 h3
  cases hs:rD e with
  |none=>rw[hs]at h;cases h
  |some v=>
   rw[hs]at h
   cases h
   obtain⟨p1,p2,p3⟩:=GH (X:=X) hs
   exact⟨fun pins s σ H Q I q=>p1 pins s σ H Q I (q v H (ae.refl H) rfl fun a z=>absurd z (p3 a)),p2⟩
def HQ:∀{es:List Expr}{ls:List Lit},litsOf es=some ls->PA X es (fun _ H Q=> ∀vs H',ae H H'->Paired (jZ H') vs ls->(∀a,V.ref a∈vs->H a=none)->Q vs H')
 | [],ls,h=>by cases h;exact fun pos pins s σ H Q I q=>Zb pos pins s σ H Q I (q [] H (ae.refl H) .nil fun a z=>nomatch z)
 |e::r,ls,h=>by
  unfold litsOf at h
  split at h
  ·rename_i v ws h1 h2
   cases h
   obtain⟨p1,p2⟩:=TK (X:=X) h1
   exact fun pos pins s σ H Q I q=>Za p1 (HQ h2) (p2 r) pos pins s σ H Q I fun v1 H1 s1 l1 n1 vs H2 s2 pr n2=>q (v1::vs) H2 (s1.trans s2) (.cons (l1.same s2) pr) fun a z=>by
    rcases Zao.mp z with z |z
    ·exact n1 a z.symm
    ·exact s1.free (n2 a z)
  ·cases h
end
def Ui (n l1 l2:Nat) (h1:l1<n) (h2:l2<n):ZipApart (n+4) (n+2) (n+3) n (n+1) l1 l2:=by
 constructor<;>intro z<;>refine absurd (show @Eq Nat _ _ from z) ?_<;>omega
end L2
namespace L2
open PySem PySem.Spec PyProof.Rows SeqAt
def Jm :∀{lQ:List α}{lP:List β}{i:Nat}{x:α},Paired F lQ lP->lQ[i]? =some x->∃y,lP[i]? =some y/\F x y
 |_,_,_,_,.nil,h=>by simp at h
 |_,_,0,_,.cons r _,h=>by simp at h;subst h;exact⟨_,rfl,r⟩
 |_,_,i+1,_,.cons _ t,h=>by
  obtain⟨y,e,q⟩:=Jm t (i:=i) (by simpa using h)
  exact⟨y,by simpa using e,q⟩
section
variable {X:Cx}
def Zad :dW X (.builtin "isinstance") (fun xs H Q=> ∃(x:V) (t:Addr) (T:Value) (r:Bool),xs=[x,.ref t]/\ah X.K H t [.ty a,.ty b]/\((∃i,x=.int i/\T=.type "int")∨∃l ys,x=.ref l/\H l=some (.lst ys)/\T=.type "list")/\
  PySem.W.kitAny X.K T [.type a,.type b]=some r/\Q (.bl r) H):=by
 intro pins s σ H xs us Q I rv h
 obtain⟨x,t,T,r,rfl,hq,hx,hk,q⟩:=h
 obtain⟨u,v,rfl,ru,rv⟩:=vals2 rv
 cases rv
 obtain⟨its,rt,pl,hz⟩:=I.tuple hq
 cases rt with
 |cons r1 r2=>
  cases r2 with
  |cons r3 r4=>
   cases r4
   cases r1
   cases r3
   obtain⟨o,ho,hc,n,hd⟩:=id pl
   obtain⟨cls,dd,dt,sl⟩:=o
   replace hc:cls=.type "tuple" :=hc
   replace hd:dt=.seq [Value.type a,Value.type b].toArray n:=hd
   subst hc hd
   rcases hx with ⟨i,rfl,rfl⟩ |⟨l,ys,rfl,hl,rfl⟩
   ·obtain⟨tk,rfl⟩:=ru
    exact ZeO Zgq I.cD True.intro ho hk (fun z=>nomatch z) fun tk=> ⟨.bl r,H,I.tok _,rfl,q⟩
   ·cases ru
    obtain⟨_,_,n,_,h1⟩:=(show bw X.prog X.w H s.heap l (.lst ys) from I.ai l _ hl)
    exact ZeO Zfp I.cD ⟨_,h1,rfl⟩ ho hk (fun z=>nomatch z) fun tk=> ⟨.bl r,H,I.tok _,rfl,q⟩
def iM (i:Int) (n:Nat):List Int:=(List.range n).map fun(k:Nat)=>i+(k:Int)
def Jf {ns:List Int}{us:List Value}(r:Vals (ns.map V.int) us) (j:Nat) (h:j<us.length):∃t,us[j]=.int (ns.getD j 0) t:=by
 have hl:=r.length
 rw[Zat]at hl
 have hj:j<ns.length:=.o
 obtain⟨u,hu,t,ru⟩:=r.get (i:=j) (x:=.int ns[j]) (by rw[ZbG,Zal hj];rfl)
 rw[Zal h]at hu
 cases hu
 exact⟨t,by rw[ru];simp[hj]⟩
def TB (hu:X.A.units<cLine):bu X (compareOp .Eq) (fun x y H Q=> ∃(a b:Addr) (ns ms:List Int),x=.ref a/\y=.ref b/\ag X.K H a (ns.map V.int)/\ag X.K H b (ms.map V.int)/\Q (.bl (decide (ns=ms))) H):=by
 intro pins s σ H x y u v Q I rx ry h
 obtain⟨a,b,ns,ms,rfl,rfl,ha,hb,q⟩:=h
 cases rx
 cases ry
 obtain⟨us,r1,p1,_⟩:=I.list ha
 obtain⟨vs,r2,p2,_⟩:=I.list hb
 have l1:=r1.length
 have l2:=r2.length
 rw[Zat]at l1 l2
 by_cases hl:ns.length=ms.length
 ·refine eq_listAt (e:=fun j=>ns.getD j 0==ms.getD j 0) p1.isList p2.isList (by simp;omega) hu (fun j h1 h2=> ?_) ?_
  ·obtain⟨t1,e1⟩:=Jf r1 j (by simpa using h1)
   obtain⟨t2,e2⟩:=Jf r2 j (by simpa using h2)
   rw[show us.toArray[j]=us[j]'(by simpa using h1) by simp,show vs.toArray[j]=vs[j]'(by simpa using h2) by simp,e1,e2]
   exact ZdH _ _ _ _
  ·have e:(List.range us.toArray.size).all (fun j=>ns.getD j 0==ms.getD j 0)=decide (ns=ms):=by
    rw[ZdX,Zbj,Zb4]
    constructor
    ·intro h
     refine ZfA hl fun i h1 h2=> ?_
     have:=h i (by rw[Zbt,Zan];omega)
     simpa[h1,h2] using this
    ·rintro rfl j _
     simp
   rw[e]
   exact⟨.bl _,H,I,rfl,q⟩
 ·refine eq_list_lengthsAt p1.isList p2.isList (by simp;omega) hu ?_
  rw[ZaK (fun z=>hl (by rw[z]))]at q
  exact⟨.bl false,H,I,rfl,q⟩
def UI {x:V} :∀{xs:List V}{us:List Value},Vals xs us->xs.all gp=true->us.countP (hV x)=xs.countP fun y=>fb y x
 |_,_,.nil,_=>rfl
 |y::xs,u::us,.cons r t,f=>by
  rw[Zgg,ZaR]at f
  rw[List.countP_cons,List.countP_cons,xr r f.1,UI t f.2]
def Mt (K:Zht):V->List V->Hp->VK->Prop:=fun v vs H Q=> ∃(a:Addr) (xs:List V) (x:V),v=.ref a/\vs=[x]/\ag K H a xs/\gp x=true/\xs.all gp=true/\Q (.int ((xs.countP fun y=>fb y x:Nat):Int)) H
def HE {its:List Value}{h:Heap}(pl:h.IsList a its.toArray):∃dd n sl,h.get? a=some {cls:=.type "list",dict:=dd,data:=.seq its.toArray n,slots:=sl} :=by
 obtain⟨o,ho,hc,n,hd⟩:=pl
 obtain⟨cls,dd,dt,sl⟩:=o
 replace hc:cls=.type "list" :=hc
 replace hd:dt=.seq its.toArray n:=hd
 subst hc hd
 exact⟨_,_,_,ho⟩
def X4:xC X "list.count" (Mt X.K):=by
 intro pins s σ H v vs u us Q I rv zm h
 obtain⟨a,xs,x,rfl,rfl,hq,fx,fs,q⟩:=h
 cases rv
 obtain⟨ux,rfl,rx⟩:=ZfU zm
 obtain⟨its,r,pl,hz⟩:=I.list hq
 obtain⟨dd,n,sl,ho⟩:=HE pl.isList
 refine Zd6 F.slot_list_count ⟨_,ho,rfl⟩ F.entry_list_count (F.args_list_count_2 _ _) (list_countAt a its.toArray n dd sl ux (hV x)) ⟨ho,fun y hy=>Y5 rx fx r fs y (by simpa using hy),?_⟩
 exact⟨.int _,H,I.tok _,⟨_,by rw[show its.toArray.toList=its by simp,UI r fs]⟩,q⟩
def Ms (K:Zht):V->List V->Hp->VK->Prop:=fun v vs H Q=> ∃(a:Addr) (xs:List V) (x:V) (j:Nat),v=.ref a/\vs=[x]/\ag K H a xs/\gp x=true/\xs.all gp=true/\(∃y,xs[j]? =some y/\fb y x=true)/\(∀m y,m<j->xs[m]? =some y->fb y x=false)/\Q (.int (j:Int)) H
def ZcE:xC X "list.index" (Ms X.K):=by
 intro pins s σ H v vs u us Q I rv zm h
 obtain⟨a,xs,x,j,rfl,rfl,hq,fx,fs,⟨y,hy,ey⟩,Aq,q⟩:=h
 cases rv
 obtain⟨ux,rfl,rx⟩:=ZfU zm
 obtain⟨its,r,pl,hz⟩:=I.list hq
 obtain⟨dd,n,sl,ho⟩:=HE pl.isList
 have hlen:=r.length
 have Gy:∀k z (hk:k<its.length),xs[k]? =some z->hV x its[k]=fb z x:=fun k z hk bj=>by
  obtain⟨w,hw,iZ⟩:=r.get bj
  rw[Zal hk]at hw
  cases hw
  exact xr iZ (Zbj.mp fs z (Zbc bj))
 have hj:j<its.length:=by have:=(Zab.mp hy).1;omega
 refine Zd6 F.slot_list_index ⟨_,ho,rfl⟩ F.entry_list_index (F.args_list_index_2 _ _)
  (list_indexAt a its.toArray n dd sl ux (hV x) j (by simpa using hj) (by rw[ZaP]at hz;omega) (by simpa[ey] using Gy j y hj hy) (fun m hm Pu=> ?_)) ⟨ho,fun y hy=>Y5 rx fx r fs y (by simpa using hy),?_⟩
 ·have cH:m<its.length:=by simpa using hm
  have hx:m<xs.length:=.o
  have e:=Gy m _ cH (Zal hx)
  rw[Aq m _ Pu (Zal hx)]at e
  simpa using e
 ·exact⟨.int (j:Int),H,I.tok _,⟨_,rfl⟩,q⟩
def Ld (ta tb tc td te:TE):TE:=fun σ H Q=>ta σ H fun v1 H1=> ∃x1,v1=.str x1/\(Str.empty++x1).length<=sizeLine/\tb σ H1 fun v2 H2=> ∃n:Int,v2=.int n/\n.natAbs.log2<1920/\(Str.empty++x1++(Str.ofString (toString n))).length<=sizeLine/\
 tc σ H2 fun v3 H3=> ∃x3,v3=.str x3/\(Str.empty++x1++(Str.ofString (toString n))++x3).length<=sizeLine/\td σ H3 fun v4 H4=> ∃m:Int,v4=.int m/\m.natAbs.log2<1920/\(Str.empty++x1++(Str.ofString (toString n))++x3++(Str.ofString (toString m))).length<=sizeLine/\
 te σ H4 fun v5 H5=> ∃x5,v5=.str x5/\(Str.empty++x1++(Str.ofString (toString n))++x3++(Str.ofString (toString m))++x5).length<=sizeLine/\∀z,Q (.str z) H5
def Im (ha:PE X a ta) (hb:PE X b tb) (hc:PE X c tc) (hd:PE X d td) (he:PE X e te):PE X (.JoinedStr [a,.FormattedValue b (-1) none p,c,.FormattedValue d (-1) none p',e] pos) (Ld ta tb tc td te):=by
 intro pins s σ H Q I h
 refine JoinedStr_many (ZeE (Zbu (ha pins s σ H _ I h) (fun u s1 h1=> ?_) fun _ _ y=>y))
 obtain⟨v,H1,I1,r1,x,rfl,hz,h2⟩:=h1
 obtain⟨t,rfl⟩:=r1
 refine⟨hz,ZeE (ZfJ (Zbu (hb pins s1 σ H1 _ I1 h2) (fun u s2 h3=> ?_) fun _ _ y=>y))⟩
 obtain⟨v,H2,I2,r2,n,rfl,hn,aI,h4⟩:=h3
 obtain⟨t2,rfl⟩:=r2
 refine Zfy hn ⟨aI,?_⟩
 have I2':=I2.tok (s2.toks+1)
 refine ZeE (Zbu (hc pins _ σ H2 _ (I2.tok _) h4) (fun u s3 h5=> ?_) fun _ _ y=>y)
 obtain⟨v,H3,I3,r3,x3,rfl,dM,h6⟩:=h5
 obtain⟨t3,rfl⟩:=r3
 refine⟨dM,ZeE (ZfJ (Zbu (hd pins s3 σ H3 _ I3 h6) (fun u s4 h7=> ?_) fun _ _ y=>y))⟩
 obtain⟨v,H4,I4,r4,m,rfl,hm,OD,h8⟩:=h7
 obtain⟨t4,rfl⟩:=r4
 refine Zfy hm ⟨OD,?_⟩
 refine ZeE (Zbu (he pins _ σ H4 _ (I4.tok _) h8) (fun u s5 h9=> ?_) fun _ _ y=>y)
 obtain⟨v,H5,I5,r5,x5,rfl,Ea,q⟩:=h9
 obtain⟨t5,rfl⟩:=r5
 refine⟨Ea,joinParts_nil ?_ Ea⟩
 exact⟨.str _,H5,I5.tok _,⟨_,rfl⟩,q _⟩
end
end L2
namespace L2
open PySem PySem.Spec PyProof.Rows
structure One (base:Heap) (scope:Scope) (cl:List (Str×Addr)) (x:Str) (vx:V):Prop where
 kx:scope.names.lookup x=some .free
 only:∀z,scope.names.lookup z=some .cell∨scope.names.lookup z=some .free->z=x
 cx:∃c u,cl.lookup x=some c/\base.IsCell c (some u)/\RelV vx u
 mem:∀z c,cl.lookup z=some c->z=x
structure Src (prog:Program) (w:World) (i l:Addr) (n:Nat) (f:Nat->Value) (S:Nat->Heap->Prop):Prop where
 here:∀k h,S k h->∃o,h.get? i=some o
 cb:∀k h h',S k h->(∀c,c=i∨c=l->∀o,h.get? c=some o->h'.get? c=some o)->S k h'
 item:∀(A:Around) k (s:Shared) (Q:Value->Shared->Prop) (E:Value->Shared->Prop),k<n->S k s.heap->(∀h',S (k+1) h'->Heap.SameBut i s.heap h'->Q (f k) {s with heap:=h'})->wpAny (model prog w) A (Builtin.SmallTypes.nextOf (.ref i)) Q E s
 stop:∀(A:Around) (s:Shared) (Q:Value->Shared->Prop) (E:Value->Shared->Prop),A.handled=none->S n s.heap->(∀h' e,Heap.ExtBut i s.heap h'->(∃o,h'.get? e=some o/\o.cls=.type "StopIteration")->E (.ref e) {s with heap:=h'})->wpAny (model prog w) A (Builtin.SmallTypes.nextOf (.ref i)) Q E s
def Ja (prog:Program) (w:World) (its:Array Value) (cG:l≠i):Src prog w i l its.size (fun k=>its.getD k .none) (fun k h=>IsTupIter h i l k/\IsTup h l its) where
 here:=fun k h ⟨⟨o,ho,_⟩,_⟩=> ⟨o,ho⟩
 cb:=fun k h h' ⟨⟨o,ho,r⟩,⟨u,hu,r'⟩⟩ st=> ⟨⟨o,st i (.inl rfl) o ho,r⟩,⟨u,st l (.inr rfl) u hu,r'⟩⟩
 item:=fun A k s Q E hk ⟨hi,ht⟩ q=>by
  obtain⟨oi,gi,ci,di⟩:=id hi
  obtain⟨ot,gt,ct,nt,dt⟩:=id ht
  have hx:its[k]? =some (its.getD k .none):=by simp[hk]
  unfold Builtin.SmallTypes.nextOf
  refine AN (Zb7 (name:=Str.ofString "__next__") hi.typeIs Ze6 (Zdr Ze6 hi.typeIs entry_tupleiter_next ?_ (args_tupleiter_next _)))
  refine(show wpAny _ _ (field (.ref i) 0 >>=_) _ _ s from AN (ZbR gi di (x:=.ref l) rfl ?_))
  refine(show wpAny _ _ (if (Value.ref l==Value.none)=true then _ else _) _ _ s from ?_)
  rw[Zam (by exact Zav)]
  refine(show wpAny _ _ (field (.ref i) 1 >>=_) _ _ s from AN (ZbR gi di (x:=.int k 0) rfl ?_))
  refine(show wpAny _ _ (seqItems? (.ref l) >>=_) _ _ s from AN (Zb5 gt dt ?_))
  simp only[ZdT,hx]
  refine AN (ZeW gi di (by simp) (Zak ⟨_,rfl,Zak (q _ ⟨⟨_,Zdl _ gi (Zfx (Zef di _)),(Obj.cls_mapFields ..).trans ci,?_⟩,?_⟩ (Zdj ..))⟩))
  ·rw[Zef di];simp[rawInt]
  ·exact⟨ot,(Zdj ..).extBut _ _ cG gt,ct,nt,dt⟩
 stop:=fun A s Q E hh ⟨hi,ht⟩ q=>by
  obtain⟨oi,gi,ci,di⟩:=id hi
  obtain⟨ot,gt,ct,nt,dt⟩:=id ht
  have hx:its[its.size]? =none:=by simp
  unfold Builtin.SmallTypes.nextOf
  refine AN (Zb7 (name:=Str.ofString "__next__") hi.typeIs Ze6 (Zdr Ze6 hi.typeIs entry_tupleiter_next ?_ (args_tupleiter_next _)))
  refine(show wpAny _ _ (field (.ref i) 0 >>=_) _ _ s from AN (ZbR gi di (x:=.ref l) rfl ?_))
  refine(show wpAny _ _ (if (Value.ref l==Value.none)=true then _ else _) _ _ s from ?_)
  rw[Zam (by exact Zav)]
  refine(show wpAny _ _ (field (.ref i) 1 >>=_) _ _ s from AN (ZbR gi di (x:=.int its.size 0) rfl ?_))
  refine(show wpAny _ _ (seqItems? (.ref l) >>=_) _ _ s from AN (Zb5 gt dt ?_))
  simp only[ZdT,hx]
  refine AN (ZdA (AN (ZeW gi di (by simp) ?_)))
  refine(show wpAny _ _ (newExc (.type "StopIteration") [] >>=_) _ _ _ from AN ?_)
  simp only[newExc,newTuple]
  refine AN (ZbS ?_ (by size_fits))
  refine AN (m:=firstArgMember _ _) (Zgi (a:=Value.none) (by first |rfl |(simp only[firstArgMember];rfl)) ?_)
  refine ZbS ?_ (by size_fits)
  simp only[raiseNew]
  refine AN (wpAny_handled ?_)
  first |rw[show A.in1.handled=none from hh] |rw[hh]
  refine AN (Zak (ZgY ?_))
  exact q _ _ (((Zdj ..).extBut.push _).push _) ⟨_,Zax _ rfl,rfl⟩
section
variable {prog:Program}{w:World}{A:Around}{E:Value->Shared->Prop}{s:Shared}{z TI TO i1 i2 l1 l2:Addr}{n k:Nat}{f g:Nat->Value}{S1 S2:Nat->Heap->Prop}
def VP {a b:Value}{Q:Value->Shared->Prop}(U1:Src prog w i1 l1 n f S1) (U2:Src prog w i2 l2 n g S2) (D:ZipApart z TI TO i1 i2 l1 l2) (hk:k<n) (hz:IsZip s.heap z TI TO .none) (hI:IsPair s.heap TI (.ref i1) (.ref i2)) (hO:IsPair s.heap TO a b) (h1:S1 k s.heap) (h2:S2 k s.heap)
    (q:∀h',IsZip h' z TI TO (rawInt s.heap.objs.size)->IsPair h' TO (f k) (g k)->S1 (k+1) h'->S2 (k+1) h'->IsPair h' s.heap.objs.size (f k) (g k)->h'.objs.size=s.heap.objs.size+1->
      (∀c o,c≠z->c≠TO->c≠i1->c≠i2->s.heap.get? c=some o->h'.get? c=some o)->Q (.ref s.heap.objs.size) {s with heap:=h'}):
    wpAny (model prog w) A (Builtin.«zip.__next__» ⟨[.ref z],[]⟩) (fun fin s'=> ∃v,fin=.done (.ret v)/\Q v s') E s:=by
  refine(show wpAny _ _ (field (.ref z) 2 >>=_) _ _ _ from AN (ZbR hz rfl (x:=.bool false) rfl ?_))
  refine(show wpAny _ _ (field (.ref z) 3 >>=_) _ _ _ from AN (ZbR hz rfl (x:=.ref TI) rfl (AN (Zb5 hI rfl ?_))))
  refine(show wpAny _ _ (Builtin.SmallTypes.ownedTupleIsFree (.ref z) >>=_) _ _ _ from AN ?_)
  unfold Builtin.SmallTypes.ownedTupleIsFree
  refine AN (ZbR hz rfl (x:=.none) rfl (Zak ?_))
  simp only[ZeL]
  refine AN (ZdA (AN (ZbR hz rfl (x:=.ref TO) rfl (AN (ZeJ hz (by simp) fun m1 mT e1=> ?_)))))
  replace mT:IsZip m1 z TI TO .ellipsis:=mT
  have b1:=e1.extBut
  refine AN ?_
  simp only[Zgv,List.zipIdx_nil,ZgF,List.forIn_nil]
  refine AN (AN (Zg8 ?_))
  have av:S1 k m1:=U1.cb _ _ _ h1 fun c hc o ho=>by rcases hc with rfl |rfl<;>first |exact b1 _ _ D.i1z ho |exact b1 _ _ D.l1z ho
  refine(show wpAny _ _ (Builtin.SmallTypes.nextOf (.ref i1) >>=_) _ _ _ from AN (U1.item _ k _ _ _ hk av fun m2 ak e2=>Zak ?_))
  have b2:=e2.extBut
  have o2:IsPair m2 TO a b:=b2 _ _ D.TOi1 (b1 _ _ D.TOz hO)
  refine AN (Zb5 o2 rfl (AN (wpAny_updateSeq_pair o2 fun m3 o3 e3=> ?_)))
  replace o3:IsPair m3 TO (f k) b:=o3
  have b3:=e3.extBut
  refine AN (ZfQ (Zak (AN (AN (Zg8 ?_)))))
  have w3:S2 k m3:=U2.cb _ _ _ h2 fun c hc o ho=>by
    rcases hc with rfl |rfl
    · exact b3 _ _ D.TOi2.symm (b2 _ _ D.i12.symm (b1 _ _ D.i2z ho))
    · exact b3 _ _ D.l2TO (b2 _ _ D.l2i1 (b1 _ _ D.l2z ho))
  refine(show wpAny _ _ (Builtin.SmallTypes.nextOf (.ref i2) >>=_) _ _ _ from AN (U2.item _ k _ _ _ hk w3 fun m4 w4 e4=>Zak ?_))
  have b4:=e4.extBut
  have o4:IsPair m4 TO (f k) b:=b4 _ _ D.TOi2 o3
  refine AN (Zb5 o4 rfl (AN (wpAny_updateSeq_pair o4 fun m5 o5 e5=> ?_)))
  replace o5:IsPair m5 TO (f k) (g k):=o5
  have b5:=e5.extBut
  refine AN (ZfQ (Zak (Zak (AN (Zb5 o5 rfl (AN (wpAny_newTuple ?_)))))))
  have sz:m5.objs.size=s.heap.objs.size:=by rw[e5.1,e4.1,e3.1,e2.1,e1.1]
  have z5:IsZip m5 z TI TO .ellipsis:=b5 _ _ D.TOz.symm (b4 _ _ D.i2z.symm (b3 _ _ D.TOz.symm (b2 _ _ D.i1z.symm mT)))
  have kp:∀c o,c≠z->c≠TO->c≠i1->c≠i2->s.heap.get? c=some o->m5.get? c=some o:=fun c o c1 c2 c3 c4 e=>b5 _ _ c2 (b4 _ _ c4 (b3 _ _ c2 (b2 _ _ c3 (b1 _ _ c1 e))))
  have dr:S1 (k+1) m5:=U1.cb _ _ _ ak fun c hc o ho=>by
    rcases hc with rfl |rfl
    · exact b5 _ _ D.TOi1.symm (b4 _ _ D.i12 (b3 _ _ D.TOi1.symm ho))
    · exact b5 _ _ D.l1TO (b4 _ _ D.l1i2 (b3 _ _ D.l1TO ho))
  have w5:S2 (k+1) m5:=U2.cb _ _ _ w4 fun c hc o ho=>by rcases hc with rfl |rfl<;>first |exact b5 _ _ D.TOi2.symm ho |exact b5 _ _ D.l2TO ho
  have Ck:z<m5.objs.size:=Zar z5
  refine(show wpAny _ _ (Builtin.SmallTypes.ownedTupleHandOut (.ref z) (.ref m5.objs.size) >>=_) _ _ _ from AN ?_)
  unfold Builtin.SmallTypes.ownedTupleHandOut
  have z6:IsZip (m5.push {cls:=.type "tuple",data:=.seq #[f k,g k]}) z TI TO .ellipsis:=OF _ z5
  refine AN (ZeJ z6 (by simp) fun m7 z7 e7=> ?_)
  replace z7:IsZip m7 z TI TO (rawInt m5.objs.size):=z7
  refine ZeJ z7 (by simp) fun m8 z8 e8=> ?_
  replace z8:IsZip m8 z TI TO (rawInt m5.objs.size):=z8
  have up:∀c o,c≠z->m5.get? c=some o->m8.get? c=some o:=fun c o c1 e=>e8.extBut _ _ c1 (e7.extBut _ _ c1 (OF _ e))
  have t8:IsPair m8 m5.objs.size (f k) (g k):=e8.extBut _ _ (Ze8 Ck) (e7.extBut _ _ (Ze8 Ck) (Zax _ rfl))
  have s8:m8.objs.size=m5.objs.size+1:=by rw[e8.1,e7.1,Zdq]
  rw[sz]at z8 t8 s8
  refine Zak ⟨_,rfl,?_⟩
  show Q (.ref m5.objs.size) _
  rw[sz]
  refine q m8 z8 (up _ _ D.TOz o5) (U1.cb _ _ _ dr fun c hc o ho=> ?_) (U2.cb _ _ _ w5 fun c hc o ho=> ?_) t8 s8 fun c o c1 c2 c3 c4 e=>up c o c1 (kp c o c1 c2 c3 c4 e)
  · rcases hc with rfl |rfl<;>first |exact up _ _ D.i1z ho |exact up _ _ D.l1z ho
  · rcases hc with rfl |rfl<;>first |exact up _ _ D.i2z ho |exact up _ _ D.l2z ho
def T4 {Q:PySem.Fin->Shared->Prop}(hh:A.handled=none) (U1:Src prog w i1 l1 n f S1) (D:ZipApart z TI TO i1 i2 l1 l2) (hz:IsZip s.heap z TI TO .none) (hI:IsPair s.heap TI (.ref i1) (.ref i2)) (hO:IsPair s.heap TO a b) (h1:S1 n s.heap)
  (q:∀h' e,(∀c o,c≠z->c≠TO->c≠i1->c≠i2->s.heap.get? c=some o->h'.get? c=some o)->(∃o,h'.get? e=some o/\o.cls=.type "StopIteration")->E (.ref e) {s with heap:=h'}):
  wpAny (model prog w) A (Builtin.«zip.__next__» ⟨[.ref z],[]⟩) Q E s:=by
 refine(show wpAny _ _ (field (.ref z) 2 >>=_) _ _ _ from AN (ZbR hz rfl (x:=.bool false) rfl ?_))
 refine(show wpAny _ _ (field (.ref z) 3 >>=_) _ _ _ from AN (ZbR hz rfl (x:=.ref TI) rfl (AN (Zb5 hI rfl ?_))))
 refine(show wpAny _ _ (Builtin.SmallTypes.ownedTupleIsFree (.ref z) >>=_) _ _ _ from AN ?_)
 unfold Builtin.SmallTypes.ownedTupleIsFree
 refine AN (ZbR hz rfl (x:=.none) rfl (Zak ?_))
 simp only[ZeL]
 refine AN (ZdA (AN (ZbR hz rfl (x:=.ref TO) rfl (AN (ZeJ hz (by simp) fun m1 mT e1=> ?_)))))
 replace mT:IsZip m1 z TI TO .ellipsis:=mT
 have b1:=e1.extBut
 refine AN ?_
 simp only[Zgv,List.zipIdx_nil,ZgF,List.forIn_nil]
 refine AN (AN (Zg8 ?_))
 have av:S1 n m1:=U1.cb _ _ _ h1 fun c hc o ho=>by rcases hc with rfl |rfl<;>first |exact b1 _ _ D.i1z ho |exact b1 _ _ D.l1z ho
 refine(show wpAny _ _ (Builtin.SmallTypes.nextOf (.ref i1) >>=_) _ _ _ from AN (U1.stop _ _ _ _ hh av fun m2 e e2 he=> ?_))
 obtain⟨oe,ge,ce⟩:=he
 have z2:IsZip m2 z TI TO .ellipsis:=e2 _ _ D.i1z.symm mT
 have NC:e≠z:=fun y=>by subst y;rw[z2]at ge;cases ge;simp at ce
 refine ZeJ z2 (by simp) fun m3 _ e3=>q m3 e (fun c o c1 _ c3 _ x=>e3.extBut _ _ c1 (e2 _ _ c3 (b1 _ _ c1 x))) ⟨oe,e3.extBut _ _ NC ge,ce⟩
end
section
variable {prog:Program}{w:World}{A:Around}{z TI TO i1 i2 l1 l2:Addr}{n:Nat}{f g:Nat->Value}{S1 S2:Nat->Heap->Prop}
def IB (hh:A.handled=none) (U1:Src prog w i1 l1 n f S1) (U2:Src prog w i2 l2 n g S2) (D:ZipApart z TI TO i1 i2 l1 l2):
  WalksT prog w A z [z,TI,TO,i1,i2,l1,l2] [z,TO,i1,i2] n (fun k vals=>vals= #[f k,g k])
   (fun k h=>IsZip h z TI TO .none/\IsPair h TI (.ref i1) (.ref i2)/\(∃a b,IsPair h TO a b)/\S1 k h/\S2 k h)
   (fun k T h=>IsZip h z TI TO (rawInt T)/\IsPair h TI (.ref i1) (.ref i2)/\(∃a b,IsPair h TO a b)/\S1 (k+1) h/\S2 (k+1) h/\T∉[z,TO,i1,i2]) where
 sub:=fun c hc=>by
  simp only[Zao,Zbk,Zca]at hc |-
  rcases hc with rfl |rfl |rfl |rfl<;>simp
 frame:=fun k h h' ⟨a1,a2,⟨a,b,a3⟩,a4,a5⟩ kp=> ⟨kp z (by simp) _ a1,kp TI (by simp) _ a2,⟨a,b,kp TO (by simp) _ a3⟩,U1.cb _ _ _ a4 fun c hc o=>kp c (by rcases hc with rfl |rfl<;>simp) o,U2.cb _ _ _ a5 fun c hc o=>kp c (by rcases hc with rfl |rfl<;>simp) o⟩
 item:=fun k s Q E hk ⟨a1,a2,⟨a,b,a3⟩,a4,a5⟩ q=>by
  have ty:s.TypeIs (.ref z) "zip" :=⟨_,a1,rfl⟩
  have ne:∀{c o},s.heap.get? c=some o->s.heap.objs.size≠c:=fun e=>Ze8 (Zar e)
  obtain⟨o1,g1⟩:=U1.here _ _ a4
  obtain⟨o2,g2⟩:=U2.here _ _ a5
  unfold pyNext
  refine AN (Zgj (Zb7 (name:=Str.ofString "__next__") ty ZfR (Zdr ZfR ty F.entry_zip_next (VP U1 U2 D hk a1 a2 a3 a4 a5 fun h' c1 c2 c3 c4 c5 c6 c7=>Zak ?_) (F.args_zip_next_1 _))))
  refine q s.heap.objs.size #[f k,g k] h' s.toks rfl (Zae _) ⟨_,c5,rfl,_,rfl⟩ ⟨c1,c7 _ _ D.TIz D.TITO D.TIi1 D.TIi2 a2,⟨_,_,c2⟩,c3,c4,fun m=> ?_⟩ fun c o hc e=>c7 c o (fun x=>hc (by simp[x])) (fun x=>hc (by simp[x])) (fun x=>hc (by simp[x])) (fun x=>hc (by simp[x])) e
  simp only[Zao,Zbk,Zca]at m
  rcases m with m |m |m |m
  ·exact ne a1 m
  ·exact ne a3 m
  ·exact ne g1 m
  ·exact ne g2 m
 go:=fun elts kk pos k T s Q E ⟨a1,a2,⟨a,b,a3⟩,a4,a5,_⟩ q=>wpAny_letOwnedTupleGo_zip a1 fun h' z' s'=>by
  have ex:=s'.extBut
  refine q h' ⟨z',ex _ _ D.TIz a2,⟨a,b,ex _ _ D.TOz a3⟩,U1.cb _ _ _ a4 fun c hc o ho=> ?_,U2.cb _ _ _ a5 fun c hc o ho=> ?_⟩ fun c o hc e=>ex _ _ (fun x=>hc (by simp[x])) e
  ·rcases hc with rfl |rfl<;>first |exact ex _ _ D.i1z ho |exact ex _ _ D.l1z ho
  ·rcases hc with rfl |rfl<;>first |exact ex _ _ D.i2z ho |exact ex _ _ D.l2z ho
 apart:=fun k T h ⟨_,_,_,_,_,t⟩=>t
 done:=fun s Q E ⟨a1,a2,⟨a,b,a3⟩,a4,a5⟩ q=>by
  have ty:s.TypeIs (.ref z) "zip" :=⟨_,a1,rfl⟩
  unfold pyNext
  refine AN (Zgj (Zb7 (name:=Str.ofString "__next__") ty ZfR (Zdr ZfR ty F.entry_zip_next (T4 hh U1 D a1 a2 a3 a4 fun h' e kp he=> ?_) (F.args_zip_next_1 _))))
  obtain⟨o,ho,hc⟩:=he
  refine AN (wpAny_isInstance (T:= "StopIteration") (b:=true) ⟨o,ho,hc⟩ isSubtype_stop (Zak (q _ s.toks fun c o hc e=> ?_)))
  exact kp c o (fun x=>hc (by simp[x])) (fun x=>hc (by simp[x])) (fun x=>hc (by simp[x])) (fun x=>hc (by simp[x])) e
 self:=fun k s Q E st q=>Ze0 st.1 q
end
abbrev uk (h:Heap) (l1:Addr):Heap:=h.push {cls:=.type "tuple_iterator",data:=.fields #[.ref l1,.int 0 0]}
abbrev uj (h:Heap) (l1 l2:Addr):Heap:=(uk h l1).push {cls:=.type "tuple_iterator",data:=.fields #[.ref l2,.int 0 0]}
abbrev ui (h:Heap) (l1 l2:Addr):Heap:=(uj h l1 l2).push {cls:=.type "tuple",data:=.seq #[.ref h.objs.size,.ref (uk h l1).objs.size]}
abbrev uh (h:Heap) (l1 l2:Addr):Heap:=(ui h l1 l2).push {cls:=.type "tuple",data:=.seq #[.none,.none]}
abbrev o7 (h:Heap) (l1 l2:Addr):Heap:=(uh h l1 l2).push {cls:=.type "zip",data:=.fields #[.none,.bool false,.bool false,.ref (uj h l1 l2).objs.size,.ref (ui h l1 l2).objs.size]}
def Zbd {h:Heap}(t:IsTup h l xs) (o:Obj):IsTup (h.push o) l xs:=let ⟨u,hu,r⟩:=t;⟨u,OF _ hu,r⟩
def T5 (l1 l2:Addr) (xs ys:Array Value):Meets (Builtin.«zip.__new__» ⟨[.type "zip",.ref l1,.ref l2],[]⟩) (fun _ R s=>IsTup s.heap l1 xs/\IsTup s.heap l2 ys/\R (.ok (.ret (.ref (uh s.heap l1 l2).objs.size))) {s with heap:=o7 s.heap l1 l2}):=
 .of_wp fun prog w A R s h=>by
  obtain⟨hp,gg,d,tk,os⟩:=s
  obtain⟨t1,t2,h⟩:=h
  have mf:=sub_zip
  have T1:IsTup (Shared.heap ⟨hp,gg,d,tk,os⟩) l1 xs:=t1
  have T2:IsTup (Shared.heap ⟨hp.push {cls:=.type "tuple_iterator",data:=.fields #[.ref l1,.int 0 0]},gg,d,tk,os⟩) l2 ys:=Zbd t2 _
  wp_walk using iter_tuple T1,iter_tuple T2
  exact⟨_,rfl,h⟩
def Xr {prog:Program}{w:World}{A:Around}{E:Value->Shared->Prop}{s:Shared}(t1:IsTup s.heap l1 xs) (t2:IsTup s.heap l2 ys)
    (q:∀h',IsZip h' (s.heap.objs.size+4) (s.heap.objs.size+2) (s.heap.objs.size+3) .none->IsPair h' (s.heap.objs.size+2) (.ref s.heap.objs.size) (.ref (s.heap.objs.size+1))->IsPair h' (s.heap.objs.size+3) .none .none->
      IsTupIter h' s.heap.objs.size l1 0->IsTupIter h' (s.heap.objs.size+1) l2 0->(∀c o,s.heap.get? c=some o->h'.get? c=some o)->Q (.ref (s.heap.objs.size+4)) {s with heap:=h'}):
    wpAny (model prog w) A (call (.type "zip") [.ref l1,.ref l2]) Q E s:=by
  refine callType_new F.called_zip .d (F.typeCall_zip_2 _ _) (F.newCall_zip_2 _ _) (fun obj=>F.args_object_init_3 obj _ _) F.entry_zip_new (T5 l1 l2 xs ys) ⟨t1,t2,?_⟩
  have y1:(uk s.heap l1).objs.size=s.heap.objs.size+1:=Zdq ..
  have y2:(uj s.heap l1 l2).objs.size=s.heap.objs.size+2:=by rw[Zdq,y1]
  have y3:(ui s.heap l1 l2).objs.size=s.heap.objs.size+3:=by rw[Zdq,y2]
  have y4:(uh s.heap l1 l2).objs.size=s.heap.objs.size+4:=by rw[Zdq,y3]
  have p:∀{h:Heap}{c:Addr}{o u:Obj},h.get? c=some o->(h.push u).get? c=some o:=fun e=>OF _ e
  have x5:(o7 s.heap l1 l2).get? (uh s.heap l1 l2).objs.size=some _:=Zax _ rfl
  have x4:(o7 s.heap l1 l2).get? (ui s.heap l1 l2).objs.size=some _:=p (Zax _ rfl)
  have x3:(o7 s.heap l1 l2).get? (uj s.heap l1 l2).objs.size=some _:=p (p (Zax _ rfl))
  have x2:(o7 s.heap l1 l2).get? (uk s.heap l1).objs.size=some _:=p (p (p (Zax _ rfl)))
  have x1:(o7 s.heap l1 l2).get? s.heap.objs.size=some _:=p (p (p (p (Zax _ rfl))))
  show _/\_
  rw[y2,y3,y4]at x5
  rw[y1,y2]at x3
  rw[y3]at x4
  rw[y1]at x2
  rw[y4]
  exact⟨⟨_,x5,rfl⟩,q _ x5 x3 x4 ⟨_,x1,rfl,rfl⟩ ⟨_,x2,rfl,rfl⟩ fun c o x=>p (p (p (p (p x))))⟩
def BU (K:Zht) (l1 l2:Addr):It:=
 ⟨fun i H=> ∃xs ys x y,ah K H l1 xs/\ah K H l2 ys/\xs.length=ys.length/\xs[i]? =some x/\ys[i]? =some y,
  fun i H v H'=> ∃(T:Addr) (x y:V),v=.ref T/\H T=none/\H'=upd H T (.par [x,y])/\∀xs ys,ah K H l1 xs->ah K H l2 ys->xs[i]? =some x/\ys[i]? =some y,
  fun i H=> ∃xs ys,ah K H l1 xs/\ah K H l2 ys/\xs.length=i/\ys.length=i⟩
def Zci {P:Program}{w:World}{K:Zht}{elts:List Expr}{kk:Nat}{pos:Pos}(z TI TO i1 i2 l1 l2:Addr) (D:ZipApart z TI TO i1 i2 l1 l2):
  Turn P w K (.Tuple elts kk pos) (BU K l1 l2) [z,TI,TO,i1,i2] z (fun i h=>IsZip h z TI TO .none/\IsPair h TI (.ref i1) (.ref i2)/\(∃a b,IsPair h TO a b)/\IsTupIter h i1 l1 i/\IsTupIter h i2 l2 i) where
 mem:=by simp
 obj:=fun i h st b hb=>by
  obtain⟨a1,a2,⟨u,v,a3⟩,⟨o4,h4,_,d4⟩,⟨o5,h5,_,d5⟩⟩:=st
  simp only[Zao,Zbk,Zca]at hb
  rcases hb with rfl |rfl |rfl |rfl |rfl
  ·exact⟨_,a1,fun v z=>by cases z⟩
  ·exact⟨_,a2,fun v z=>by cases z⟩
  ·exact⟨_,a3,fun v z=>by cases z⟩
  ·exact⟨_,h4,fun v z=>by rw[d4]at z;cases z⟩
  ·exact⟨_,h5,fun v z=>by rw[d5]at z;cases z⟩
 keep:=fun i h h' st k=>by
  obtain⟨a1,a2,⟨u,v,a3⟩,a4,a5⟩:=st
  exact⟨k z (by simp) _ a1,k TI (by simp) _ a2,⟨u,v,k TO (by simp) _ a3⟩,(let ⟨o,ho,r⟩:=a4;⟨o,k i1 (by simp) o ho,r⟩),let ⟨o,ho,r⟩:=a5;⟨o,k i2 (by simp) o ho,r⟩⟩
 item:=by
  intro X hP hw hK hc i pins s σ H E I hf st hg
  subst hP hw hK
  obtain⟨xs,ys,x,y,fX,cw,qp,hx,hy⟩:=hg
  obtain⟨fw,jH,eQ,cq⟩:=I.tuple fX
  obtain⟨fV,fT,dH,aI⟩:=I.tuple cw
  obtain⟨u,hu,ru⟩:=jH.get hx
  obtain⟨v,hv,rv⟩:=fT.get hy
  have Ah:fV.toArray.size=fw.toArray.size:=by
   have e1:=jH.length
   have e2:=fT.length
   simp only[Zan]
   omega
  have om:i<fw.toArray.size:=by
   have e1:=(Zab.mp hu).1
   simp only[Zan]
   omega
  have U2:=Ja X.prog X.w fV.toArray D.l2i2
  rw[Ah]at U2
  have W:=IB (A:=X.A) (I.ok.hd hc) (Ja X.prog X.w fw.toArray D.l1i1) U2 D
  obtain⟨a1,a2,a3,a4,a5⟩:=st
  refine W.item i s _ _ om ⟨a1,a2,a3,⟨a4,eQ⟩,⟨a5,dH⟩⟩ fun T vals h' tk hP fP ow jf hk=> ⟨_,rfl,W.go elts kk pos i T _ _ _ jf fun dj dQ fF=> ?_⟩
  have kI:fw.toArray.getD i .none=u:=by simp[ZbL,hu]
  have bo:fV.toArray.getD i .none=v:=by simp[ZbL,hv]
  rw[kI,bo]at hP
  subst hP
  have jn:H T=none:=I.ai.fresh fP
  have both:∀b o,b∉[z,TO,i1,i2]->s.heap.get? b=some o->dj.get? b=some o:=fun b o hb q=>fF b o hb (hk b o hb q)
  have sub:∀b,b∉[z,TI,TO,i1,i2]->b∉[z,TO,i1,i2]:=fun b hb hm=>hb (by
   simp only[Zao,Zbk,Zca]at hm |-
   rcases hm with h |h |h |h
   ·exact .inl h
   ·exact .inr (.inr (.inl h))
   ·exact .inr (.inr (.inr (.inl h)))
   ·exact .inr (.inr (.inr (.inr h))))
  have kO:T∉[z,TO,i1,i2]:=W.apart _ _ _ jf
  have oz:dj.IsTuple T #[u,v]:=ow.at fun o q=>fF T o kO q
  have neT:∀b o,s.heap.get? b=some o->b≠T:=fun b o q=>ZaO (ZaE (Zar q) fP)
  have dw:∀b o,H b=some o->b≠T:=fun b o q=>Zi q jn
  have cF:∀b o,H b=some o->b∉[z,TI,TO,i1,i2]:=fun b o q hm=>by
   have:=(hf b hm).1
   rw[this]at q;cases q
  refine⟨.ref T,upd H T (.par [x,y]),?_,rfl,⟨T,x,y,rfl,jn,rfl,fun as bs ha hb=>by rw[I.uv ha fX,I.uv hb cw];exact⟨hx,hy⟩⟩,⟨dQ.1,dQ.2.1,dQ.2.2.1,dQ.2.2.2.1.1,dQ.2.2.2.2.1⟩,fun b hb=> ?_⟩
  ·refine(show Inv X pins σ (upd H T (.par [x,y])) {s with heap:=dj,toks:=tk} from ?_)
   refine I.call (g':=s.gens) (d':=s.drawn) (t':=tk) (h':=dj) (ch:=[z,TI,TO,i1,i2]) ⟨fun b o q _ _ hx=>both b o (sub b hx) q,fun b o q _ _ hx=> ⟨o.slots,both b o (sub b hx) q⟩,fun b o q n hx=>by rw[Zg (neT b o q)];exact n,fun b o q hx=> ⟨o,both b o (sub b hx) q⟩,
    fun b ys q=>by rw[Zg (dw b _ q)];exact q,fun b o u q=>by rw[Zg (dw b _ q)];exact q,fun b ps q=> ⟨#[],by rw[Zg (dw b _ q),q];simp⟩⟩ (fun b o q=> ?_) I.bare fun b hb=> ?_
   ·by_cases hb:b=T
    ·subst hb
     rw[Ze]at q
     cases q
     exact⟨aZ,[u,v],.cons ru (.cons rv .nil),oz⟩
    ·rw[Zg hb]at q
     refine(I.ai b o q).cb (fun c ob bH q'=>both c ob ?_ q') (fun c q'=>by rw[Zg (dw c _ q')];exact q') fun c ys q'=>by rw[Zg (dw c _ q')];exact q'
     rcases bH with z' |z'
     ·rw[z'];exact sub _ (cF b o q)
     ·exact sub _ (cF c _ z')
   ·obtain⟨f0,f1,f2,f3,f4,f5⟩:=hf b hb
    exact⟨f3,f1,f4,f5⟩
  ·have cG:b≠T:=by
    obtain⟨f0,_⟩:=hf b hb
    have:∃o,s.heap.get? b=some o:=by
     obtain⟨u',v',Bw⟩:=a3
     obtain⟨o4,h4,_⟩:=a4
     obtain⟨o5,h5,_⟩:=a5
     simp only[Zao,Zbk,Zca]at hb
     rcases hb with rfl |rfl |rfl |rfl |rfl
     ·exact⟨_,a1⟩
     ·exact⟨_,a2⟩
     ·exact⟨_,Bw⟩
     ·exact⟨_,h4⟩
     ·exact⟨_,h5⟩
    obtain⟨o,ho⟩:=this
    exact neT b o ho
   rw[Zg cG]
   exact(hf b hb).1
 done:=by
  intro X hP hw hK hc i pins s σ H E I hf st hg
  subst hP hw hK
  obtain⟨xs,ys,fX,cw,hx,hy⟩:=hg
  obtain⟨fw,jH,eQ,cq⟩:=I.tuple fX
  obtain⟨fV,fT,dH,aI⟩:=I.tuple cw
  have e1:=jH.length
  have e2:=fT.length
  have Ah:fV.toArray.size=fw.toArray.size:=by simp only[Zan];omega
  have U2:=Ja X.prog X.w fV.toArray D.l2i2
  rw[Ah]at U2
  have W:=IB (A:=X.A) (I.ok.hd hc) (Ja X.prog X.w fw.toArray D.l1i1) U2 D
  have hn:i=fw.toArray.size:=by simp only[Zan];omega
  obtain⟨a1,a2,a3,a4,a5⟩:=st
  rw[hn]at a4 a5
  have sub:∀b,b∉[z,TI,TO,i1,i2]->b∉[z,TO,i1,i2]:=fun b hb hm=>hb (by
   simp only[Zao,Zbk,Zca]at hm |-
   rcases hm with h |h |h |h
   ·exact .inl h
   ·exact .inr (.inr (.inl h))
   ·exact .inr (.inr (.inr (.inl h)))
   ·exact .inr (.inr (.inr (.inr h))))
  refine W.done s _ _ ⟨a1,a2,a3,⟨a4,eQ⟩,⟨a5,dH⟩⟩ fun h' tk hk=> ⟨rfl,?_⟩
  have cF:∀b o,H b=some o->b∉[z,TI,TO,i1,i2]:=fun b o q hm=>by
   have:=(hf b hm).1
   rw[this]at q;cases q
  refine I.call (g':=s.gens) (d':=s.drawn) (t':=tk) (h':=h') (ch:=[z,TI,TO,i1,i2]) ⟨fun b o q _ _ hx=>hk b o (sub b hx) q,fun b o q _ _ hx=> ⟨o.slots,hk b o (sub b hx) q⟩,fun b o q n hx=>n,fun b o q hx=> ⟨o,hk b o (sub b hx) q⟩,fun b ys q=>q,fun b o u q=>q,fun b ps q=> ⟨#[],by rw[q];simp⟩⟩ (fun b o q=> ?_) I.bare fun b hb=> ?_
  ·refine(I.ai b o q).cb (fun c ob bH q'=>hk c ob ?_ q') (fun _ q'=>q') fun _ _ q'=>q'
   rcases bH with z' |z'
   ·rw[z'];exact sub _ (cF b o q)
   ·exact sub _ (cF c _ z')
  ·obtain⟨f0,f1,f2,f3,f4,f5⟩:=hf b hb
   exact⟨f3,f1,f4,f5⟩
 self:=fun A i s Q E st h=>Ze0 st.1 h
section
variable {X:Cx}{elts:List Expr}{kk:Nat}{tp:Pos}
def Ox (K:Zht) (ta:TA):TI:=fun σ H R=>ta σ H fun vs H1=> ∃l1 l2,vs=[.ref l1,.ref l2]/\(∃xs ys,ah K H1 l1 xs/\ah K H1 l2 ys)/\R (BU K l1 l2) H1
def Xj {a b:Expr}{ta:TA}{p pos:Pos}(hg:Gl X "zip") (hm:X.mg "zip" =none) (ha:PA X [a,b] ta) (hs:starEach [a,b] X.env=[(false,eval a X.env),(false,eval b X.env)]:=by rfl) (mi:starEach [b] X.env=[(false,eval b X.env)]:=by rfl):
  PI X (.Tuple elts kk tp) (.Call (.Name "zip" p) [a,b] [] pos) (Ox X.K ta):=by
 intro pins s σ H R I h
 refine Call_ (YD I hg hm PyProof.Rows.Boot.«zip» (Zb2 (aq (ha pos pins s σ H _ I h) fun us s1 ⟨vs,H1,I1,r1,q1⟩=> ?_) (by rw[hs,mi]) (by rw[mi];rfl)))
 obtain⟨l1,l2,e,⟨xs,ys,fX,cw⟩,q⟩:=q1
 subst e
 obtain⟨u,v,rfl,ru,rv⟩:=vals2 r1
 cases ru
 cases rv
 obtain⟨fw,jH,eQ,cq⟩:=I1.tuple fX
 obtain⟨fV,fT,dH,aI⟩:=I1.tuple cw
 have t1:l1<s1.heap.objs.size:=by obtain⟨o,ho,_⟩:=id eQ;exact Zar ho
 have t2:l2<s1.heap.objs.size:=by obtain⟨o,ho,_⟩:=id dH;exact Zar ho
 have D:=Ui s1.heap.objs.size l1 l2 t1 t2
 refine Xr eQ dH fun h' b1 b2 b3 b4 b5 hk=>Ze0 b1 ?_
 have I2:Inv X pins σ H1 {s1 with heap:=h'} :=I1.kept (t':=s1.toks) hk
 refine⟨s1.heap.objs.size+4,[s1.heap.objs.size+4,s1.heap.objs.size+2,s1.heap.objs.size+3,s1.heap.objs.size,s1.heap.objs.size+1],_,_,H1,rfl,I2,
  Zci _ _ _ _ _ l1 l2 D,⟨b1,b2,⟨_,_,b3⟩,b4,b5⟩,fun b hb=> ?_,q⟩
 have jm:s1.heap.objs.size<=b:=by
  simp only[Zao,Zbk,Zca]at hb
  rcases hb with z |z |z |z |z<;>rw[z]<;>first |exact Zae _ |exact ZfB _ _
 exact I1.mE jm (I1.ai.fresh jm)
end
def ZcB {K:Zht}{l1 l2:Addr}{xs zs:List V}{g:TG}{tt:TT}{ti:TC}{ys:List V}{σ:St}{H:Hp}{Q:List V->St->Hp->Prop}(hlen:xs.length=zs.length) (Pv:Nat->List V->St->Hp->Prop) (h0:Pv 0 ys σ H)
  (hl:∀i ys σ H,i<=xs.length->Pv i ys σ H->ah K H l1 xs/\ah K H l2 zs)
  (hs:∀i x y T ys σ H,xs[i]? =some x->zs[i]? =some y->H T=none->Pv i ys σ H->g (.ref T) σ (upd H T (.par [x,y])) fun aV H2=>tt aV H2 fun b H3=>if b=true then ti ys aV H3 (Pv (i+1)) else Pv (i+1) ys aV H3)
  (hd:∀ys σ H,Pv xs.length ys σ H->Q ys σ H):iq g tt ti (BU K l1 l2) ys σ H Q:=by
 refine⟨fun i m ys σ H=>m=xs.length - i/\i<=xs.length/\Pv i ys σ H,⟨xs.length,by simp,Za2 _,h0⟩,?_⟩
 rintro i m ys σ H ⟨rfl,hi,p⟩
 obtain⟨q1,q2⟩:=hl i ys σ H hi p
 by_cases az:i<xs.length
 ·refine .inr ⟨⟨xs,zs,xs[i],zs[i]'(by omega),q1,q2,hlen,by simp[az],by simp[hlen▸az]⟩,Pv (i+1),fun cW aj H' p'=> ⟨xs.length - (i+1),.o,rfl,az,p'⟩,fun x H' y=> ?_⟩
  obtain⟨T,a,b,e1,e2,e3,e4⟩:=y
  subst e1 e3
  obtain⟨f1,f2⟩:=e4 xs zs q1 q2
  exact hs i a b T ys σ H f1 f2 e2 p
 ·have e:i=xs.length:=.o
  subst e
  exact .inl ⟨⟨xs,zs,q1,q2,rfl,hlen.symm⟩,hd ys σ H p⟩
end L2
namespace L2
open PySem PySem.Spec PyProof.Rows SeqAt
section
variable {X:Cx}
def YM :dW X (.builtin "isinstance") (fun xs H Q=> ∃(x:V) (t:Addr) (T:Value) (r:Bool),xs=[x,.ref t]/\ah X.K H t [.ty a,.ty b]/\((∃i,x=.int i/\T=.type "int")∨(x=.af/\T=.type "NoneType")∨(∃l ys,x=.ref l/\H l=some (.lst ys)/\T=.type "list")∨∃l ys,x=.ref l/\H l=some (.tup ys)/\T=.type "tuple")/\
  PySem.W.kitAny X.K T [.type a,.type b]=some r/\Q (.bl r) H):=by
 intro pins s σ H xs us Q I rv h
 obtain⟨x,t,T,r,rfl,hq,hx,hk,q⟩:=h
 obtain⟨u,v,rfl,ru,rv⟩:=vals2 rv
 cases rv
 obtain⟨its,rt,pl,hz⟩:=I.tuple hq
 cases rt with
 |cons r1 r2=>
  cases r2 with
  |cons r3 r4=>
   cases r4
   cases r1
   cases r3
   obtain⟨o,ho,hc,n,hd⟩:=id pl
   obtain⟨cls,dd,dt,sl⟩:=o
   replace hc:cls=.type "tuple" :=hc
   replace hd:dt=.seq [Value.type a,Value.type b].toArray n:=hd
   subst hc hd
   rcases hx with ⟨i,rfl,rfl⟩ |⟨rfl,rfl⟩ |⟨l,ys,rfl,hl,rfl⟩ |⟨l,ys,rfl,hl,rfl⟩
   ·obtain⟨tk,rfl⟩:=ru
    exact ZeO Zgq I.cD True.intro ho hk (fun z=>nomatch z) fun tk=> ⟨.bl r,H,I.tok _,rfl,q⟩
   ·cases ru
    exact ZeO Zhj I.cD True.intro ho hk (fun z=>nomatch z) fun tk=> ⟨.bl r,H,I.tok _,rfl,q⟩
   ·cases ru
    obtain⟨_,_,n,_,h1⟩:=(show bw X.prog X.w H s.heap l (.lst ys) from I.ai l _ hl)
    exact ZeO Zfp I.cD ⟨_,h1,rfl⟩ ho hk (fun z=>nomatch z) fun tk=> ⟨.bl r,H,I.tok _,rfl,q⟩
   ·cases ru
    obtain⟨_,_,_,p,_⟩:=(show bw X.prog X.w H s.heap l (.tup ys) from I.ai l _ hl)
    obtain⟨o,h1,h2,_⟩:=p
    exact ZeO Zg4 I.cD ⟨o,h1,h2⟩ ho hk (fun z=>nomatch z) fun tk=> ⟨.bl r,H,I.tok _,rfl,q⟩
def HN (hu:X.A.units<cLine):bu X (compareOp .Eq) (fun x y H Q=> ∃(a b:Addr) (ns ms:List Int),x=.ref a/\y=.ref b/\ah X.K H a (ns.map V.int)/\ah X.K H b (ms.map V.int)/\Q (.bl (decide (ns=ms))) H):=by
 intro pins s σ H x y u v Q I rx ry h
 obtain⟨a,b,ns,ms,rfl,rfl,ha,hb,q⟩:=h
 cases rx
 cases ry
 obtain⟨us,r1,p1,_⟩:=I.tuple ha
 obtain⟨vs,r2,p2,_⟩:=I.tuple hb
 have l1:=r1.length
 have l2:=r2.length
 rw[Zat]at l1 l2
 refine eq_tupleAt (e:=fun j=>ns.getD j 0==ms.getD j 0) p1 p2 hu (fun j h1 h2=> ?_) ?_
 ·obtain⟨t1,e1⟩:=Jf r1 j (by simpa using h1)
  obtain⟨t2,e2⟩:=Jf r2 j (by simpa using h2)
  rw[show us.toArray[j]=us[j]'(by simpa using h1) by simp,show vs.toArray[j]=vs[j]'(by simpa using h2) by simp,e1,e2]
  exact ZdH _ _ _ _
 ·have e:((List.range (min us.toArray.size vs.toArray.size)).all (fun j=>ns.getD j 0==ms.getD j 0)&&us.toArray.size==vs.toArray.size)=decide (ns=ms):=by
   rw[ZdX,ZaR,Zbj,Zb4,Zaj,Zan,Zan]
   constructor
   ·rintro⟨h,hl⟩
    refine ZfA .o fun i h1 h2=> ?_
    have:=h i (by rw[Zbt];omega)
    simpa[h1,h2] using this
   ·rintro rfl
    exact⟨fun j _=>by simp,.o⟩
  rw[e]
  exact⟨.bl _,H,I,rfl,q⟩
end
structure Cells (base:Heap) (scope:Scope) (cl:List (Str×Addr)) (N:List Str) (vs:List V):Prop where
 len:vs.length=N.length
 only:∀z,scope.names.lookup z=some .cell∨scope.names.lookup z=some .free->z∈N
 at_:∀(i:Nat) x v,N[i]? =some x->vs[i]? =some v->scope.names.lookup x=some .free/\∃c u,cl.lookup x=some c/\base.IsCell c (some u)/\RelV v u
 mem:∀z c,cl.lookup z=some c->z∈N
 inj:∀x y c,cl.lookup x=some c->cl.lookup y=some c->x=y
def HA {P:Program}{w:World}{K:Zht}{mg:Str->Option Value}{base:Heap}{f:Addr}{q:Str}{params:Arguments}{body:Expr}{scope:Scope}{cl:List (Str×Addr)}{pm:Value}{c:Addr}{ct:Value}{k:Nat}{N:List Str}{ws:List V}{sp:Sp}
    (T:Cells base scope cl N ws) (hk:scope.kind=.function) (Qn:scope.isCoroutine=false) (P5:scope.isGenerator=false) (mD:∀z∈scope.names,z.2≠.cell)
    (eG:∀vs H Q E,sp vs H Q E->vs=[]/\H f=some (nH f q params body scope cl pm c ct)/\H c=some (ig c q))
    (hb:∀(A:Around) (outer:List Env) (s:Shared) (H:Hp) (Q:VK) (E:XK),bW k (A.deeper (PySem.W.envX q scope s.heap.objs.size f (.ref c) cl))->sp [] H Q E->
      ∃t,PE (gz P w K mg base N q scope f (.ref c) cl A outer s H E) body t/\t (ws.map some) H Q):
    aA P w K mg base (aC P w) (k+1) f (PySem.W.kla_fn "<lambda>" q params body scope cl pm (.ref c) ct) [] sp:=by
  refine⟨fun vs H Q E h=>by rw[(eG vs H Q E h).1];rfl,fun A outer s H args us vs Q E hr e0 AS rv h=> ?_⟩
  obtain⟨rfl,hf,hc⟩:=eG _ _ _ _ h
  have of:s.heap.get? f=some (PySem.W.kla_obj "<lambda>" q params body scope cl pm c ct):=(e0.ai f _ hf).1
  have oc:s.heap.CodeRec (.ref c) q:=(e0.ai c _ hc).1
  have lim:s.heap.NoLimit:=e0.mod.nolimit.keeps fun b o e=> (e0.bs b o e).1
  refine PySem.W.kla_callFunE hr.depth of rfl Qn P5 rfl oc (AS _ _ _ _ ?_)
  refine ZfI mD (fun z hz=>by cases rv;exact absurd hz (by simp)) (fun h1 sG O7=> ?_) hk
  have k1:∀b o,s.heap.get? b=some o->h1.get? b=some o:=fun b o e=>O7.extBut b o (ZaO (Zar e)) (OF _ e)
  refine⟨lim.keeps k1,?_⟩
  show codeAny _ A (.expr body (PySem.W.envX q scope s.heap.objs.size f (.ref c) cl)) _ _
  obtain⟨t,ht,hq⟩:=hb A outer s H Q E (hr.deeper _) h
  have Bm:∀{a:Addr}{v:Option Value},base.IsCell a v->h1.IsCell a v/\H a=none:=fun {a v} ⟨o,ho,hd⟩=> ⟨⟨o,k1 _ _ (e0.bs _ _ ho).1,hd⟩,(e0.bs _ _ ho).2⟩
  have Gw:∀z,z∈N->∃c u,cl.lookup z=some c/\base.IsCell c (some u):=fun z hz=>by
    obtain⟨i,hi,e⟩:=Zdb hz
    have bg:i<ws.length:=by rw[T.len];exact hi
    obtain⟨_,c,u,h1,h2,_⟩:=T.at_ i z ws[i] (by rw[<-e];exact Zal hi) (Zal bg)
    exact⟨c,u,h1,h2⟩
  have cells:∀z a,cl.lookup z=some a->∃v,base.IsCell a v:=fun z a hz=>by
    obtain⟨c,u,h1,h2⟩:=Gw z (T.mem z a hz)
    rw[hz]at h1;cases h1;exact⟨_,h2⟩
  have I:Inv (gz P w K mg base N q scope f (.ref c) cl A outer s H E) [] (ws.map some) H {s with heap:=h1,toks:=s.toks+(([]:List Str).zip us).length} :=by
    refine⟨⟨e0.mod,hk,rfl,rfl,Zae _,fun a b cc h2 h3=> ?_,fun a ha=> ?_,fun a cc hn=>Bool.noConfusion hn,fun _=>hr.hd,Around.frames_deeper e0.frames,.inr ⟨rfl,rfl⟩,fun b z=>absurd (show b∈([]:List Addr) from z) (by simp),e0.bs,e0.jy,fun b _ _ z=>absurd (show b∈([]:List Addr) from z) (by simp),fun b z=>absurd (show b∈([]:List Addr) from z) (by simp),e0.eI,e0.gL⟩,
      rfl,e0.bare,Un.kept k1,⟨_,sG,fun i z v h2 h3 h4=> ?_⟩,fun z a hz=> ?_,e0.ai.fresh (Zae _),fun z a hz=> ?_,fun p hp=>absurd (show p∈([]:List (Addr×Obj)) from hp) (by simp),e0.ai.kept k1,(by rw[Zat];exact T.len)⟩
    · have h2:cl.lookup a=some cc:=h2
      have h3:cl.lookup b=some cc:=h3
      exact T.inj _ _ _ h2 h3
    · obtain⟨c,_,h1,_⟩:=Gw a (T.only a ha)
      exact⟨c,h1⟩
    · have Fs:(ws.map some)[i]? =some (some v):=h3
      rw[ZbG]at Fs
      obtain⟨v',e',Sm⟩:=Zbs.mp Fs
      cases Sm
      obtain⟨kx,c,u,h5,h6,h7⟩:=T.at_ i z v h2 e'
      exact⟨u,h7,.inr ⟨.inr kx,c,h5,(Bm h6).1⟩⟩
    · obtain⟨v,b⟩:=cells z a hz
      exact⟨v,(Bm b).1⟩
    · obtain⟨v,b⟩:=cells z a hz
      exact(Bm b).2
  refine PySem.W.kla_codeExpr (Zbu (ht [] _ _ H _ I hq) (fun u s' hs=> ?_) fun e s' hs=>hs)
  obtain⟨v,H',J,r,z⟩:=hs
  exact⟨v,H',J.os,J.bare,J.base,J.ai,r,z⟩
end L2
namespace L2
open PySem PySem.Spec PyProof.Rows
section
variable {prog:Program}{w:World}{A:Around}{E:Value->Shared->Prop}{s:Shared}
def JM {t sl:Addr}{items:Array Value}{vl vu:Value}{lo hi:Option Int}{Q:Value->Shared->Prop}(ht:IsTup s.heap t items) (hs:s.heap.IsSliceOf sl vl vu .none) (pl:IsPart vl lo) (pu:IsPart vu hi)
  (hw:HT.aK items.size 0 lo=0/\HT.aK items.size items.size hi=items.size) (h:Q (.ref t) s):wpAny (model prog w) A (getItem (.ref t) (.ref sl)) Q E s:=by
 obtain⟨os,nY,wJ,sW⟩:=id hs
 have Kz:s.TypeIs (.ref sl) "slice" :=⟨os,nY,wJ⟩
 unfold getItem
 try with_reducible refine ZbT ?_
 first |refine AN (Zak ?_) |skip
 refine AN (wpAny_sequenceKey ht.typeIs .d (AN (Zb7 (name:=Str.ofString "__getitem__") ht.typeIs Zb3 (Zdr Zb3 ht.typeIs entry_tuple_getitem ?_ (args_tuple_getitem _ _)))))
 refine(show wpAny _ _ (Builtin.Tuple.tupleItemsOf (.ref t) >>=_) _ _ s from AN (tupleItemsOf_ ht (AN (Zfa Kz ?_))))
 rw[Zaq .d]
 refine AN (HT.CJ hs pl pu ?_)
 rw[hw.1,hw.2]
 refine(show wpAny _ _ (if ((((0:Nat):Int)==0&&(1:Int)==1&&(items.size - 0)==items.size)=true) then _ else _) _ _ s from ?_)
 rw[Zaq (by simp)]
 unfold Builtin.Tuple.tupleIsExact
 refine AN ?_
 wp_walk using wpAny_typeOf ht.typeIs
 exact⟨_,rfl,Zak h⟩
end
section
variable {X:Cx}
def zq (K:Zht):V->Option Int->Option Int->Hp->VK->Prop:=fun x lo hi H Q=> ∃a xs,x=.ref a/\H a=some (.tup xs)/\∀(c:Addr) H',ae H H'->H' c=some (.tup (dk xs lo hi))->Q (.ref c) H'
def JD:xw X (zq X.K):=by
 intro pins s σ H x v vl vu lo hi sl Q I rx hs pl pu h
 obtain⟨a,xs,rfl,ha,q⟩:=h
 have hx:ah X.K H a xs:=ah.of ha
 by_cases hw:HT.aK xs.length 0 lo=0/\HT.aK xs.length xs.length hi=xs.length
 ·cases rx
  obtain⟨its,r,ht,hz⟩:=I.tuple hx
  have hlen:its.toArray.size=xs.length:=by rw[Zan];exact r.length.symm
  refine⟨"tuple",_,Zb3.lookup,ht.typeIs,?_⟩
  refine JM ht hs pl pu (by rw[hlen];exact hw) ⟨.ref a,H,I,rfl,q a H (ae.refl _) ?_⟩
  rw[ha]
  unfold dk
  rw[hw.1,hw.2,ZeF,Zhr,Zb1]
 ·exact TX pins s σ H (.ref a) v vl vu lo hi sl Q I rx hs pl pu ⟨a,xs,rfl,hx,hw,fun p hp=>q p _ (fun b u hb=>by rw[Zg (Zi hb hp)];exact hb) Ze⟩
end
def ZcG:typeLookup (.type "list") "keys" =pure none:=by rw[typeLookup_type,builtinLookup_eq_fast];kernel_rfl
def UG:entryFor table "dict.update.loop" =some Builtin.«dict.update.loop» :=entryFor_of_tree (by kernel_rfl)
def Jc:plainId "dict.update.loop" =true:=by decide+kernel
section
variable {prog:Program}{w:World}{A:Around}{E:Value->Shared->Prop}{s:Shared}
def QX {o:Obj}
  (hx:s.heap.get? a=some o) (hc:o.cls=.type "list") (ET:o.data=.seq xs k) (hd:o.dict=none) (hA:A.handled=none)
  (h:∀h' tk e,Heap.NewExcOf s.heap h' e "AttributeError" ->Q none {s with heap:=h',toks:=tk}):
  wpAny (model prog w) A (getAttr? (.ref a) "keys") Q E s:=by
 obtain⟨c,hW,dat,sl⟩:=o
 simp only at hc ET hd
 subst hc ET hd
 obtain⟨hp,g,d,tk,os⟩:=s
 have hT:∀qX,(⟨hp,g,d,qX,os⟩:Shared).TypeIs (.ref a) "list" :=fun _=> ⟨_,hx,rfl⟩
 have f1:=sub_AttributeError
 have f3:=Zfc.lookup
 have f4:=Zfc.bind (.ref a)
 have f5:=am_list_getattr_none
 unfold getAttr? getAttrBy? getAttrBy
 repeat (any_goals (first |assumption |exact hT _ |((with_reducible show wpAny _ _ (call (Value.builtin "list.__getattribute__") _ _) _ _ _);refine Zd6 Zfc (hT _) am_entry_list_getattribute (F.args_list_getattribute_2 _ _) (meets_getattribute_miss_list a xs k sl "keys" _ ZcG .d .d) ⟨hx,hA,fun h' qX e jK=> ?_⟩) |wp_step))
 obtain⟨t',u',he⟩:=jK.there
 show wpAny _ _ (getattributeRaised _ _ _ _ _ _ _) _ _ _
 unfold getattributeRaised
 repeat (any_goals (first |assumption |wp_step))
 exact h _ _ _ jK.of
def oV (h:Heap) (b:Addr) (u v:Value):Prop:=∃o:Obj,h.get? b=some o/\o.cls=.type "tuple" /\∃n,o.data=.seq #[u,v] n
def Wh (hp:oV s.heap b u v) (h:Q [u,v] s):wpAny (model prog w) A (Builtin.Dict.pairItems (.ref b)) Q E s:=by
 obtain⟨o,ho,hc,n,hd⟩:=hp
 unfold Builtin.Dict.pairItems
 refine AN (Zfa (show s.TypeIs (.ref b) "tuple" from ⟨o,ho,hc⟩) ?_)
 rw[Zaq .d]
 refine AN (Zb5 ho hd ?_)
 exact Zak h
variable {K:Type} [DecidableEq K] {knd:KeyKind prog w K}
def oU (knd:KeyKind prog w K) (h:Heap) (d it:Addr) (us:List Value) (rs:List (K×Value)):Prop:=Paired (fun u (r:K×Value)=> ∃b k,u=.ref b/\b≠d/\b≠it/\oV h b k r.2/\knd.is r.1 k=true) us rs
def oU.keep {h h':Heap}(p:oU knd h d it us rs) (k:∀b o,b≠d->b≠it->h.get? b=some o->h'.get? b=some o):oU knd h' d it us rs:=by
 unfold oU at p |-
 induction p with
 |nil=>exact .nil
 |cons a _ ih=>
  obtain⟨b,kk,e,n1,n2,⟨o,ho,r⟩,z⟩:=a
  exact .cons ⟨b,kk,e,n1,n2,⟨o,k _ _ n1 n2 ho,r⟩,z⟩ ih
def IE {items:Array Value}(wI:d≠it) (sX:l≠d) (qq:l≠it) (hA:A.handled=none):
  ∀(us:List Value) (rs:List (K×Value)) (i:Nat) (z:Int) (t:Tok) (kvs:List (K×Value)) (s:Shared),items.toList.drop i=us->oU knd s.heap d it us rs->s.heap.IsListIter it l i->s.heap.IsList l items->s.heap.DictOf knd d kvs->kvs.length+rs.length<=sizeLine->
   (∀h' t',(∀b o,b≠d->b≠it->s.heap.get? b=some o->h'.get? b=some o)->h'.DictOf knd d (merged kvs rs)->R (.ok (.ret .none)) {s with heap:=h',toks:=t'})->
   codeAny (model prog w) A (.builtin "dict.update.loop" ⟨[.ref d,.ref it,.int z t,.none],[]⟩) R s
 | [],rs,i,z,t,kvs,s,hu,hp,hit,hl,hd,hz,hR=>by
  cases hp
  refine Zda UG ?_
  rw[ZbZ Jc _]
  show wpAny _ A.in1 (pyNext (.ref it) >>=_) _ _ s
  refine AN (wpAny_pyNext_list_end (A:=A.in1) hA hit hl ?_ fun h' eb=> ?_)
  ·have:items.toList.length<=i:=List.drop_eq_nil_iff.mp hu
   rw[Array.getElem?_eq_none_iff]
   simpa using this
  ·show wpAny _ A.in1 (Builtin.Dict.addKeywords d [] >>=_) _ _ _
   refine AN (Zak (Zak ?_))
   exact hR h' s.toks (fun b o _ h2 e=>eb b o h2 e) (hd.extBut eb wI)
 |u::us,rs,i,z,t,kvs,s,hu,hp,hit,hl,hd,hz,hR=>by
  cases hp with
  | @cons _ r _ C7 a ps=>
   obtain⟨b,k,rfl,nbd,NF,pr,hk⟩:=a
   have az:i<items.toList.length:=by
    apply Nat.lt_of_not_le
    intro h
    rw[ZbX h]at hu
    cases hu
   rw[Zdu az]at hu
   obtain⟨e1,e2⟩:=List.cons.inj hu
   refine Zda UG ?_
   rw[ZbZ Jc _]
   show wpAny _ A.in1 (pyNext (.ref it) >>=_) _ _ s
   refine AN (wpAny_pyNext_list_item hit hl (x:=.ref b) ?_ fun h' P1 sb=> ?_)
   ·rw[<-ZaS,Zal az,e1]
   have ME:oV h' b k r.2:=by
    obtain⟨o,ho,rest⟩:=pr
    exact⟨o,(sb.2 b NF).trans ho,rest⟩
   have PU:h'.IsList l items:=by
    obtain⟨o,ho,rest⟩:=hl
    exact⟨o,(sb.2 l qq).trans ho,rest⟩
   have jj:h'.DictOf knd d kvs:=by
    obtain⟨o,es,ep,ho,rest⟩:=hd
    exact⟨o,es,ep,(sb.2 d wI).trans ho,rest⟩
   show wpAny _ A.in1 (holding [Value.ref b] _ >>=_) _ _ _
   refine AN (ZbT ?_)
   refine AN (ZeX (Wh ME ?_))
   show wpAny _ A.in1 (holding [k,r.2] (dictSet d k r.2)) _ _ _
   refine ZbT ?_
   refine wpAny_dictSet_pairs (s:= {s with heap:=h'}) hk jj (fun h2 hd2 pK=> ?_) (by rw[ZbA]at hz;omega)
   refine Zak ⟨Zeg Jc _,?_⟩
   have kp:∀c o,c≠d->c≠it->s.heap.get? c=some o->h2.get? c=some o:=fun c o h1 iL e=> (pK.2 c h1).trans ((sb.2 c iL).trans e)
   refine IE wI sX qq hA us C7 (i+1) (z+1) 0 (stored kvs r.1 r.2) _ e2 ((show oU knd s.heap d it us C7 from ps).keep kp) ?_ ?_ hd2 ?_ ?_
   ·obtain⟨o,ho,rest⟩:=P1
    exact⟨o,(pK.2 it (ZdL wI)).trans ho,rest⟩
   ·obtain⟨o,ho,rest⟩:=PU
    exact⟨o,(pK.2 l sX).trans ho,rest⟩
   ·have:=stored_length_le kvs r.1 r.2
    rw[ZbA]at hz
    omega
   ·intro h3 t3 k3 d3
    exact hR h3 t3 (fun c o h1 iL e=>k3 c o h1 iL (kp c o h1 iL e)) d3
def WX {ob:Obj}{items:Array Value}{rs:List (K×Value)}(ho:s.heap.get? o=some ob) (dE:ob.cls=.type "list") (AJ:ob.dict=none) (sY:ob.data=.seq items n) (hA:A.handled=none)
  (hp:Paired (fun u (r:K×Value)=> ∃b k,u=.ref b/\oV s.heap b k r.2/\knd.is r.1 k=true) items.toList rs) (hz:rs.length<=sizeLine)
  (h:∀h' t',h'.DictOf knd s.heap.objs.size (merged [] rs)->(∀b o,s.heap.get? b=some o->h'.get? b=some o)->Q (.ref s.heap.objs.size) {s with heap:=h',toks:=t'}):
  wpAny (model prog w) A (call (.type "dict") [.ref o]) Q E s:=by
 refine callType_codes (Q₁:=fun obj aJ=>obj=.ref s.heap.objs.size/\aJ= {s with heap:=s.heap.push {cls:=.type "dict",data:=.dict #[]} }) PySem.F.kt_called_dict (PySem.F.kt_typeCall_dict_1 _) PySem.F.entry_dict_init (kt_code_dict_new _ ⟨rfl,rfl⟩) ?_
 rintro obj aJ ⟨rfl,rfl⟩
 have qo:(s.heap.push {cls:=.type "dict",data:=.dict #[]}).DictOf knd s.heap.objs.size []:=Heap.DictOf.new s.heap
 have qm:=OF {cls:=.type "dict",data:=.dict #[]} ho
 refine⟨qo.typeIs,PySem.F.args_dict_init_2 _ _,?_⟩
 unfold Builtin.«dict.__init__»
 refine AN ?_
 unfold Builtin.Dict.selfAndRest
 refine AN (wpAny_notOrdered_dict qo.typeIs ?_)
 show wpAny _ _ (pure (s.heap.objs.size,[Value.ref o])) _ _ _
 refine Zak ?_
 show wpAny _ _ (Builtin.Dict.updateFrom "dict.__init__" s.heap.objs.size (.ref o) [] .none) _ _ _
 unfold Builtin.Dict.updateFrom
 refine AN (Zfa (T:= "list") ⟨ob,qm,dE⟩ ?_)
 rw[Zaq .d]
 refine AN (QX qm dE sY AJ hA fun h2 t2 e2 x2=> ?_)
 rw[Zaq (by rfl)]
 refine AN (ZdA ?_)
 have gW:=x2.keeps _ _ qm
 refine AN (ZeR (items:=items) ⟨ob,gW,dE,n,sY⟩ ?_)
 have vK:s.heap.objs.size<h2.objs.size:=by
  obtain⟨od,_,_,Ao,_⟩:=id qo
  exact Zar (x2.keeps _ _ Ao)
 have vL:o<s.heap.objs.size:=Zar ho
 have kp:∀b u,s.heap.get? b=some u->(h2.push {cls:=.type "list_iterator",data:=.fields #[.ref o,.int 0 0]}).get? b=some u:=fun b u e=>OF _ (x2.keeps _ _ (OF _ e))
 refine Zak ⟨Zeg Jc _,?_⟩
 refine IE (A:=A.in1) (knd:=knd) (items:=items) (l:=o) (d:=s.heap.objs.size) (it:=h2.objs.size) (ZaO vK) (ZaO vL) (ZaO (Zfv vL vK)) hA items.toList rs 0 0 0 [] _ ZeF ?_ ?_ ?_ ?_ (by rw[Zdw];omega) ?_
 ·unfold oU
  have key:∀{us:List Value}{ts:List (K×Value)},Paired (fun u (r:K×Value)=> ∃b k,u=.ref b/\oV s.heap b k r.2/\knd.is r.1 k=true) us ts->Paired (fun u (r:K×Value)=> ∃b k,u=.ref b/\b≠s.heap.objs.size/\b≠h2.objs.size/\oV (h2.push {cls:=.type "list_iterator",data:=.fields #[.ref o,.int 0 0]}) b k r.2/\knd.is r.1 k=true) us ts:=by
   intro us ts p
   induction p with
   |nil=>exact .nil
   |cons a _ ih=>
    obtain⟨b,k,e,⟨q,hq,rest⟩,z⟩:=a
    have:=Zar hq
    exact .cons ⟨b,k,e,ZaO this,ZaO (Zfv this vK),⟨q,kp _ _ hq,rest⟩,z⟩ ih
  exact key hp
 ·exact⟨_,Zax _ rfl,rfl,rfl⟩
 ·exact⟨ob,OF _ gW,dE,n,sY⟩
 ·obtain⟨od,es,ep,Ao,rest⟩:=qo
  exact⟨od,es,ep,OF _ (x2.keeps _ _ Ao),rest⟩
 ·intro h3 t3 k3 d3
  refine⟨rfl,h h3 t3 d3 fun b u e=> ?_⟩
  have:=Zar e
  exact k3 b u (ZaO this) (ZaO (Zfv this vK)) (kp b u e)
end
section
variable {X:Cx}
abbrev IS (H:Hp):List V->List (Key×V)->Prop:=Paired fun y (kv:Key×V)=> ∃b,y=.ref b/\H b=some (.tup [kV kv.1,kv.2])
def Uh (hc:X.calm=true:=by rfl):dW X (.type "dict") (fun xs H Q=> ∃(p:Addr) (ys:List V) (kvs:List (Key×V)),xs=[.ref p]/\H p=some (.lst ys)/\IS H ys kvs/\kvs.length<=1000/\∀q,H q=none->Q (.ref q) (upd H q (.dK (nF [] kvs)))):=by
 intro pins s σ H xs us Q I r h
 obtain⟨p,ys,kvs,rfl,hp,pv,hz,q⟩:=h
 obtain⟨u,rfl,ru⟩:=ZfU r
 cases ru
 obtain⟨its,rv,⟨ob,n,ho,dE,AJ,sY⟩,_⟩:=I.list (ag.of hp)
 have key:∀{ys:List V}{kvs:List (Key×V)}{its:List Value},IS H ys kvs->Vals ys its->∃rs:List (Key×Value),KV kvs rs/\Paired (fun u (r:Key×Value)=> ∃b k,u=.ref b/\oV s.heap b k r.2/\(fv X.prog X.w).is r.1 k=true) its rs:=by
  intro ys kvs its pv
  induction pv generalizing its with
  |nil=>intro r;cases r;exact⟨[],.nil,.nil⟩
  | @cons y kv ys kvs a _ ih=>
   intro r
   cases r with
   | @cons _ u _ us ry rr=>
    obtain⟨rs,k1,k2⟩:=ih rr
    obtain⟨b,rfl,hb⟩:=a
    cases ry
    obtain⟨ps,pr,pt,_⟩:=I.tuple (ah.of hb)
    cases pr with
    | @cons _ pu _ pus r1 r2=>
     cases r2 with
     | @cons _ pw _ pws r3 r4=>
      cases r4
      obtain⟨o,ho,bH,m,jj⟩:=pt
      exact⟨(kv.1,pw)::rs,.cons ⟨rfl,r3⟩ k1,.cons ⟨b,pu,rfl,⟨o,ho,bH,m,jj⟩,xm r1⟩ k2⟩
 obtain⟨rs,k1,k2⟩:=key pv rv
 have lr:kvs.length=rs.length:=KV.length k1
 refine WX (knd:=fv X.prog X.w) (items:=its.toArray) ho dE AJ sY (I.ok.hd hc) (by simpa using k2) (by rw[ZaP];omega) fun h' t' dd kp=> ?_
 have bj:(nF [] kvs).length<=sizeLine:=by
  have h1:=Jo kvs []
  rw[Zdw]at h1
  rw[ZaP];omega
 exact⟨.ref s.heap.objs.size,_,I.laid (a:=s.heap.objs.size) (o:=.dK (nF [] kvs)) (t':=t') kp (Zae _) (GG bj (Ze1.mpr (ZdL (ZaO I.big))) (k1.merge .nil) dd),rfl,q _ I.fresh⟩
end
def JZ:fillsNumberSlot (.type "tuple") "mul" =pure false:=
 PySem.fillsNumberSlot_seq (id:= "tuple.__mul__") (r:=some (.builtin "tuple.__rmul__")) ZeI.lookup (by decide+kernel) Zgk.lookup (by decide+kernel)
def UT:seqRepeat? (.type "tuple")=pure (some (.builtin "tuple.__mul__")):=by
 unfold seqRepeat?
 rw[PySem.seqSlot_of (T:= "tuple") (name:= "__mul__") (id:= "tuple.__mul__") ZeI.lookup (by decide+kernel),PySem.seqSlot_of (T:= "tuple") (name:= "__rmul__") (id:= "tuple.__rmul__") Zgk.lookup (by decide+kernel)]
 rfl
def Wt (a:Int) (t:Tok) (l:Addr) (items:Array Value) (n:Nat) (d:Option Addr) (sl:Array (Option Value)):
  Meets (Builtin.«int.__rmul__» ⟨[.int a t,.ref l],[]⟩) (fun _ R s=>s.heap.get? l=some {cls:=.type "tuple",dict:=d,data:=.seq items n,slots:=sl}/\R (.ok (.ret Value.notImplemented)) s):=
 .of_wp fun prog w A R s h=>by obtain⟨hp,g,d,tk,os⟩:=s;obtain⟨hl,h⟩:=h;wp_walk;exact⟨_,rfl,h⟩
def Ub (l:Addr) (items:Array Value) (n:Nat) (d:Option Addr) (sl:Array (Option Value)) (u:Tok):
  Meets (Builtin.«tuple.__mul__» ⟨[.ref l,.int 1 u],[]⟩) (fun _ R s=>s.heap.get? l=some {cls:=.type "tuple",dict:=d,data:=.seq items n,slots:=sl}/\R (.ok (.ret (.ref l))) s):=
 .of_wp fun prog w A R s h=>by
  obtain⟨hp,g,d,tk,os⟩:=s;obtain⟨hl,h⟩:=h
  wp_walk;exact⟨_,rfl,h⟩
def WD (l:Addr) (items:Array Value) (n:Nat) (d:Option Addr) (sl:Array (Option Value)) (x:Int) (u:Tok) (h0:items.isEmpty=false) (h1:(x==1)=false) (h2:1<=x) (hs:items.size*x.toNat<=1000) (hx:x<=1000) (hz:(List.foldl (fun x1 x2=>x1++x2) #[] (List.replicate x.toNat items)).size<=sizeLine):
  Meets (Builtin.«tuple.__mul__» ⟨[.ref l,.int x u],[]⟩) (fun _ R s=>s.heap.get? l=some {cls:=.type "tuple",dict:=d,data:=.seq items n,slots:=sl}/\R (.ok (.ret (Value.ref s.heap.objs.size))) {s with heap:=s.heap.push {cls:=Value.type "tuple",data:=Data.seq (List.foldl (fun x1 x2=>x1++x2) #[] (List.replicate x.toNat items))},toks:=s.toks}):=
 .of_wp fun prog w A R s h=>by
  obtain⟨hp,g,d,tk,os⟩:=s;obtain⟨hl,h⟩:=h
  have a1:decide (x< -(2^63))=false:=ZaK .o
  have a2:decide (x>=2^63)=false:=ZaK .o
  have a3:decide (x<=0)=false:=ZaK .o
  have hn:(items.size:Int)*x<=1000:=by
   have e:x=(x.toNat:Int):=.o
   rw[e]
   exact_mod_cast hs
  have a4:¬((items.size:Int)*x> (2^63 - 1)/8):=.o
  have a5:Builtin.Tuple.tupleTooMany ((items.size:Int)*x)=false:=by
   unfold Builtin.Tuple.tupleTooMany
   have e:=ZaP
   simp
   omega
  wp_walk
  rw[Zam (by rw[a1,a2];decide)]
  have ht:IsTup hp l items:=⟨_,hl,rfl,n,rfl⟩
  refine AN (tupleItemsOf_ ht ?_)
  dsimp only
  rw[Zam (by rw[h0,h1];decide),Zam (by rw[a3,h0];decide),Zam a4,a5,Zam Zav]
  wp_walk;exact⟨_,rfl,h⟩
section
variable {X:Cx}
def Mo:R2:=fun x y H Q=> ∃a k xs,x=.ref a/\y=.int k/\H a=some (.tup xs)/\xs≠[]/\1<=k/\k<=1000/\xs.length*k.toNat<=1000/\∀(c:Addr) H',ae H H'->H' c=some (.tup (List.replicate k.toNat xs).flatten)->Q (.ref c) H'
def UZ:bu X (binaryOp .Mult) Mo:=by
  intro pins s σ H x y v u Q I rx ry h
  obtain⟨l,k,xs,rfl,rfl,hH,cG,h1,h2,hz,q⟩:=h
  cases rx
  obtain⟨t,rfl⟩:=ry
  obtain⟨its,r,pl,_⟩:=I.tuple (ah.of hH)
  have hl:=r.length
  obtain⟨⟨cls,dd,data,sl⟩,ho,dE,n,hd⟩:=id pl
  simp only at dE hd
  subst dE hd
  have f0:∀m:Nat,List.foldl (fun x1 x2=>x1++x2) #[] (List.replicate m its.toArray)=(List.replicate m its).flatten.toArray:=fun m=>by
    have:=J6 its m []
    rw[Zdy]at this
    exact this
  have hsz:its.toArray.size*k.toNat<=1000:=by rw[Zan,<-hl];exact hz
  have h0:its.toArray.isEmpty=false:=by
    cases its with
    |nil=>
     cases xs with
     |nil=>exact absurd rfl cG
     |cons a b=>cases hl
    |cons a b=>rfl
  refine Zf4 (T:= "tuple") (U:= "int") .d ⟨_,ho,rfl⟩ (fun s'=>ZgP s' k t) JZ PySem.F.fills_int_mul ZgH UT PySem.F.slot_int_index.lookup
    (Zd6 ZgH (ZgP s k t) PySem.F.entry_int_rmul (PySem.F.args_int_rmul_2 _ _) (Wt k t l its.toArray n dd sl)
      ⟨ho,rfl,⟨_,ho,rfl⟩,?_⟩)
  by_cases hk:k=1
  · subst hk
    refine Zd6 ZeI ⟨_,ho,rfl⟩ Zgl (Zgb _ _) (Ub l its.toArray n dd sl t) ⟨ho,⟨.ref l,H,I,rfl,q l H (ae.refl _) ?_⟩⟩
    rw[hH]
    simp
  · refine Zd6 ZeI ⟨_,ho,rfl⟩ Zgl (Zgb _ _) (WD l its.toArray n dd sl k t h0 (by simpa using hk) h1 hsz h2 ?_) ⟨ho,?_⟩
    · rw[f0,Zan,U8,ZaP]
      rw[Zan,Zhq]at hsz
      omega
    · rw[f0]
      refine⟨.ref s.heap.objs.size,upd H s.heap.objs.size (.tup (List.replicate k.toNat xs).flatten),?_,rfl,q _ _ (fun b o hb=>by rw[Zg (Zi hb I.fresh)];exact hb) Ze⟩
      refine I.laid (t':=s.toks) (fun b o e=>OF _ e) (Zae _) ⟨by rw[U8,ZaP,Zhq];omega,_,r.rep k.toNat,?_⟩
      exact⟨⟨_,Zax s.heap rfl,rfl,0,rfl⟩,_,Zax s.heap rfl,rfl⟩
def Zd9 {K:Zht}{a:Addr}{xs:List V}{g:TG}{tb:TS}{D:Ends}{σ:St}{H:Hp}(Pv:Nat->St->Hp->Prop) (h0:Pv 0 σ H) (hl:∀i σ H,i<=xs.length->Pv i σ H->ah K H a xs)
  (hs:∀i x T σ H,xs[i]? =some x->H T=none->Pv i σ H->g (.ref T) σ (upd H T (.par [.int (i:Int),x])) fun aV H2=>tb {D with nx:=Pv (i+1),ct:=Pv (i+1),bk:=D.nx} aV H2) (hd:∀σ H,Pv xs.length σ H->D.nx σ H):
  ∃W:Nat->Nat->St->Hp->Prop,(∃m,W 0 m σ H)/\∀i m σ H,W i m σ H->
   ((qG K a).stop i H/\D.nx σ H)∨((qG K a).go i H/\∃N:St->Hp->Prop,(∀aj H',N aj H'->∃m',m'<m/\W (i+1) m' aj H')/\∀x H',(qG K a).mU i H x H'->g x σ H' fun aV H2=>tb {D with nx:=N,ct:=N,bk:=D.nx} aV H2):=by
 refine⟨fun i m σ H=>m=xs.length - i/\i<=xs.length/\Pv i σ H,⟨xs.length,by simp,Za2 _,h0⟩,?_⟩
 rintro i m σ H ⟨rfl,hi,p⟩
 have q:=hl i σ H hi p
 by_cases az:i<xs.length
 ·refine .inr ⟨⟨xs,xs[i],q,by simp[az]⟩,Pv (i+1),fun aj H' p'=> ⟨xs.length - (i+1),.o,rfl,az,p'⟩,fun x H' y=> ?_⟩
  obtain⟨T,z,e1,e2,e3,e4⟩:=y
  subst e1 e3
  exact hs i z T σ H (e4 xs q) e2 p
 ·have e:i=xs.length:=.o
  subst e
  exact .inl ⟨⟨xs,q,rfl⟩,hd σ H p⟩
end
end L2
namespace PyProof.Rows.jV
open PySem
def Q3:Bool->Keyed->Array Keyed->Nat->Nat->Nat->StateT SortSt Sem (Option Nat):=sortPriv%PySem.Builtin.gallop
def xf (left:Bool) (key:Keyed) (arr:Array Keyed) (base:Nat) (i:Nat):StateT SortSt Sem (Option Bool):=
 elem' arr (base+i) >>=fun x=>if left=true then lt' x key else lt' key x >>=fun c=>pure (c.map fun z=> !z)
structure Ord (r:Keyed->Keyed->Bool):Prop where
 cA:∀x y,r x y=true->r y x=false
 dJ:∀x y z,r y x=false->r z y=false->r z x=false
def Ord.lZ (o:Ord r) (x:Keyed):r x x=false:=by
 cases h:r x x with
 |false=>rfl
 |true=>have:=o.cA x x h;rw[h]at this;cases this
section
variable {prog:Program}{w:World}{A:Around}{E:Value->Shared->Prop}{s:Shared}{κ:SortKind}{a₀:Array Keyed}{r:Keyed->Keyed->Bool}
def jC (prog:Program) (w:World) (A:Around) (E:Value->Shared->Prop) (s:Shared) (κ:SortKind) (a₀:Array Keyed) (r:Keyed->Keyed->Bool):Prop:=
 ∀(x y:Keyed) (st:SortSt) (Q:Option Bool->SortSt->Prop),x∈a₀.toList->y∈a₀.toList->kindOf st=κ->Q (some (r x y)) st->wpS (model prog w) A E s (lt' x y) Q st
def Zk {arr:Array Keyed}{i:Nat}{x:Keyed}{Q:Keyed->SortSt->Prop}{st:SortSt}(hx:arr[i]? =some x) (h:Q x st):wpS (model prog w) A E s (elem' arr i) Q st:=by
 rw[elem'_eq,hx]
 exact Zaa h
def bp (r:Keyed->Keyed->Bool) (left:Bool) (key x:Keyed):Bool:=if left=true then r x key else !r key x
def ZaW {left:Bool}{key:Keyed}{arr:Array Keyed}{base i:Nat}{x:Keyed}{Q:Option Bool->SortSt->Prop}{st:SortSt}(hc:jC prog w A E s κ a₀ r) (hk:kindOf st=κ) (hx:arr[base+i]? =some x) (mx:x∈a₀.toList) (mk:key∈a₀.toList) (h:Q (some (bp r left key x)) st):
  wpS (model prog w) A E s (xf left key arr base i) Q st:=by
 unfold xf
 refine Zai (Zk hx ?_)
 cases left with
 |true=>
  rw[Zaq rfl]
  exact hc _ _ _ _ mx mk hk h
 |false=>
  rw[Zam Zav]
  exact Zai (hc _ _ _ _ mk mx hk (Zaa h))
def ZL {left:Bool}{key:Keyed}{arr:Array Keyed}{base n hint:Nat}{Q:Option Nat->SortSt->Prop}{st:SortSt}(hc:jC prog w A E s κ a₀ r) (hk:kindOf st=κ) (p:Nat->Bool)
  (hp:∀i,i<n->∃x,arr[base+i]? =some x/\x∈a₀.toList/\p i=bp r left key x) (mk:key∈a₀.toList) (mono:∀i j,i<=j->j<n->p j=true->p i=true) (hh:hint<n)
  (h:∀k,k<=n->(∀i,i<k->p i=true)->(∀i,k<=i->i<n->p i=false)->Q (some k) st):wpS (model prog w) A E s (Q3 left key arr base n hint) Q st:=by
 have kY:∀{i:Nat}{Q:Option Bool->SortSt->Prop},i<n->Q (some (p i)) st->wpS (model prog w) A E s (xf left key arr base i) Q st:=fun {i Q} hi hq=>by
  obtain⟨x,e,m,ep⟩:=hp i hi
  exact ZaW hc hk e m mk (by rw[<-ep];exact hq)
 have down:∀i j,i<=j->j<n->p i=false->p j=false:=fun i j cI hj hf=>by
  cases hh:p j with
  |false=>rfl
  |true=>rw[mono i j cI hj hh]at hf;cases hf
 show wpS (model prog w) A E s (xf left key arr base hint >>=_) _ _
 dsimp only
 refine Zai (kY hh ?_)
 cases Ep:p hint with
 |true=>
  dsimp only
  rw[Zaq rfl]
  refine Zai (ZbB (I:=fun x c aa=>aa=st/\∃eC dI,c=(none,eC,dI)/\hint+eC<n/\p (hint+eC)=true/\eC<dI/\x+1<=dI) ?LD ?Rr ⟨rfl,0,1,rfl,hh,Ep,.o,.o⟩)
  case Rr=>
   rintro c aa ⟨rfl,eC,dI,rfl,q1,q2,q3,q4⟩
   rw[Za4 (Za2 n)]at q4
   dsimp only
   refine Zai (ZbB (I:=fun x c ak=>ak=aa/\∃lo hi,c=(none,lo,hi)/\lo<=hi/\hi<=n/\(∀i,i<lo->p i=true)/\(∀i,hi<=i->i<n->p i=false)/\hi - lo<=n - x) ?_ ?_ ⟨rfl,_,_,rfl,.o,.o,(fun i hi=>mono i (hint+eC) .o q1 q2),(fun i h1 h2=>.o),.o⟩)
   ·rintro x c ak _ hx ⟨rfl,lo,hi,rfl,h1,h2,h3,h4,h5⟩
    dsimp only
    by_cases bU:lo>=hi
    ·rw[Zaq bU]
     have e:lo=hi:=.o
     subst e
     exact Zaa (Zaa (h lo h2 h3 h4))
    ·rw[Zam bU]
     have hm:lo+(hi - lo)/2<hi:=.o
     generalize em:lo+(hi - lo)/2=m at hm
     have gY:lo<=m:=.o
     refine Zai (kY .o ?_)
     cases fB:p m with
     |true=>exact Zaa ⟨rfl,m+1,hi,rfl,.o,h2,fun i bg=>mono i m .o .o fB,h4,.o⟩
     |false=>exact Zaa ⟨rfl,lo,m,rfl,gY,.o,h3,fun i h1 h2=>down m i h1 h2 fB,.o⟩
   ·rintro c ak ⟨rfl,lo,hi,rfl,h1,h2,h3,h4,h5⟩
    rw[Za4 (Za2 n)]at h5
    have e:lo=hi:=.o
    subst e
    exact Zaa (h lo h2 h3 h4)
  case LD=>
   rintro x c aa _ hx ⟨rfl,eC,dI,rfl,q1,q2,q3,q4⟩
   dsimp only
   by_cases bU:dI>=n - hint
   ·rw[Zaq bU]
    refine Zaa ?_
    dsimp only
    refine Zai (ZbB (I:=fun x c ak=>ak=aa/\∃lo hi,c=(none,lo,hi)/\lo<=hi/\hi<=n/\(∀i,i<lo->p i=true)/\(∀i,hi<=i->i<n->p i=false)/\hi - lo<=n - x) ?_ ?_ ⟨rfl,_,_,rfl,.o,.o,(fun i hi=>mono i (hint+eC) .o q1 q2),(fun i h1 h2=>.o),.o⟩)
    ·rintro x c ak _ hx ⟨rfl,lo,hi,rfl,h1,h2,h3,h4,h5⟩
     dsimp only
     by_cases bU:lo>=hi
     ·rw[Zaq bU]
      have e:lo=hi:=.o
      subst e
      exact Zaa (Zaa (h lo h2 h3 h4))
     ·rw[Zam bU]
      have hm:lo+(hi - lo)/2<hi:=.o
      generalize em:lo+(hi - lo)/2=m at hm
      have gY:lo<=m:=.o
      refine Zai (kY .o ?_)
      cases fB:p m with
      |true=>exact Zaa ⟨rfl,m+1,hi,rfl,.o,h2,fun i bg=>mono i m .o .o fB,h4,.o⟩
      |false=>exact Zaa ⟨rfl,lo,m,rfl,gY,.o,h3,fun i h1 h2=>down m i h1 h2 fB,.o⟩
    ·rintro c ak ⟨rfl,lo,hi,rfl,h1,h2,h3,h4,h5⟩
     rw[Za4 (Za2 n)]at h5
     have e:lo=hi:=.o
     subst e
     exact Zaa (h lo h2 h3 h4)
   ·rw[Zam bU]
    refine Zai (kY .o ?_)
    cases sy:p (hint+dI) with
    |true=>exact Zaa ⟨rfl,dI,2*dI+1,rfl,.o,sy,.o,.o⟩
    |false=>
     refine Zaa ?_
     dsimp only
     refine Zai (ZbB (I:=fun x c ak=>ak=aa/\∃lo hi,c=(none,lo,hi)/\lo<=hi/\hi<=n/\(∀i,i<lo->p i=true)/\(∀i,hi<=i->i<n->p i=false)/\hi - lo<=n - x) ?_ ?_ ⟨rfl,_,_,rfl,.o,.o,(fun i hi=>mono i (hint+eC) .o q1 q2),(fun i h1 h2=>down (hint+dI) i .o h2 sy),.o⟩)
     ·rintro x c ak _ hx ⟨rfl,lo,hi,rfl,h1,h2,h3,h4,h5⟩
      dsimp only
      by_cases bU:lo>=hi
      ·rw[Zaq bU]
       have e:lo=hi:=.o
       subst e
       exact Zaa (Zaa (h lo h2 h3 h4))
      ·rw[Zam bU]
       have hm:lo+(hi - lo)/2<hi:=.o
       generalize em:lo+(hi - lo)/2=m at hm
       have gY:lo<=m:=.o
       refine Zai (kY .o ?_)
       cases fB:p m with
       |true=>exact Zaa ⟨rfl,m+1,hi,rfl,.o,h2,fun i bg=>mono i m .o .o fB,h4,.o⟩
       |false=>exact Zaa ⟨rfl,lo,m,rfl,gY,.o,h3,fun i h1 h2=>down m i h1 h2 fB,.o⟩
     ·rintro c ak ⟨rfl,lo,hi,rfl,h1,h2,h3,h4,h5⟩
      rw[Za4 (Za2 n)]at h5
      have e:lo=hi:=.o
      subst e
      exact Zaa (h lo h2 h3 h4)
 |false=>
  dsimp only
  rw[Zam Zav]
  refine Zai (ZbB (I:=fun x c aa=>aa=st/\∃eC dI,c=(none,eC,dI)/\eC<=hint/\p (hint - eC)=false/\eC<dI/\x+1<=dI) ?LA ?fin2 ⟨rfl,0,1,rfl,.o,Ep,.o,.o⟩)
  case fin2=>
   rintro c aa ⟨rfl,eC,dI,rfl,q1,q2,q3,q4⟩
   rw[Za4 (Za2 n)]at q4
   dsimp only
   refine Zai (ZbB (I:=fun x c ak=>ak=aa/\∃lo hi,c=(none,lo,hi)/\lo<=hi/\hi<=n/\(∀i,i<lo->p i=true)/\(∀i,hi<=i->i<n->p i=false)/\hi - lo<=n - x) ?_ ?_ ⟨rfl,_,_,rfl,.o,.o,(fun i hi=>.o),(fun i h1 h2=>down (hint - eC) i .o h2 q2),.o⟩)
   ·rintro x c ak _ hx ⟨rfl,lo,hi,rfl,h1,h2,h3,h4,h5⟩
    dsimp only
    by_cases bU:lo>=hi
    ·rw[Zaq bU]
     have e:lo=hi:=.o
     subst e
     exact Zaa (Zaa (h lo h2 h3 h4))
    ·rw[Zam bU]
     have hm:lo+(hi - lo)/2<hi:=.o
     generalize em:lo+(hi - lo)/2=m at hm
     have gY:lo<=m:=.o
     refine Zai (kY .o ?_)
     cases fB:p m with
     |true=>exact Zaa ⟨rfl,m+1,hi,rfl,.o,h2,fun i bg=>mono i m .o .o fB,h4,.o⟩
     |false=>exact Zaa ⟨rfl,lo,m,rfl,gY,.o,h3,fun i h1 h2=>down m i h1 h2 fB,.o⟩
   ·rintro c ak ⟨rfl,lo,hi,rfl,h1,h2,h3,h4,h5⟩
    rw[Za4 (Za2 n)]at h5
    have e:lo=hi:=.o
    subst e
    exact Zaa (h lo h2 h3 h4)
  case LA=>
   rintro x c aa _ hx ⟨rfl,eC,dI,rfl,q1,q2,q3,q4⟩
   dsimp only
   by_cases bU:dI>=hint+1
   ·rw[Zaq bU]
    refine Zaa ?_
    dsimp only
    refine Zai (ZbB (I:=fun x c ak=>ak=aa/\∃lo hi,c=(none,lo,hi)/\lo<=hi/\hi<=n/\(∀i,i<lo->p i=true)/\(∀i,hi<=i->i<n->p i=false)/\hi - lo<=n - x) ?_ ?_ ⟨rfl,_,_,rfl,.o,.o,(fun i hi=>.o),(fun i h1 h2=>down (hint - eC) i .o h2 q2),.o⟩)
    ·rintro x c ak _ hx ⟨rfl,lo,hi,rfl,h1,h2,h3,h4,h5⟩
     dsimp only
     by_cases bU:lo>=hi
     ·rw[Zaq bU]
      have e:lo=hi:=.o
      subst e
      exact Zaa (Zaa (h lo h2 h3 h4))
     ·rw[Zam bU]
      have hm:lo+(hi - lo)/2<hi:=.o
      generalize em:lo+(hi - lo)/2=m at hm
      have gY:lo<=m:=.o
      refine Zai (kY .o ?_)
      cases fB:p m with
      |true=>exact Zaa ⟨rfl,m+1,hi,rfl,.o,h2,fun i bg=>mono i m .o .o fB,h4,.o⟩
      |false=>exact Zaa ⟨rfl,lo,m,rfl,gY,.o,h3,fun i h1 h2=>down m i h1 h2 fB,.o⟩
    ·rintro c ak ⟨rfl,lo,hi,rfl,h1,h2,h3,h4,h5⟩
     rw[Za4 (Za2 n)]at h5
     have e:lo=hi:=.o
     subst e
     exact Zaa (h lo h2 h3 h4)
   ·rw[Zam bU]
    refine Zai (kY .o ?_)
    cases sy:p (hint - dI) with
    |true=>
     refine Zaa ?_
     dsimp only
     refine Zai (ZbB (I:=fun x c ak=>ak=aa/\∃lo hi,c=(none,lo,hi)/\lo<=hi/\hi<=n/\(∀i,i<lo->p i=true)/\(∀i,hi<=i->i<n->p i=false)/\hi - lo<=n - x) ?_ ?_ ⟨rfl,_,_,rfl,.o,.o,(fun i hi=>mono i (hint - dI) .o .o sy),(fun i h1 h2=>down (hint - eC) i .o h2 q2),.o⟩)
     ·rintro x c ak _ hx ⟨rfl,lo,hi,rfl,h1,h2,h3,h4,h5⟩
      dsimp only
      by_cases bU:lo>=hi
      ·rw[Zaq bU]
       have e:lo=hi:=.o
       subst e
       exact Zaa (Zaa (h lo h2 h3 h4))
      ·rw[Zam bU]
       have hm:lo+(hi - lo)/2<hi:=.o
       generalize em:lo+(hi - lo)/2=m at hm
       have gY:lo<=m:=.o
       refine Zai (kY .o ?_)
       cases fB:p m with
       |true=>exact Zaa ⟨rfl,m+1,hi,rfl,.o,h2,fun i bg=>mono i m .o .o fB,h4,.o⟩
       |false=>exact Zaa ⟨rfl,lo,m,rfl,gY,.o,h3,fun i h1 h2=>down m i h1 h2 fB,.o⟩
     ·rintro c ak ⟨rfl,lo,hi,rfl,h1,h2,h3,h4,h5⟩
      rw[Za4 (Za2 n)]at h5
      have e:lo=hi:=.o
      subst e
      exact Zaa (h lo h2 h3 h4)
    |false=>exact Zaa ⟨rfl,dI,2*dI+1,rfl,.o,sy,.o,.o⟩
end
def CK:Nat->StateT SortSt Sem Unit:=sortPriv%PySem.Builtin.setMinGallop
def NU:Array Keyed->Array Keyed->StateT SortSt Sem (Array Keyed):=sortPriv%PySem.Builtin.mergeLo
def JV (g:Nat):CK g=modify fun s=>SortSt.mk' (kindOf s) (arrOf s) (pendingOf s) g (failedOf s):=rfl
abbrev Pw (r:Keyed->Keyed->Bool) (l:List Keyed):Prop:=l.Pairwise fun x y=>r y x=false
def SG (st aa:SortSt):Prop:=kindOf aa=kindOf st/\arrOf aa=arrOf st/\pendingOf aa=pendingOf st/\failedOf aa=failedOf st
def SG.refl (st:SortSt):SG st st:=⟨rfl,rfl,rfl,rfl⟩
def Good (r:Keyed->Keyed->Bool) (a b res:Array Keyed):Prop:=res.toList.Perm (a.toList++b.toList)/\Pw r res.toList
structure JW (r:Keyed->Keyed->Bool) (a b out:Array Keyed) (ia ib:Nat):Prop where
 perm:(out.toList++(a.toList.drop ia++b.toList.drop ib)).Perm (a.toList++b.toList)
 kh:Pw r out.toList
 ij:∀x∈out.toList,∀y∈a.toList.drop ia++b.toList.drop ib,r y x=false
structure fK (r:Keyed->Keyed->Bool) (a b:Array Keyed):Prop where
 o:Ord r
 sa:Pw r a.toList
 sb:Pw r b.toList
def Ji {l:List α}(h:l[i]? =some x):l.drop i=x::l.drop (i+1):=by
 obtain⟨hi,e⟩:=Zab.mp h
 rw[Zdu hi,e]
def ZA {xs:Array Keyed}{i:Nat}{x:Keyed}(h:xs[i]? =some x):xs.toList[i]? =some x:=by rw[ZaS];exact h
def Zf {xs:Array Keyed}(h:i<xs.size):∃x,xs[i]? =some x:=⟨xs[i],getElem?_pos xs i h⟩
def JE {l:List Keyed}(o:Ord r) (p:Pw r l) (h:l[i]? =some x):∀y∈l.drop i,r y x=false:=fun y hy=>by
 rw[Ji h]at hy
 rcases Zao.mp hy with rfl |hy
 ·exact o.lZ _
 ·have q:Pw r (l.drop i):=ZbN (ZdV i l) p
  rw[Ji h]at q
  exact(ZbU.mp q).1 y hy
def J7 (xs:Array Keyed) (i j:Nat):(xs.extract i j).toList=(xs.toList.drop i).take (j - i):=by
 rw[Array.toList_extract,List.extract_eq_drop_take]
def Wo (xs:Array Keyed) (i:Nat):(xs.extract i xs.size).toList=xs.toList.drop i:=by
 rw[J7,ZbY (by rw[ZbD,Zay];exact Zae _)]
section
variable {r:Keyed->Keyed->Bool}{a b out:Array Keyed}{ia ib:Nat}
def JW.dD (C:fK r a b) (J:JW r a b out ia ib) {x:Keyed}(hx:a[ia]? =some x) (h:∀y,b[ib]? =some y->r y x=false):JW r a b (out.push x) (ia+1) ib:=by
 have jK:=ZA hx
 have hd:=Ji jK
 have low:∀y∈a.toList.drop (ia+1)++b.toList.drop ib,r y x=false:=fun y hy=>by
  rcases ZaL.mp hy with hy |hy
  ·exact JE C.o C.sa jK y (by rw[hd];exact Zap _ hy)
  ·cases e:b[ib]? with
   |none=>
    rw[<-ZaS]at e
    rw[ZbX (by rw[Zf5]at e;exact e)]at hy
    cases hy
   |some z=>
    have h1:=JE C.o C.sb (ZA e) y hy
    exact C.o.dJ x z y (h z e) h1
 refine⟨?_,?_,fun u hu y hy=> ?_⟩
 ·rw[ZbK,Zbp]
  have:=J.perm
  rw[hd]at this
  exact this
 ·rw[ZbK]
  refine Zbr.mpr ⟨J.kh,ZdN _ _,fun u hu v hv=> ?_⟩
  rw[ZaI.mp hv]
  exact J.ij u hu x (Za7 _ (by rw[hd];exact Zau))
 ·rw[ZbK]at hu
  rcases ZaL.mp hu with hu |hu
  ·refine J.ij u hu y ?_
   rcases ZaL.mp hy with hy |hy
   ·exact Za7 _ (by rw[hd];exact Zap _ hy)
   ·exact ZaD _ hy
  ·rw[ZaI.mp hu]
   exact low y hy
def JW.gD (C:fK r a b) (J:JW r a b out ia ib) {y:Keyed}(hy:b[ib]? =some y) (h:∀x,a[ia]? =some x->r x y=false):JW r a b (out.push y) ia (ib+1):=by
 have i9:=ZA hy
 have hd:=Ji i9
 have low:∀z∈a.toList.drop ia++b.toList.drop (ib+1),r z y=false:=fun z hz=>by
  rcases ZaL.mp hz with hz |hz
  ·cases e:a[ia]? with
   |none=>
    rw[<-ZaS]at e
    rw[ZbX (by rw[Zf5]at e;exact e)]at hz
    cases hz
   |some x=>
    have h1:=JE C.o C.sa (ZA e) z hz
    exact C.o.dJ y x z (h x e) h1
  ·exact JE C.o C.sb i9 z (by rw[hd];exact Zap _ hz)
 refine⟨?_,?_,fun u hu z hz=> ?_⟩
 ·rw[ZbK,Zbp]
  have:=J.perm
  rw[hd]at this
  refine List.Perm.trans (Zeh _ ?_) this
  exact(show(y::(a.toList.drop ia++b.toList.drop (ib+1))).Perm _ from List.perm_middle.symm)
 ·rw[ZbK]
  refine Zbr.mpr ⟨J.kh,ZdN _ _,fun u hu v hv=> ?_⟩
  rw[ZaI.mp hv]
  exact J.ij u hu y (ZaD _ (by rw[hd];exact Zau))
 ·rw[ZbK]at hu
  rcases ZaL.mp hu with hu |hu
  ·refine J.ij u hu z ?_
   rcases ZaL.mp hz with hz |hz
   ·exact Za7 _ hz
   ·exact ZaD _ (by rw[hd];exact Zap _ hz)
  ·rw[ZaI.mp hu]
   exact low z hz
def IF {xs:Array Keyed}(hx:xs[i+k]? =some x):xs.extract i (i+(k+1))=(xs.extract i (i+k)).push x:=by
 obtain⟨h,e⟩:=Zbq.mp hx
 rw[<-e,<-Zgm,Array.extract_succ_right .o h]
def JW.pN (C:fK r a b) (J:JW r a b out ia ib):∀k,ia+k<=a.size->(∀i,i<k->∀x y,a[ia+i]? =some x->b[ib]? =some y->r y x=false)->JW r a b (out++a.extract ia (ia+k)) (ia+k) ib
 |0,_,_=>by
  rw[Zdz]
  have e:a.extract ia ia= #[]:=by simp;omega
  rw[e,Zg9]
  exact J
 |k+1,hk,h=>by
  obtain⟨x,hx⟩:=Zf (xs:=a) (i:=ia+k) .o
  have ih:=JW.pN C J k .o fun i hi=>h i .o
  have:=ih.dD C hx fun y hy=>h k .o x y hx hy
  rw[IF hx,Zft]
  exact this
def JW.lL (C:fK r a b) (J:JW r a b out ia ib):∀k,ib+k<=b.size->(∀i,i<k->∀y x,b[ib+i]? =some y->a[ia]? =some x->r x y=false)->JW r a b (out++b.extract ib (ib+k)) ia (ib+k)
 |0,_,_=>by
  rw[Zdz]
  have e:b.extract ib ib= #[]:=by simp;omega
  rw[e,Zg9]
  exact J
 |k+1,hk,h=>by
  obtain⟨y,hy⟩:=Zf (xs:=b) (i:=ib+k) .o
  have ih:=JW.lL C J k .o fun i hi=>h i .o
  have:=ih.gD C hy fun x hx=>h k .o y x hy hx
  rw[IF hy,Zft]
  exact this
def JW.done (C:fK r a b) (J:JW r a b out ia ib) (h:a.size<=ia∨b.size<=ib):Good r a b (out++a.extract ia a.size++b.extract ib b.size):=by
 unfold Good
 rw[Zb8,Zb8,Wo,Wo]
 refine⟨by rw[Zbp];exact J.perm,?_⟩
 have pa:Pw r (a.toList.drop ia):=ZbN (ZdV _ _) C.sa
 have pb:Pw r (b.toList.drop ib):=ZbN (ZdV _ _) C.sb
 rw[Zbp]
 refine Zbr.mpr ⟨J.kh,?_,J.ij⟩
 rcases h with h |h
 ·rw[ZbX (by rw[Zay];exact h),Zdy]
  exact pb
 ·rw[ZbX (as:=b.toList) (by rw[Zay];exact h),ZbP]
  exact pa
def JW.last (C:fK r a b) (J:JW r a b out ia ib) (h:ia+1=a.size) (hl:∀x,a[a.size - 1]? =some x->∀y∈b.toList,r x y=false):Good r a b (out++b.extract ib b.size++a.extract ia a.size):=by
 unfold Good
 rw[Zb8,Zb8,Wo,Wo]
 obtain⟨x,hx⟩:=Zf (xs:=a) (i:=ia) .o
 have ed:a.toList.drop ia=[x]:=by
  rw[Ji (ZA hx),ZbX (by rw[Zay];omega)]
 have P:=J.perm
 have B:=J.ij
 rw[ed]at P B |-
 have pb:Pw r (b.toList.drop ib):=ZbN (ZdV _ _) C.sb
 refine⟨?_,?_⟩
 ·rw[Zbp]
  exact List.Perm.trans (Zeh _ ZgI) P
 ·rw[Zbp]
  refine Zbr.mpr ⟨J.kh,Zbr.mpr ⟨pb,ZdN _ _,fun y hy z hz=> ?_⟩,fun u hu z hz=>B u hu z ?_⟩
  ·rw[ZaI.mp hz]
   exact hl x (by rw[show a.size - 1=ia by omega];exact hx) y (ZbH hy)
  ·rcases ZaL.mp hz with hz |hz
   ·exact ZaD _ hz
   ·exact Za7 _ hz
end
def Zx {xs:Array Keyed}{i:Nat}{x:Keyed}(h:xs[i]? =some x):x∈xs.toList:=Zbc (ZA h)
def Yo {r:Keyed->Keyed->Bool}{l:List Keyed}{i j:Nat}{x y:Keyed}(o:Ord r) (p:Pw r l) (hx:l[i]? =some x) (hy:l[j]? =some y) (h:i<=j):r y x=false:=by
 refine JE o p hx y ?_
 have:(l.drop i)[j - i]? =some y:=by rw[ZdI,show i+(j - i)=j by omega];exact hy
 exact Zbc this
def JI (o:Ord r) (h:r y z=true) (h2:r y x=false):r x z=true:=by
 cases e:r x z with
 |true=>rfl
 |false=>
  have:=o.dJ z x y e h2
  rw[h]at this
  cases this
section
variable {prog:Program}{w:World}{A:Around}{E:Value->Shared->Prop}{s:Shared}{κ:SortKind}{a₀:Array Keyed}{r:Keyed->Keyed->Bool}
def YN {g:Nat}{Q:Unit->SortSt->Prop}{st:SortSt}(h:Q () (SortSt.mk' (kindOf st) (arrOf st) (pendingOf st) g (failedOf st))):wpS (model prog w) A E s (CK g) Q st:=by
 rw[JV]
 exact ZeG h
def Zaf {a b:Array Keyed}{Q:Array Keyed->SortSt->Prop}{st:SortSt}(hc:jC prog w A E s κ a₀ r) (hk:kindOf st=κ) (C:fK r a b) (ma:∀x∈a.toList,x∈a₀.toList) (mb:∀x∈b.toList,x∈a₀.toList) (na:1<=a.size) (nb:1<=b.size)
  (h0:∀y,b[0]? =some y->∀x∈a.toList,r x y=false) (hl:∀x,a[a.size - 1]? =some x->∀y∈b.toList,r x y=false)
  (h:∀res aa,SG st aa->Good r a b res->Q res aa):wpS (model prog w) A E s (NU a b) Q st:=by
 show wpS (model prog w) A E s (_ >>=_) _ _
 try dsimp only
 refine Zai (Zgn (ZdA ⟨rfl,?_⟩))
 obtain⟨y0,l7⟩:=Zf (xs:=b) (i:=0) .o
 refine Zai (Zk l7 ?_)
 have J0:JW r a b #[y0] 0 1:=by
  have e:JW r a b #[] 0 0:=⟨by simp,.nil,fun x hx=>by cases hx⟩
  exact e.gD C l7 fun x hx=>h0 y0 l7 x (Zx hx)
 by_cases bT:(1==b.size)=true
 ·rw[Zaq bT]
  exact Zaa (h _ _ (SG.refl _) (J0.done C (.inr (by have:=Zaj.mp bT;omega))))
 rw[Zam bT]
 by_cases cq:(0+1==a.size)=true
 ·rw[Zaq cq]
  exact Zaa (h _ _ (SG.refl _) (J0.last C (by have:=Zaj.mp cq;omega) hl))
 rw[Zam cq]
 have qg:¬(1=b.size):=fun z=>bT (Zaj.mpr z)
 have vY:¬(0+1=a.size):=fun z=>cq (Zaj.mpr z)
 refine Zai (ZfC ?_)
 refine Zai (ZeT (ZbB (I:=fun x c av=>SG st av/\∃out ia ib g,c=(none,out,ia,ib,g)/\JW r a b out ia ib/\ia+1<a.size/\ib<b.size/\x+1<=ia+ib) (Q:=fun c av=>SG st av/\∃res,c.fst=some res/\Good r a b res) ?step ?fin ⟨SG.refl _,_,_,_,_,rfl,J0,.o,.o,.o⟩) ?post)
 case post=>
  rintro c av ⟨iX,res,ec,gd⟩
  rw[ec]
  exact Zaa (h res av iX gd)
 case fin=>
  rintro c av ⟨_,out,ia,ib,g,_,_,i1,i2,i3⟩
  rw[Za4 (Za2 _)]at i3
  omega
 case step=>
  rintro x c av _ hx ⟨iX,out,ia,ib,g,rfl,J,i1,i2,i3⟩
  dsimp only
  have bV:kindOf av=κ:=by rw[iX.1];exact hk
  refine Zai (ZeT (ZbB (I:=fun y c ak=>ak=av/\∃fk eV eT ac bc,c=(none,fk,eV,eT,ac,bc)/\JW r a b fk eV eT/\eV+1<a.size/\eT<b.size/\ia+ib+y<=eV+eT)
   (Q:=fun c ak=>ak=av/\((∃res,c.fst=some res/\Good r a b res)∨∃fk eV eT ac bc,c=(none,fk,eV,eT,ac,bc)/\JW r a b fk eV eT/\eV+1<a.size/\eT<b.size/\ia+ib+1<=eV+eT)) ?_ ?_ ⟨rfl,_,_,_,_,_,rfl,J,i1,i2,.o⟩) ?_)
  ·rintro y c ak _ hy ⟨rfl,fk,eV,eT,ac,bc,rfl,J',j1,j2,j3⟩
   dsimp only
   obtain⟨yb,i8⟩:=Zf (xs:=b) (i:=eT) .o
   obtain⟨xa,ja⟩:=Zf (xs:=a) (i:=eV) .o
   refine Zai (Zk i8 (Zai (Zk ja (Zai (hc _ _ _ _ (mb _ (Zx i8)) (ma _ (Zx ja)) bV ?_)))))
   dsimp only
   cases hr:r yb xa with
   |true=>
    rw[Zaq rfl]
    refine Zai (Zk i8 ?_)
    have J2:=J'.gD C i8 (fun x hx=>by rw[ja]at hx;cases hx;exact C.o.cA _ _ hr)
    by_cases hz:(eT+1==b.size)=true
    ·rw[Zaq hz]
     exact Zaa ⟨rfl,.inl ⟨_,rfl,J2.done C (.inr (by have:=Zaj.mp hz;omega))⟩⟩
    rw[Zam hz]
    have bj:¬(eT+1=b.size):=fun z=>hz (Zaj.mpr z)
    by_cases hg:bc+1>=g
    ·rw[Zaq hg]
     exact Zaa ⟨rfl,.inr ⟨_,_,_,_,_,rfl,J2,.o,.o,.o⟩⟩
    ·rw[Zam hg]
     exact Zaa ⟨rfl,_,_,_,_,_,rfl,J2,.o,.o,.o⟩
   |false=>
    rw[Zam Zav]
    refine Zai (Zk ja ?_)
    have J2:=J'.dD C ja (fun x hx=>by rw[i8]at hx;cases hx;exact hr)
    by_cases hz:(eV+1+1==a.size)=true
    ·rw[Zaq hz]
     exact Zaa ⟨rfl,.inl ⟨_,rfl,J2.last C (by have:=Zaj.mp hz;omega) hl⟩⟩
    rw[Zam hz]
    have bj:¬(eV+1+1=a.size):=fun z=>hz (Zaj.mpr z)
    by_cases hg:ac+1>=g
    ·rw[Zaq hg]
     exact Zaa ⟨rfl,.inr ⟨_,_,_,_,_,rfl,J2,.o,.o,.o⟩⟩
    ·rw[Zam hg]
     exact Zaa ⟨rfl,_,_,_,_,_,rfl,J2,.o,.o,.o⟩
  ·rintro c ak ⟨rfl,fk,eV,eT,ac,bc,rfl,J',j1,j2,j3⟩
   rw[Za4 (Za2 _)]at j3
   omega
  rintro c ak ⟨rfl,⟨res,ec,gd⟩ |⟨fk,eV,eT,ac,bc,rfl,J',j1,j2,j3⟩⟩
  ·rw[ec]
   exact Zaa ⟨iX,res,rfl,gd⟩
  dsimp only
  refine Zai (Zgn (ZdA ⟨rfl,?_⟩))
  refine Zai (ZeT (ZbB (I:=fun y c ak=>SG st ak/\∃out ia ib g ac bc,c=(none,out,ia,ib,g,ac,bc)/\JW r a b out ia ib/\ia+1<a.size/\ib<b.size/\eV+eT+y<=ia+ib)
   (Q:=fun c ak=>SG st ak/\((∃res,c.fst=some res/\Good r a b res)∨∃out ia ib g ac bc,c=(none,out,ia,ib,g,ac,bc)/\JW r a b out ia ib/\ia+1<a.size/\ib<b.size/\eV+eT<=ia+ib)) ?_ ?_ ⟨iX,_,_,_,_,_,_,rfl,J',j1,j2,.o⟩) ?_)
  ·clear J i1 i2 bV
   rintro y c ak _ hy ⟨gO,out,DY,DX,g,ac,bc,rfl,J,i1,i2,i4⟩
   dsimp only
   revert J i1 i2 i4
   have ii3:ia+ib+1<=eV+eT:=j3
   clear j3 i3
   generalize DY=ia
   generalize DX=ib
   intro J i1 i2 i4
   by_cases mw:g>1
   ·rw[Zaq mw]
    refine Zai (YN ?_)
    generalize oo:SortSt.mk' _ _ _ _ _=ba
    have ar:SG st ba:=by rw[<-oo];exact gO
    have fY:kindOf ba=κ:=by rw[ar.1];exact hk
    obtain⟨y2,bo⟩:=Zf (xs:=b) (i:=ib) .o
    refine Zai (Zk bo ?_)
    refine Zai (ZL hc fY (fun i=>match a[ia+i]? with |some x=> !r y2 x |none=>false) (fun i hi=> ?_) (mb y2 (Zx bo)) (fun i j cI hj hp=> ?_) .o fun k kn eE dA=> ?_)
    ·obtain⟨x,hx⟩:=Zf (xs:=a) (i:=ia+i) .o
     refine⟨x,hx,ma x (Zx hx),?_⟩
     try dsimp only
     rw[hx]
     rfl
    ·obtain⟨xj,gG⟩:=Zf (xs:=a) (i:=ia+j) .o
     obtain⟨xi,gH⟩:=Zf (xs:=a) (i:=ia+i) .o
     try dsimp only at hp |-
     rw[gG]at hp
     rw[gH]
     rw[Zbv]at hp |-
     exact C.o.dJ _ _ _ (Yo C.o C.sa (ZA gH) (ZA gG) .o) hp
    try dsimp only
    by_cases jg:k>0
    ·rw[Zaq jg]
     have J1:=J.pN C k .o (fun i hi x y hx hy=>by
      rw[bo]at hy
      cases hy
      have:=eE i hi
      try dsimp only at this
      rw[hx,Zbv]at this
      exact this)
     by_cases bT:(ia+k+1==a.size)=true
     ·rw[Zaq bT]
      exact Zaa ⟨ar,.inl ⟨_,rfl,J1.last C (by have:=Zaj.mp bT;omega) hl⟩⟩
     rw[Zam bT]
     by_cases cq:(ia+k==a.size)=true
     ·rw[Zaq cq]
      exact Zaa ⟨ar,.inl ⟨_,rfl,J1.done C (.inl (by have:=Zaj.mp cq;omega))⟩⟩
     rw[Zam cq]
     have qg:¬(ia+k+1=a.size):=fun z=>bT (Zaj.mpr z)
     have vY:¬(ia+k=a.size):=fun z=>cq (Zaj.mpr z)
     refine Zai (Zk bo ?_)
     have J2:=J1.gD C bo (fun x hx=>by
      have:=dA k (Zae _) .o
      try dsimp only at this
      rw[hx,ZdJ]at this
      exact C.o.cA _ _ this)
     by_cases hz:(ib+1==b.size)=true
     ·rw[Zaq hz]
      exact Zaa ⟨ar,.inl ⟨_,rfl,J2.done C (.inr (by have:=Zaj.mp hz;omega))⟩⟩
     rw[Zam hz]
     have bj:¬(ib+1=b.size):=fun z=>hz (Zaj.mpr z)
     obtain⟨x3,bf⟩:=Zf (xs:=a) (i:=ia+k) .o
     refine Zai (Zk bf ?_)
     refine Zai (ZL hc fY (fun i=>match b[ib+1+i]? with |some y=>r y x3 |none=>false) (fun i hi=> ?_) (ma x3 (Zx bf)) (fun i j cI hj hp=> ?_) .o fun k1 nM eE dA=> ?_)
     ·obtain⟨y,hy⟩:=Zf (xs:=b) (i:=ib+1+i) .o
      refine⟨y,hy,mb y (Zx hy),?_⟩
      try dsimp only
      rw[hy]
      rfl
     ·obtain⟨yj,cZ⟩:=Zf (xs:=b) (i:=ib+1+j) .o
      obtain⟨yi,da⟩:=Zf (xs:=b) (i:=ib+1+i) .o
      try dsimp only at hp |-
      rw[cZ]at hp
      rw[da]
      exact JI C.o hp (Yo C.o C.sb (ZA da) (ZA cZ) .o)
     try dsimp only
     by_cases bV:k1>0
     ·rw[Zaq bV]
      have J3:=J2.lL C k1 .o (fun i hi y x hy hx=>by
       rw[bf]at hx
       cases hx
       have:=eE i hi
       try dsimp only at this
       rw[hy]at this
       exact C.o.cA _ _ this)
      by_cases aI:(ib+1+k1==b.size)=true
      ·rw[Zaq aI]
       exact Zaa ⟨ar,.inl ⟨_,rfl,J3.done C (.inr (by have:=Zaj.mp aI;omega))⟩⟩
      rw[Zam aI]
      have nQ:¬(ib+1+k1=b.size):=fun z=>aI (Zaj.mpr z)
      obtain⟨x4,aw⟩:=Zf (xs:=a) (i:=ia+k) .o
      refine Zai (Zk aw ?_)
      have J4:=J3.dD C aw (fun y hy=>by
       have:=dA k1 (Zae _) .o
       try dsimp only at this
       rw[hy]at this
       have e:x4=x3:=by rw[bf]at aw;exact(ZaQ aw).symm
       rw[e]
       exact this)
      by_cases hz:(ia+k+1+1==a.size)=true
      ·rw[Zaq hz]
       exact Zaa ⟨ar,.inl ⟨_,rfl,J4.last C (by have:=Zaj.mp hz;omega) hl⟩⟩
      ·rw[Zam hz]
       have bj:¬(ia+k+1+1=a.size):=fun z=>hz (Zaj.mpr z)
       by_cases h7:(decide (k<7)&&decide (k1<7))=true
       ·rw[Zaq h7]
        exact Zaa ⟨ar,.inr ⟨_,_,_,_,_,_,rfl,J4,.o,.o,.o⟩⟩
       ·rw[Zam h7]
        exact Zaa ⟨ar,_,_,_,_,_,_,rfl,J4,.o,.o,.o⟩
     ·rw[Zam bV]
      obtain rfl:k1=0:=.o
      obtain⟨x4,aw⟩:=Zf (xs:=a) (i:=ia+k) .o
      refine Zai (Zk aw ?_)
      have J4:=J2.dD C aw (fun y hy=>by
       have:=dA 0 (Zae _) .o
       try dsimp only at this
       rw[Zdz,hy]at this
       have e:x4=x3:=by rw[bf]at aw;exact(ZaQ aw).symm
       rw[e]
       exact this)
      by_cases hz:(ia+k+1+1==a.size)=true
      ·rw[Zaq hz]
       exact Zaa ⟨ar,.inl ⟨_,rfl,J4.last C (by have:=Zaj.mp hz;omega) hl⟩⟩
      ·rw[Zam hz]
       have bj:¬(ia+k+1+1=a.size):=fun z=>hz (Zaj.mpr z)
       by_cases h7:(decide (k<7)&&decide (0<7))=true
       ·rw[Zaq h7]
        exact Zaa ⟨ar,.inr ⟨_,_,_,_,_,_,rfl,J4,.o,.o,.o⟩⟩
       ·rw[Zam h7]
        exact Zaa ⟨ar,_,_,_,_,_,_,rfl,J4,.o,.o,.o⟩
    ·rw[Zam jg]
     obtain rfl:k=0:=.o
     refine Zai (Zk bo ?_)
     have J2:=J.gD C bo (fun x hx=>by
      have:=dA 0 (Zae _) .o
      try dsimp only at this
      rw[Zdz,hx,ZdJ]at this
      exact C.o.cA _ _ this)
     by_cases hz:(ib+1==b.size)=true
     ·rw[Zaq hz]
      exact Zaa ⟨ar,.inl ⟨_,rfl,J2.done C (.inr (by have:=Zaj.mp hz;omega))⟩⟩
     rw[Zam hz]
     have bj:¬(ib+1=b.size):=fun z=>hz (Zaj.mpr z)
     obtain⟨x3,bf⟩:=Zf (xs:=a) (i:=ia) .o
     refine Zai (Zk bf ?_)
     refine Zai (ZL hc fY (fun i=>match b[ib+1+i]? with |some y=>r y x3 |none=>false) (fun i hi=> ?_) (ma x3 (Zx bf)) (fun i j cI hj hp=> ?_) .o fun k1 nM eE dA=> ?_)
     ·obtain⟨y,hy⟩:=Zf (xs:=b) (i:=ib+1+i) .o
      refine⟨y,hy,mb y (Zx hy),?_⟩
      try dsimp only
      rw[hy]
      rfl
     ·obtain⟨yj,cZ⟩:=Zf (xs:=b) (i:=ib+1+j) .o
      obtain⟨yi,da⟩:=Zf (xs:=b) (i:=ib+1+i) .o
      try dsimp only at hp |-
      rw[cZ]at hp
      rw[da]
      exact JI C.o hp (Yo C.o C.sb (ZA da) (ZA cZ) .o)
     try dsimp only
     by_cases bV:k1>0
     ·rw[Zaq bV]
      have J3:=J2.lL C k1 .o (fun i hi y x hy hx=>by
       rw[bf]at hx
       cases hx
       have:=eE i hi
       try dsimp only at this
       rw[hy]at this
       exact C.o.cA _ _ this)
      by_cases aI:(ib+1+k1==b.size)=true
      ·rw[Zaq aI]
       exact Zaa ⟨ar,.inl ⟨_,rfl,J3.done C (.inr (by have:=Zaj.mp aI;omega))⟩⟩
      rw[Zam aI]
      have nQ:¬(ib+1+k1=b.size):=fun z=>aI (Zaj.mpr z)
      obtain⟨x4,aw⟩:=Zf (xs:=a) (i:=ia) .o
      refine Zai (Zk aw ?_)
      have J4:=J3.dD C aw (fun y hy=>by
       have:=dA k1 (Zae _) .o
       try dsimp only at this
       rw[hy]at this
       have e:x4=x3:=by rw[bf]at aw;exact(ZaQ aw).symm
       rw[e]
       exact this)
      by_cases hz:(ia+1+1==a.size)=true
      ·rw[Zaq hz]
       exact Zaa ⟨ar,.inl ⟨_,rfl,J4.last C (by have:=Zaj.mp hz;omega) hl⟩⟩
      ·rw[Zam hz]
       have bj:¬(ia+1+1=a.size):=fun z=>hz (Zaj.mpr z)
       by_cases h7:(decide (0<7)&&decide (k1<7))=true
       ·rw[Zaq h7]
        exact Zaa ⟨ar,.inr ⟨_,_,_,_,_,_,rfl,J4,.o,.o,.o⟩⟩
       ·rw[Zam h7]
        exact Zaa ⟨ar,_,_,_,_,_,_,rfl,J4,.o,.o,.o⟩
     ·rw[Zam bV]
      obtain rfl:k1=0:=.o
      obtain⟨x4,aw⟩:=Zf (xs:=a) (i:=ia) .o
      refine Zai (Zk aw ?_)
      have J4:=J2.dD C aw (fun y hy=>by
       have:=dA 0 (Zae _) .o
       try dsimp only at this
       rw[Zdz,hy]at this
       have e:x4=x3:=by rw[bf]at aw;exact(ZaQ aw).symm
       rw[e]
       exact this)
      by_cases hz:(ia+1+1==a.size)=true
      ·rw[Zaq hz]
       exact Zaa ⟨ar,.inl ⟨_,rfl,J4.last C (by have:=Zaj.mp hz;omega) hl⟩⟩
      ·rw[Zam hz]
       have bj:¬(ia+1+1=a.size):=fun z=>hz (Zaj.mpr z)
       by_cases h7:(decide (0<7)&&decide (0<7))=true
       ·rw[Zaq h7]
        exact Zaa ⟨ar,.inr ⟨_,_,_,_,_,_,rfl,J4,.o,.o,.o⟩⟩
       ·rw[Zam h7]
        exact Zaa ⟨ar,_,_,_,_,_,_,rfl,J4,.o,.o,.o⟩
   ·rw[Zam mw]
    refine Zai (YN ?_)
    generalize oo:SortSt.mk' _ _ _ _ _=ba
    have ar:SG st ba:=by rw[<-oo];exact gO
    have fY:kindOf ba=κ:=by rw[ar.1];exact hk
    obtain⟨y2,bo⟩:=Zf (xs:=b) (i:=ib) .o
    refine Zai (Zk bo ?_)
    refine Zai (ZL hc fY (fun i=>match a[ia+i]? with |some x=> !r y2 x |none=>false) (fun i hi=> ?_) (mb y2 (Zx bo)) (fun i j cI hj hp=> ?_) .o fun k kn eE dA=> ?_)
    ·obtain⟨x,hx⟩:=Zf (xs:=a) (i:=ia+i) .o
     refine⟨x,hx,ma x (Zx hx),?_⟩
     try dsimp only
     rw[hx]
     rfl
    ·obtain⟨xj,gG⟩:=Zf (xs:=a) (i:=ia+j) .o
     obtain⟨xi,gH⟩:=Zf (xs:=a) (i:=ia+i) .o
     try dsimp only at hp |-
     rw[gG]at hp
     rw[gH]
     rw[Zbv]at hp |-
     exact C.o.dJ _ _ _ (Yo C.o C.sa (ZA gH) (ZA gG) .o) hp
    try dsimp only
    by_cases jg:k>0
    ·rw[Zaq jg]
     have J1:=J.pN C k .o (fun i hi x y hx hy=>by
      rw[bo]at hy
      cases hy
      have:=eE i hi
      try dsimp only at this
      rw[hx,Zbv]at this
      exact this)
     by_cases bT:(ia+k+1==a.size)=true
     ·rw[Zaq bT]
      exact Zaa ⟨ar,.inl ⟨_,rfl,J1.last C (by have:=Zaj.mp bT;omega) hl⟩⟩
     rw[Zam bT]
     by_cases cq:(ia+k==a.size)=true
     ·rw[Zaq cq]
      exact Zaa ⟨ar,.inl ⟨_,rfl,J1.done C (.inl (by have:=Zaj.mp cq;omega))⟩⟩
     rw[Zam cq]
     have qg:¬(ia+k+1=a.size):=fun z=>bT (Zaj.mpr z)
     have vY:¬(ia+k=a.size):=fun z=>cq (Zaj.mpr z)
     refine Zai (Zk bo ?_)
     have J2:=J1.gD C bo (fun x hx=>by
      have:=dA k (Zae _) .o
      try dsimp only at this
      rw[hx,ZdJ]at this
      exact C.o.cA _ _ this)
     by_cases hz:(ib+1==b.size)=true
     ·rw[Zaq hz]
      exact Zaa ⟨ar,.inl ⟨_,rfl,J2.done C (.inr (by have:=Zaj.mp hz;omega))⟩⟩
     rw[Zam hz]
     have bj:¬(ib+1=b.size):=fun z=>hz (Zaj.mpr z)
     obtain⟨x3,bf⟩:=Zf (xs:=a) (i:=ia+k) .o
     refine Zai (Zk bf ?_)
     refine Zai (ZL hc fY (fun i=>match b[ib+1+i]? with |some y=>r y x3 |none=>false) (fun i hi=> ?_) (ma x3 (Zx bf)) (fun i j cI hj hp=> ?_) .o fun k1 nM eE dA=> ?_)
     ·obtain⟨y,hy⟩:=Zf (xs:=b) (i:=ib+1+i) .o
      refine⟨y,hy,mb y (Zx hy),?_⟩
      try dsimp only
      rw[hy]
      rfl
     ·obtain⟨yj,cZ⟩:=Zf (xs:=b) (i:=ib+1+j) .o
      obtain⟨yi,da⟩:=Zf (xs:=b) (i:=ib+1+i) .o
      try dsimp only at hp |-
      rw[cZ]at hp
      rw[da]
      exact JI C.o hp (Yo C.o C.sb (ZA da) (ZA cZ) .o)
     try dsimp only
     by_cases bV:k1>0
     ·rw[Zaq bV]
      have J3:=J2.lL C k1 .o (fun i hi y x hy hx=>by
       rw[bf]at hx
       cases hx
       have:=eE i hi
       try dsimp only at this
       rw[hy]at this
       exact C.o.cA _ _ this)
      by_cases aI:(ib+1+k1==b.size)=true
      ·rw[Zaq aI]
       exact Zaa ⟨ar,.inl ⟨_,rfl,J3.done C (.inr (by have:=Zaj.mp aI;omega))⟩⟩
      rw[Zam aI]
      have nQ:¬(ib+1+k1=b.size):=fun z=>aI (Zaj.mpr z)
      obtain⟨x4,aw⟩:=Zf (xs:=a) (i:=ia+k) .o
      refine Zai (Zk aw ?_)
      have J4:=J3.dD C aw (fun y hy=>by
       have:=dA k1 (Zae _) .o
       try dsimp only at this
       rw[hy]at this
       have e:x4=x3:=by rw[bf]at aw;exact(ZaQ aw).symm
       rw[e]
       exact this)
      by_cases hz:(ia+k+1+1==a.size)=true
      ·rw[Zaq hz]
       exact Zaa ⟨ar,.inl ⟨_,rfl,J4.last C (by have:=Zaj.mp hz;omega) hl⟩⟩
      ·rw[Zam hz]
       have bj:¬(ia+k+1+1=a.size):=fun z=>hz (Zaj.mpr z)
       by_cases h7:(decide (k<7)&&decide (k1<7))=true
       ·rw[Zaq h7]
        exact Zaa ⟨ar,.inr ⟨_,_,_,_,_,_,rfl,J4,.o,.o,.o⟩⟩
       ·rw[Zam h7]
        exact Zaa ⟨ar,_,_,_,_,_,_,rfl,J4,.o,.o,.o⟩
     ·rw[Zam bV]
      obtain rfl:k1=0:=.o
      obtain⟨x4,aw⟩:=Zf (xs:=a) (i:=ia+k) .o
      refine Zai (Zk aw ?_)
      have J4:=J2.dD C aw (fun y hy=>by
       have:=dA 0 (Zae _) .o
       try dsimp only at this
       rw[Zdz,hy]at this
       have e:x4=x3:=by rw[bf]at aw;exact(ZaQ aw).symm
       rw[e]
       exact this)
      by_cases hz:(ia+k+1+1==a.size)=true
      ·rw[Zaq hz]
       exact Zaa ⟨ar,.inl ⟨_,rfl,J4.last C (by have:=Zaj.mp hz;omega) hl⟩⟩
      ·rw[Zam hz]
       have bj:¬(ia+k+1+1=a.size):=fun z=>hz (Zaj.mpr z)
       by_cases h7:(decide (k<7)&&decide (0<7))=true
       ·rw[Zaq h7]
        exact Zaa ⟨ar,.inr ⟨_,_,_,_,_,_,rfl,J4,.o,.o,.o⟩⟩
       ·rw[Zam h7]
        exact Zaa ⟨ar,_,_,_,_,_,_,rfl,J4,.o,.o,.o⟩
    ·rw[Zam jg]
     obtain rfl:k=0:=.o
     refine Zai (Zk bo ?_)
     have J2:=J.gD C bo (fun x hx=>by
      have:=dA 0 (Zae _) .o
      try dsimp only at this
      rw[Zdz,hx,ZdJ]at this
      exact C.o.cA _ _ this)
     by_cases hz:(ib+1==b.size)=true
     ·rw[Zaq hz]
      exact Zaa ⟨ar,.inl ⟨_,rfl,J2.done C (.inr (by have:=Zaj.mp hz;omega))⟩⟩
     rw[Zam hz]
     have bj:¬(ib+1=b.size):=fun z=>hz (Zaj.mpr z)
     obtain⟨x3,bf⟩:=Zf (xs:=a) (i:=ia) .o
     refine Zai (Zk bf ?_)
     refine Zai (ZL hc fY (fun i=>match b[ib+1+i]? with |some y=>r y x3 |none=>false) (fun i hi=> ?_) (ma x3 (Zx bf)) (fun i j cI hj hp=> ?_) .o fun k1 nM eE dA=> ?_)
     ·obtain⟨y,hy⟩:=Zf (xs:=b) (i:=ib+1+i) .o
      refine⟨y,hy,mb y (Zx hy),?_⟩
      try dsimp only
      rw[hy]
      rfl
     ·obtain⟨yj,cZ⟩:=Zf (xs:=b) (i:=ib+1+j) .o
      obtain⟨yi,da⟩:=Zf (xs:=b) (i:=ib+1+i) .o
      try dsimp only at hp |-
      rw[cZ]at hp
      rw[da]
      exact JI C.o hp (Yo C.o C.sb (ZA da) (ZA cZ) .o)
     try dsimp only
     by_cases bV:k1>0
     ·rw[Zaq bV]
      have J3:=J2.lL C k1 .o (fun i hi y x hy hx=>by
       rw[bf]at hx
       cases hx
       have:=eE i hi
       try dsimp only at this
       rw[hy]at this
       exact C.o.cA _ _ this)
      by_cases aI:(ib+1+k1==b.size)=true
      ·rw[Zaq aI]
       exact Zaa ⟨ar,.inl ⟨_,rfl,J3.done C (.inr (by have:=Zaj.mp aI;omega))⟩⟩
      rw[Zam aI]
      have nQ:¬(ib+1+k1=b.size):=fun z=>aI (Zaj.mpr z)
      obtain⟨x4,aw⟩:=Zf (xs:=a) (i:=ia) .o
      refine Zai (Zk aw ?_)
      have J4:=J3.dD C aw (fun y hy=>by
       have:=dA k1 (Zae _) .o
       try dsimp only at this
       rw[hy]at this
       have e:x4=x3:=by rw[bf]at aw;exact(ZaQ aw).symm
       rw[e]
       exact this)
      by_cases hz:(ia+1+1==a.size)=true
      ·rw[Zaq hz]
       exact Zaa ⟨ar,.inl ⟨_,rfl,J4.last C (by have:=Zaj.mp hz;omega) hl⟩⟩
      ·rw[Zam hz]
       have bj:¬(ia+1+1=a.size):=fun z=>hz (Zaj.mpr z)
       by_cases h7:(decide (0<7)&&decide (k1<7))=true
       ·rw[Zaq h7]
        exact Zaa ⟨ar,.inr ⟨_,_,_,_,_,_,rfl,J4,.o,.o,.o⟩⟩
       ·rw[Zam h7]
        exact Zaa ⟨ar,_,_,_,_,_,_,rfl,J4,.o,.o,.o⟩
     ·rw[Zam bV]
      obtain rfl:k1=0:=.o
      obtain⟨x4,aw⟩:=Zf (xs:=a) (i:=ia) .o
      refine Zai (Zk aw ?_)
      have J4:=J2.dD C aw (fun y hy=>by
       have:=dA 0 (Zae _) .o
       try dsimp only at this
       rw[Zdz,hy]at this
       have e:x4=x3:=by rw[bf]at aw;exact(ZaQ aw).symm
       rw[e]
       exact this)
      by_cases hz:(ia+1+1==a.size)=true
      ·rw[Zaq hz]
       exact Zaa ⟨ar,.inl ⟨_,rfl,J4.last C (by have:=Zaj.mp hz;omega) hl⟩⟩
      ·rw[Zam hz]
       have bj:¬(ia+1+1=a.size):=fun z=>hz (Zaj.mpr z)
       by_cases h7:(decide (0<7)&&decide (0<7))=true
       ·rw[Zaq h7]
        exact Zaa ⟨ar,.inr ⟨_,_,_,_,_,_,rfl,J4,.o,.o,.o⟩⟩
       ·rw[Zam h7]
        exact Zaa ⟨ar,_,_,_,_,_,_,rfl,J4,.o,.o,.o⟩
  ·rintro c ak ⟨gO,out,ia,ib,g,ac,bc,rfl,J,i1,i2,i4⟩
   rw[Za4 (Za2 _)]at i4
   omega
  rintro c ak ⟨gO,⟨res,ec,gd⟩ |⟨out,DY,DX,g,ac,bc,rfl,J2,k1,k2,k3⟩⟩
  ·rw[ec]
   exact Zaa ⟨gO,res,rfl,gd⟩
  dsimp only
  refine Zai (YN (Zaa ⟨gO,_,_,_,_,rfl,J2,k1,k2,.o⟩))
end
def NV:Array Keyed->Array Keyed->StateT SortSt Sem (Array Keyed):=sortPriv%PySem.Builtin.mergeHi
structure JH (r:Keyed->Keyed->Bool) (a b out:Array Keyed) (na nb:Nat):Prop where
 la:na<=a.size
 lb:nb<=b.size
 perm:((a.toList.take na++b.toList.take nb)++out.toList.reverse).Perm (a.toList++b.toList)
 kh:Pw r out.toList.reverse
 ij:∀y∈a.toList.take na++b.toList.take nb,∀x∈out.toList,r x y=false
def UR {l:List α}(h:l[i]? =some x):l.take (i+1)=l.take i++[x]:=by
 rw[ZbO,h]
 rfl
def Wj {r:Keyed->Keyed->Bool}{l:List Keyed}{i:Nat}{x:Keyed}(o:Ord r) (p:Pw r l) (h:l[i]? =some x):∀y∈l.take (i+1),r x y=false:=fun y hy=>by
 obtain⟨j,hj,e⟩:=Zdb hy
 rw[ZaU]at hj
 rw[Zhn]at e
 exact Yo (i:=j) o p (by rw[Zal .o,e]) h .o
def xo (xs:Array Keyed) (j:Nat):(xs.extract 0 j).toList=xs.toList.take j:=by
 rw[J7,ZeF,Zhr]
section
variable {r:Keyed->Keyed->Bool}{a b out:Array Keyed}{na nb:Nat}
def JH.dD (C:fK r a b) (J:JH r a b out na nb) {x:Keyed}(h1:1<=na) (hx:a[na - 1]? =some x) (h:1<=nb->∀y,b[nb - 1]? =some y->r x y=false):JH r a b (out.push x) (na - 1) nb:=by
 have la:=J.la
 have lb:=J.lb
 have jK:=ZA hx
 have ht:=UR jK
 rw[Zei h1]at ht
 have mx:x∈a.toList.take na:=by rw[ht];simp
 have low:∀y∈a.toList.take (na - 1)++b.toList.take nb,r x y=false:=fun y hy=>by
  rcases ZaL.mp hy with hy |hy
  ·exact Wj C.o C.sa jK y (by rw[Zei h1,ht];exact Za7 _ hy)
  ·have n1:1<=nb:=by
    rcases Zha nb with z |z
    ·rw[z]at hy;cases hy
    ·exact z
   obtain⟨z,e⟩:=Zf (xs:=b) (i:=nb - 1) .o
   have:=Wj C.o C.sb (ZA e) y (by rw[Zei n1];exact hy)
   exact C.o.dJ y z x this (h n1 z e)
 refine⟨.o,lb,?_,?_,fun y hy u hu=> ?_⟩
 ·rw[ZbK,Ze7]
  have P:=J.perm
  rw[ht]at P
  refine List.Perm.trans ?_ P
  show((a.toList.take (na - 1)++b.toList.take nb)++(x::out.toList.reverse)).Perm (((a.toList.take (na - 1)++[x])++b.toList.take nb)++out.toList.reverse)
  rw[Zbp,Zbp,Zbp]
  refine Zeh _ ?_
  show(b.toList.take nb++x::out.toList.reverse).Perm (x::(b.toList.take nb++out.toList.reverse))
  exact List.perm_middle
 ·rw[ZbK,Ze7]
  refine ZbU.mpr ⟨fun u hu=> ?_,J.kh⟩
  exact J.ij x (Za7 _ mx) u (ZfD.mp hu)
 ·rw[ZbK]at hu
  rcases ZaL.mp hu with hu |hu
  ·refine J.ij y ?_ u hu
   rcases ZaL.mp hy with hy |hy
   ·exact Za7 _ (by rw[ht];exact Za7 _ hy)
   ·exact ZaD _ hy
  ·rw[ZaI.mp hu]
   exact low y hy
def JH.gD (C:fK r a b) (J:JH r a b out na nb) {y:Keyed}(h1:1<=nb) (hy:b[nb - 1]? =some y) (h:1<=na->∀x,a[na - 1]? =some x->r y x=false):JH r a b (out.push y) na (nb - 1):=by
 have la:=J.la
 have lb:=J.lb
 have i9:=ZA hy
 have ht:=UR i9
 rw[Zei h1]at ht
 have my:y∈b.toList.take nb:=by rw[ht];simp
 have low:∀z∈a.toList.take na++b.toList.take (nb - 1),r y z=false:=fun z hz=>by
  rcases ZaL.mp hz with hz |hz
  ·have n1:1<=na:=by
    rcases Zha na with q |q
    ·rw[q]at hz;cases hz
    ·exact q
   obtain⟨x,e⟩:=Zf (xs:=a) (i:=na - 1) .o
   have:=Wj C.o C.sa (ZA e) z (by rw[Zei n1];exact hz)
   exact C.o.dJ z x y this (h n1 x e)
  ·exact Wj C.o C.sb i9 z (by rw[Zei h1,ht];exact Za7 _ hz)
 refine⟨la,.o,?_,?_,fun z hz u hu=> ?_⟩
 ·rw[ZbK,Ze7]
  have P:=J.perm
  rw[ht]at P
  refine List.Perm.trans ?_ P
  show((a.toList.take na++b.toList.take (nb - 1))++(y::out.toList.reverse)).Perm ((a.toList.take na++(b.toList.take (nb - 1)++[y]))++out.toList.reverse)
  rw[Zbp,Zbp,Zbp]
  exact .refl _
 ·rw[ZbK,Ze7]
  refine ZbU.mpr ⟨fun u hu=> ?_,J.kh⟩
  exact J.ij y (ZaD _ my) u (ZfD.mp hu)
 ·rw[ZbK]at hu
  rcases ZaL.mp hu with hu |hu
  ·refine J.ij z ?_ u hu
   rcases ZaL.mp hz with hz |hz
   ·exact Za7 _ hz
   ·exact ZaD _ (by rw[ht];exact Za7 _ hz)
  ·rw[ZaI.mp hu]
   exact low z hz
def Ic {xs:Array Keyed}{i n:Nat}{x:Keyed}(hx:xs[i]? =some x) (h:i<n) (hn:n<=xs.size):(xs.extract i n).reverse=(xs.extract (i+1) n).reverse.push x:=by
 apply Array.toList_inj.mp
 rw[ZeV,ZbK,ZeV,J7,J7,Ji (ZA hx),show n - i=(n - (i+1))+1 by omega,List.take_succ_cons,Zga]
def JH.pN (C:fK r a b) (J:JH r a b out na nb):∀k,k<=na->(∀i,na - k<=i->i<na->∀x y,a[i]? =some x->b[nb - 1]? =some y->r x y=false)->JH r a b (out++(a.extract (na - k) na).reverse) (na - k) nb
 |0,_,_=>by
  have e:a.extract (na - 0) na= #[]:=by simp;omega
  rw[e]
  simpa using J
 |k+1,hk,h=>by
  have la:=J.la
  obtain⟨x,hx⟩:=Zf (xs:=a) (i:=na - (k+1)) .o
  have ih:=JH.pN C J k .o fun i h1 h2=>h i .o h2
  have e1:na - k - 1=na - (k+1):=.o
  have:=ih.dD C (x:=x) .o (by rw[e1];exact hx) fun _ y hy=>h (na - (k+1)) (Zae _) .o x y hx hy
  rw[e1]at this
  rw[Ic hx .o la,show na - (k+1)+1=na - k by omega,Zft]
  exact this
def JH.lL (C:fK r a b) (J:JH r a b out na nb):∀k,k<=nb->(∀i,nb - k<=i->i<nb->∀y x,b[i]? =some y->a[na - 1]? =some x->r y x=false)->JH r a b (out++(b.extract (nb - k) nb).reverse) na (nb - k)
 |0,_,_=>by
  have e:b.extract (nb - 0) nb= #[]:=by simp;omega
  rw[e]
  simpa using J
 |k+1,hk,h=>by
  have lb:=J.lb
  obtain⟨y,hy⟩:=Zf (xs:=b) (i:=nb - (k+1)) .o
  have ih:=JH.lL C J k .o fun i h1 h2=>h i .o h2
  have e1:nb - k - 1=nb - (k+1):=.o
  have:=ih.gD C (y:=y) .o (by rw[e1];exact hy) fun _ x hx=>h (nb - (k+1)) (Zae _) .o y x hy hx
  rw[e1]at this
  rw[Ic hy .o lb,show nb - (k+1)+1=nb - k by omega,Zft]
  exact this
def JH.C6 (C:fK r a b) (J:JH r a b out na nb) (hm:m<=na) (h:∀i,m<=i->i<na->∀x y,a[i]? =some x->b[nb - 1]? =some y->r x y=false):JH r a b (out++(a.extract m na).reverse) m nb:=by
 have:=J.pN C (na - m) .o (fun i h1 h2=>h i .o h2)
 rw[show na - (na - m)=m by omega]at this
 exact this
def JH.vA (C:fK r a b) (J:JH r a b out na nb) (hm:m<=nb) (h:∀i,m<=i->i<nb->∀y x,b[i]? =some y->a[na - 1]? =some x->r y x=false):JH r a b (out++(b.extract m nb).reverse) na m:=by
 have:=J.lL C (nb - m) .o (fun i h1 h2=>h i .o h2)
 rw[show nb - (nb - m)=m by omega]at this
 exact this
def JH.done (C:fK r a b) (J:JH r a b out na nb) (h:na=0∨nb=0):Good r a b (a.extract 0 na++b.extract 0 nb++out.reverse):=by
 unfold Good
 rw[Zb8,Zb8,xo,xo,ZeV]
 refine⟨J.perm,?_⟩
 have pa:Pw r (a.toList.take na):=ZbN (ZdS _ _) C.sa
 have pb:Pw r (b.toList.take nb):=ZbN (ZdS _ _) C.sb
 refine Zbr.mpr ⟨?_,J.kh,fun y hy x hx=>J.ij y hy x (ZfD.mp hx)⟩
 rcases h with h |h
 ·rw[h,ZgU,Zdy]
  exact pb
 ·rw[h,ZgU,ZbP]
  exact pa
def JH.first (C:fK r a b) (J:JH r a b out na nb) (h:nb=1) (h0:∀y,b[0]? =some y->∀x∈a.toList,r x y=false):Good r a b (b.extract 0 nb++a.extract 0 na++out.reverse):=by
 have lb:=J.lb
 subst h
 unfold Good
 obtain⟨y,hy⟩:=Zf (xs:=b) (i:=0) .o
 have et:b.toList.take 1=[y]:=by rw[show(1:Nat)=0+1 from rfl,UR (ZA hy)];rfl
 rw[Zb8,Zb8,xo,xo,ZeV,et]
 have P:=J.perm
 have B:=J.ij
 rw[et]at P B
 have pa:Pw r (a.toList.take na):=ZbN (ZdS _ _) C.sa
 refine⟨List.Perm.trans (Zfm _ ZgI) P,?_⟩
 refine Zbr.mpr ⟨?_,J.kh,fun z hz x hx=>B z ?_ x (ZfD.mp hx)⟩
 ·refine ZbU.mpr ⟨fun z hz=>h0 y hy z (Zce hz),pa⟩
 ·rcases ZaL.mp hz with hz |hz
  ·exact ZaD _ hz
  ·exact Za7 _ hz
end
section
variable {prog:Program}{w:World}{A:Around}{E:Value->Shared->Prop}{s:Shared}{κ:SortKind}{a₀:Array Keyed}{r:Keyed->Keyed->Bool}
def Zag {a b:Array Keyed}{Q:Array Keyed->SortSt->Prop}{st:SortSt}(hc:jC prog w A E s κ a₀ r) (hk:kindOf st=κ) (C:fK r a b) (ma:∀x∈a.toList,x∈a₀.toList) (mb:∀x∈b.toList,x∈a₀.toList) (NJ:1<=a.size) (nb0:1<=b.size)
  (h0:∀y,b[0]? =some y->∀x∈a.toList,r x y=false) (hl:∀x,a[a.size - 1]? =some x->∀y∈b.toList,r x y=false)
  (h:∀res aa,SG st aa->Good r a b res->Q res aa):wpS (model prog w) A E s (NV a b) Q st:=by
 show wpS (model prog w) A E s (_ >>=_) _ _
 dsimp only
 refine Zai (Zgn (ZdA ⟨rfl,?_⟩))
 obtain⟨x0,nU⟩:=Zf (xs:=a) (i:=a.size - 1) .o
 refine Zai (Zk nU ?_)
 have J0:JH r a b #[x0] (a.size - 1) b.size:=by
  have e:JH r a b #[] a.size b.size:=⟨Zae _,Zae _,by simp[<-Array.length_toList],.nil,fun y hy x hx=>by cases hx⟩
  exact e.dD C NJ nU fun _ y hy=>hl x0 nU y (Zx hy)
 by_cases bT:(a.size - 1==0)=true
 ·rw[Zaq bT]
  exact Zaa (h _ _ (SG.refl _) (J0.done C (.inl (Zaj.mp bT))))
 rw[Zam bT]
 by_cases cq:(b.size==1)=true
 ·rw[Zaq cq]
  exact Zaa (h _ _ (SG.refl _) (J0.first C (Zaj.mp cq) h0))
 rw[Zam cq]
 have qg:¬(a.size - 1=0):=fun z=>bT (Zaj.mpr z)
 have vY:¬(b.size=1):=fun z=>cq (Zaj.mpr z)
 refine Zai (ZfC ?_)
 refine Zai (ZeT (ZbB (I:=fun x c av=>SG st av/\∃na nb out g,c=(none,na,nb,out,g)/\JH r a b out na nb/\1<=na/\2<=nb/\na+nb+x+1<=a.size+b.size) (Q:=fun c av=>SG st av/\∃res,c.fst=some res/\Good r a b res) ?step ?fin ⟨SG.refl _,_,_,_,_,rfl,J0,.o,.o,.o⟩) ?post)
 case post=>
  rintro c av ⟨iX,res,ec,gd⟩
  rw[ec]
  exact Zaa (h res av iX gd)
 case fin=>
  rintro c av ⟨_,na,nb,out,g,_,_,i1,i2,i3⟩
  rw[Za4 (Za2 _)]at i3
  omega
 case step=>
  rintro x c av _ hx ⟨iX,na,nb,out,g,rfl,J,i1,i2,i3⟩
  dsimp only
  have bV:kindOf av=κ:=by rw[iX.1];exact hk
  refine Zai (ZeT (ZbB (I:=fun y c ak=>ak=av/\∃ft fq fk ac bc,c=(none,ft,fq,fk,ac,bc)/\JH r a b fk ft fq/\1<=ft/\2<=fq/\ft+fq+y<=na+nb)
   (Q:=fun c ak=>ak=av/\((∃res,c.fst=some res/\Good r a b res)∨∃ft fq fk ac bc,c=(none,ft,fq,fk,ac,bc)/\JH r a b fk ft fq/\1<=ft/\2<=fq/\ft+fq+1<=na+nb)) ?_ ?_ ⟨rfl,_,_,_,_,_,rfl,J,i1,i2,.o⟩) ?_)
  ·rintro y c ak _ hy ⟨rfl,ft,fq,fk,ac,bc,rfl,J',j1,j2,j3⟩
   dsimp only
   have la:=J'.la
   have lb:=J'.lb
   obtain⟨yb,i8⟩:=Zf (xs:=b) (i:=fq - 1) .o
   obtain⟨xa,ja⟩:=Zf (xs:=a) (i:=ft - 1) .o
   refine Zai (Zk i8 (Zai (Zk ja (Zai (hc _ _ _ _ (mb _ (Zx i8)) (ma _ (Zx ja)) bV ?_)))))
   dsimp only
   cases hr:r yb xa with
   |true=>
    rw[Zaq rfl]
    refine Zai (Zk ja ?_)
    have J2:=J'.dD C j1 ja (fun _ y hy=>by rw[i8]at hy;cases hy;exact C.o.cA _ _ hr)
    by_cases hz:(ft - 1==0)=true
    ·rw[Zaq hz]
     exact Zaa ⟨rfl,.inl ⟨_,rfl,J2.done C (.inl (Zaj.mp hz))⟩⟩
    rw[Zam hz]
    have bj:¬(ft - 1=0):=fun z=>hz (Zaj.mpr z)
    by_cases hg:ac+1>=g
    ·rw[Zaq hg]
     exact Zaa ⟨rfl,.inr ⟨_,_,_,_,_,rfl,J2,.o,.o,.o⟩⟩
    ·rw[Zam hg]
     exact Zaa ⟨rfl,_,_,_,_,_,rfl,J2,.o,.o,.o⟩
   |false=>
    rw[Zam Zav]
    refine Zai (Zk i8 ?_)
    have J2:=J'.gD C .o i8 (fun _ x hx=>by rw[ja]at hx;cases hx;exact hr)
    by_cases hz:(fq - 1==1)=true
    ·rw[Zaq hz]
     exact Zaa ⟨rfl,.inl ⟨_,rfl,J2.first C (Zaj.mp hz) h0⟩⟩
    rw[Zam hz]
    have bj:¬(fq - 1=1):=fun z=>hz (Zaj.mpr z)
    by_cases hg:bc+1>=g
    ·rw[Zaq hg]
     exact Zaa ⟨rfl,.inr ⟨_,_,_,_,_,rfl,J2,.o,.o,.o⟩⟩
    ·rw[Zam hg]
     exact Zaa ⟨rfl,_,_,_,_,_,rfl,J2,.o,.o,.o⟩
  ·rintro c ak ⟨rfl,ft,fq,fk,ac,bc,rfl,J',j1,j2,j3⟩
   rw[Za4 (Za2 _)]at j3
   have la:=J.la
   have lb:=J.lb
   omega
  rintro c ak ⟨rfl,⟨res,ec,gd⟩ |⟨ft,fq,fk,ac,bc,rfl,J',j1,j2,j3⟩⟩
  ·rw[ec]
   exact Zaa ⟨iX,res,rfl,gd⟩
  dsimp only
  refine Zai (Zgn (ZdA ⟨rfl,?_⟩))
  refine Zai (ZeT (ZbB (I:=fun y c ak=>SG st ak/\∃na nb out g ac bc,c=(none,na,nb,out,g,ac,bc)/\JH r a b out na nb/\1<=na/\2<=nb/\na+nb+y<=ft+fq)
   (Q:=fun c ak=>SG st ak/\((∃res,c.fst=some res/\Good r a b res)∨∃na nb out g ac bc,c=(none,na,nb,out,g,ac,bc)/\JH r a b out na nb/\1<=na/\2<=nb/\na+nb<=ft+fq)) ?_ ?_ ⟨iX,_,_,_,_,_,_,rfl,J',j1,j2,.o⟩) ?_)
  ·clear J i1 i2 bV
   rintro y c ak _ hy ⟨gO,rT,DE,out,g,ac,bc,rfl,J,i1,i2,i4⟩
   dsimp only
   revert J i1 i2 i4
   clear j3 i3
   generalize rT=na
   generalize DE=nb
   intro J i1 i2 i4
   have la:=J.la
   have lb:=J.lb
   by_cases mw:g>1
   ·rw[Zaq mw]
    refine Zai (YN ?_)
    generalize oo:SortSt.mk' _ _ _ _ _=ba
    have ar:SG st ba:=by rw[<-oo];exact gO
    have fY:kindOf ba=κ:=by rw[ar.1];exact hk
    obtain⟨y2,bo⟩:=Zf (xs:=b) (i:=nb - 1) .o
    refine Zai (Zk bo ?_)
    refine Zai (ZL hc fY (fun i=>match a[0+i]? with |some x=> !r y2 x |none=>false) (fun i hi=> ?_) (mb y2 (Zx bo)) (fun i j cI hj hp=> ?_) .o fun at_ kn eE dA=> ?_)
    ·obtain⟨x,hx⟩:=Zf (xs:=a) (i:=0+i) .o
     refine⟨x,hx,ma x (Zx hx),?_⟩
     try dsimp only
     rw[hx]
     rfl
    ·obtain⟨xj,gG⟩:=Zf (xs:=a) (i:=0+j) .o
     obtain⟨xi,gH⟩:=Zf (xs:=a) (i:=0+i) .o
     try dsimp only at hp |-
     rw[gG]at hp
     rw[gH]
     rw[Zbv]at hp |-
     exact C.o.dJ _ _ _ (Yo C.o C.sa (ZA gH) (ZA gG) .o) hp
    try dsimp only
    by_cases jg:na - at_>0
    ·rw[Zaq jg]
     have J1:=J.C6 C (m:=at_) .o (fun i jh g8 x y hx hy=>by
      rw[bo]at hy
      cases hy
      have:=dA i jh g8
      try dsimp only at this
      rw[Zb6,hx,ZdJ]at this
      exact C.o.cA _ _ this)
     by_cases bT:(at_==0)=true
     ·rw[Zaq bT]
      exact Zaa ⟨ar,.inl ⟨_,rfl,J1.done C (.inl (Zaj.mp bT))⟩⟩
     rw[Zam bT]
     have qg:¬(at_=0):=fun z=>bT (Zaj.mpr z)
     refine Zai (Zk bo ?_)
     have J2:=J1.gD C .o bo (fun _ x hx=>by
      have:=eE (at_ - 1) .o
      try dsimp only at this
      rw[Zb6,hx,Zbv]at this
      exact this)
     by_cases hz:(nb - 1==1)=true
     ·rw[Zaq hz]
      exact Zaa ⟨ar,.inl ⟨_,rfl,J2.first C (Zaj.mp hz) h0⟩⟩
     rw[Zam hz]
     have bj:¬(nb - 1=1):=fun z=>hz (Zaj.mpr z)
     obtain⟨x3,bf⟩:=Zf (xs:=a) (i:=at_ - 1) .o
     refine Zai (Zk bf ?_)
     refine Zai (ZL hc fY (fun i=>match b[0+i]? with |some y=>r y x3 |none=>false) (fun i hi=> ?_) (ma x3 (Zx bf)) (fun i j cI hj hp=> ?_) .o fun k1 nM i7 nK=> ?_)
     ·obtain⟨y,hy⟩:=Zf (xs:=b) (i:=0+i) .o
      refine⟨y,hy,mb y (Zx hy),?_⟩
      try dsimp only
      rw[hy]
      rfl
     ·obtain⟨yj,cZ⟩:=Zf (xs:=b) (i:=0+j) .o
      obtain⟨yi,da⟩:=Zf (xs:=b) (i:=0+i) .o
      try dsimp only at hp |-
      rw[cZ]at hp
      rw[da]
      exact JI C.o hp (Yo C.o C.sb (ZA da) (ZA cZ) .o)
     try dsimp only
     by_cases bV:nb - 1 - k1>0
     ·rw[Zaq bV]
      have J3:=J2.vA C (m:=k1) .o (fun i jh g8 y x hy hx=>by
       rw[bf]at hx
       cases hx
       have:=nK i jh g8
       try dsimp only at this
       rw[Zb6,hy]at this
       exact this)
      by_cases aI:(k1==1)=true
      ·rw[Zaq aI]
       exact Zaa ⟨ar,.inl ⟨_,rfl,J3.first C (Zaj.mp aI) h0⟩⟩
      rw[Zam aI]
      by_cases dM:(k1==0)=true
      ·rw[Zaq dM]
       exact Zaa ⟨ar,.inl ⟨_,rfl,J3.done C (.inr (Zaj.mp dM))⟩⟩
      rw[Zam dM]
      have nQ:¬(k1=1):=fun z=>aI (Zaj.mpr z)
      have zX:¬(k1=0):=fun z=>dM (Zaj.mpr z)
      obtain⟨x4,aw⟩:=Zf (xs:=a) (i:=at_ - 1) .o
      refine Zai (Zk aw ?_)
      have J4:=J3.dD C .o aw (fun _ y hy=>by
       have:=i7 (k1 - 1) .o
       try dsimp only at this
       rw[Zb6,hy]at this
       have e:x4=x3:=by rw[bf]at aw;exact(ZaQ aw).symm
       rw[e]
       exact C.o.cA _ _ this)
      by_cases hz:(at_ - 1==0)=true
      ·rw[Zaq hz]
       exact Zaa ⟨ar,.inl ⟨_,rfl,J4.done C (.inl (by have:=Zaj.mp hz;omega))⟩⟩
      ·rw[Zam hz]
       have bj:¬(at_ - 1=0):=fun z=>hz (Zaj.mpr z)
       by_cases h7:(decide (na - at_<7)&&decide (nb - 1 - k1<7))=true
       ·rw[Zaq h7]
        exact Zaa ⟨ar,.inr ⟨_,_,_,_,_,_,rfl,J4,.o,.o,.o⟩⟩
       ·rw[Zam h7]
        exact Zaa ⟨ar,_,_,_,_,_,_,rfl,J4,.o,.o,.o⟩
     ·rw[Zam bV]
      obtain rfl:k1=nb - 1:=.o
      obtain⟨x4,aw⟩:=Zf (xs:=a) (i:=at_ - 1) .o
      refine Zai (Zk aw ?_)
      have J4:=J2.dD C .o aw (fun _ y hy=>by
       have:=i7 (nb - 1 - 1) .o
       try dsimp only at this
       rw[Zb6,hy]at this
       have e:x4=x3:=by rw[bf]at aw;exact(ZaQ aw).symm
       rw[e]
       exact C.o.cA _ _ this)
      by_cases hz:(at_ - 1==0)=true
      ·rw[Zaq hz]
       exact Zaa ⟨ar,.inl ⟨_,rfl,J4.done C (.inl (by have:=Zaj.mp hz;omega))⟩⟩
      ·rw[Zam hz]
       have bj:¬(at_ - 1=0):=fun z=>hz (Zaj.mpr z)
       by_cases h7:(decide (na - at_<7)&&decide (nb - 1 - (nb - 1)<7))=true
       ·rw[Zaq h7]
        exact Zaa ⟨ar,.inr ⟨_,_,_,_,_,_,rfl,J4,.o,.o,.o⟩⟩
       ·rw[Zam h7]
        exact Zaa ⟨ar,_,_,_,_,_,_,rfl,J4,.o,.o,.o⟩
    ·rw[Zam jg]
     obtain rfl:at_=na:=.o
     refine Zai (Zk bo ?_)
     have J2:=J.gD C .o bo (fun _ x hx=>by
      have:=eE (at_ - 1) .o
      try dsimp only at this
      rw[Zb6,hx,Zbv]at this
      exact this)
     by_cases hz:(nb - 1==1)=true
     ·rw[Zaq hz]
      exact Zaa ⟨ar,.inl ⟨_,rfl,J2.first C (Zaj.mp hz) h0⟩⟩
     rw[Zam hz]
     have bj:¬(nb - 1=1):=fun z=>hz (Zaj.mpr z)
     obtain⟨x3,bf⟩:=Zf (xs:=a) (i:=at_ - 1) .o
     refine Zai (Zk bf ?_)
     refine Zai (ZL hc fY (fun i=>match b[0+i]? with |some y=>r y x3 |none=>false) (fun i hi=> ?_) (ma x3 (Zx bf)) (fun i j cI hj hp=> ?_) .o fun k1 nM i7 nK=> ?_)
     ·obtain⟨y,hy⟩:=Zf (xs:=b) (i:=0+i) .o
      refine⟨y,hy,mb y (Zx hy),?_⟩
      try dsimp only
      rw[hy]
      rfl
     ·obtain⟨yj,cZ⟩:=Zf (xs:=b) (i:=0+j) .o
      obtain⟨yi,da⟩:=Zf (xs:=b) (i:=0+i) .o
      try dsimp only at hp |-
      rw[cZ]at hp
      rw[da]
      exact JI C.o hp (Yo C.o C.sb (ZA da) (ZA cZ) .o)
     try dsimp only
     by_cases bV:nb - 1 - k1>0
     ·rw[Zaq bV]
      have J3:=J2.vA C (m:=k1) .o (fun i jh g8 y x hy hx=>by
       rw[bf]at hx
       cases hx
       have:=nK i jh g8
       try dsimp only at this
       rw[Zb6,hy]at this
       exact this)
      by_cases aI:(k1==1)=true
      ·rw[Zaq aI]
       exact Zaa ⟨ar,.inl ⟨_,rfl,J3.first C (Zaj.mp aI) h0⟩⟩
      rw[Zam aI]
      by_cases dM:(k1==0)=true
      ·rw[Zaq dM]
       exact Zaa ⟨ar,.inl ⟨_,rfl,J3.done C (.inr (Zaj.mp dM))⟩⟩
      rw[Zam dM]
      have nQ:¬(k1=1):=fun z=>aI (Zaj.mpr z)
      have zX:¬(k1=0):=fun z=>dM (Zaj.mpr z)
      obtain⟨x4,aw⟩:=Zf (xs:=a) (i:=at_ - 1) .o
      refine Zai (Zk aw ?_)
      have J4:=J3.dD C .o aw (fun _ y hy=>by
       have:=i7 (k1 - 1) .o
       try dsimp only at this
       rw[Zb6,hy]at this
       have e:x4=x3:=by rw[bf]at aw;exact(ZaQ aw).symm
       rw[e]
       exact C.o.cA _ _ this)
      by_cases hz:(at_ - 1==0)=true
      ·rw[Zaq hz]
       exact Zaa ⟨ar,.inl ⟨_,rfl,J4.done C (.inl (by have:=Zaj.mp hz;omega))⟩⟩
      ·rw[Zam hz]
       have bj:¬(at_ - 1=0):=fun z=>hz (Zaj.mpr z)
       by_cases h7:(decide (at_ - at_<7)&&decide (nb - 1 - k1<7))=true
       ·rw[Zaq h7]
        exact Zaa ⟨ar,.inr ⟨_,_,_,_,_,_,rfl,J4,.o,.o,.o⟩⟩
       ·rw[Zam h7]
        exact Zaa ⟨ar,_,_,_,_,_,_,rfl,J4,.o,.o,.o⟩
     ·rw[Zam bV]
      obtain rfl:k1=nb - 1:=.o
      obtain⟨x4,aw⟩:=Zf (xs:=a) (i:=at_ - 1) .o
      refine Zai (Zk aw ?_)
      have J4:=J2.dD C .o aw (fun _ y hy=>by
       have:=i7 (nb - 1 - 1) .o
       try dsimp only at this
       rw[Zb6,hy]at this
       have e:x4=x3:=by rw[bf]at aw;exact(ZaQ aw).symm
       rw[e]
       exact C.o.cA _ _ this)
      by_cases hz:(at_ - 1==0)=true
      ·rw[Zaq hz]
       exact Zaa ⟨ar,.inl ⟨_,rfl,J4.done C (.inl (by have:=Zaj.mp hz;omega))⟩⟩
      ·rw[Zam hz]
       have bj:¬(at_ - 1=0):=fun z=>hz (Zaj.mpr z)
       by_cases h7:(decide (at_ - at_<7)&&decide (nb - 1 - (nb - 1)<7))=true
       ·rw[Zaq h7]
        exact Zaa ⟨ar,.inr ⟨_,_,_,_,_,_,rfl,J4,.o,.o,.o⟩⟩
       ·rw[Zam h7]
        exact Zaa ⟨ar,_,_,_,_,_,_,rfl,J4,.o,.o,.o⟩
   ·rw[Zam mw]
    refine Zai (YN ?_)
    generalize oo:SortSt.mk' _ _ _ _ _=ba
    have ar:SG st ba:=by rw[<-oo];exact gO
    have fY:kindOf ba=κ:=by rw[ar.1];exact hk
    obtain⟨y2,bo⟩:=Zf (xs:=b) (i:=nb - 1) .o
    refine Zai (Zk bo ?_)
    refine Zai (ZL hc fY (fun i=>match a[0+i]? with |some x=> !r y2 x |none=>false) (fun i hi=> ?_) (mb y2 (Zx bo)) (fun i j cI hj hp=> ?_) .o fun at_ kn eE dA=> ?_)
    ·obtain⟨x,hx⟩:=Zf (xs:=a) (i:=0+i) .o
     refine⟨x,hx,ma x (Zx hx),?_⟩
     try dsimp only
     rw[hx]
     rfl
    ·obtain⟨xj,gG⟩:=Zf (xs:=a) (i:=0+j) .o
     obtain⟨xi,gH⟩:=Zf (xs:=a) (i:=0+i) .o
     try dsimp only at hp |-
     rw[gG]at hp
     rw[gH]
     rw[Zbv]at hp |-
     exact C.o.dJ _ _ _ (Yo C.o C.sa (ZA gH) (ZA gG) .o) hp
    try dsimp only
    by_cases jg:na - at_>0
    ·rw[Zaq jg]
     have J1:=J.C6 C (m:=at_) .o (fun i jh g8 x y hx hy=>by
      rw[bo]at hy
      cases hy
      have:=dA i jh g8
      try dsimp only at this
      rw[Zb6,hx,ZdJ]at this
      exact C.o.cA _ _ this)
     by_cases bT:(at_==0)=true
     ·rw[Zaq bT]
      exact Zaa ⟨ar,.inl ⟨_,rfl,J1.done C (.inl (Zaj.mp bT))⟩⟩
     rw[Zam bT]
     have qg:¬(at_=0):=fun z=>bT (Zaj.mpr z)
     refine Zai (Zk bo ?_)
     have J2:=J1.gD C .o bo (fun _ x hx=>by
      have:=eE (at_ - 1) .o
      try dsimp only at this
      rw[Zb6,hx,Zbv]at this
      exact this)
     by_cases hz:(nb - 1==1)=true
     ·rw[Zaq hz]
      exact Zaa ⟨ar,.inl ⟨_,rfl,J2.first C (Zaj.mp hz) h0⟩⟩
     rw[Zam hz]
     have bj:¬(nb - 1=1):=fun z=>hz (Zaj.mpr z)
     obtain⟨x3,bf⟩:=Zf (xs:=a) (i:=at_ - 1) .o
     refine Zai (Zk bf ?_)
     refine Zai (ZL hc fY (fun i=>match b[0+i]? with |some y=>r y x3 |none=>false) (fun i hi=> ?_) (ma x3 (Zx bf)) (fun i j cI hj hp=> ?_) .o fun k1 nM i7 nK=> ?_)
     ·obtain⟨y,hy⟩:=Zf (xs:=b) (i:=0+i) .o
      refine⟨y,hy,mb y (Zx hy),?_⟩
      try dsimp only
      rw[hy]
      rfl
     ·obtain⟨yj,cZ⟩:=Zf (xs:=b) (i:=0+j) .o
      obtain⟨yi,da⟩:=Zf (xs:=b) (i:=0+i) .o
      try dsimp only at hp |-
      rw[cZ]at hp
      rw[da]
      exact JI C.o hp (Yo C.o C.sb (ZA da) (ZA cZ) .o)
     try dsimp only
     by_cases bV:nb - 1 - k1>0
     ·rw[Zaq bV]
      have J3:=J2.vA C (m:=k1) .o (fun i jh g8 y x hy hx=>by
       rw[bf]at hx
       cases hx
       have:=nK i jh g8
       try dsimp only at this
       rw[Zb6,hy]at this
       exact this)
      by_cases aI:(k1==1)=true
      ·rw[Zaq aI]
       exact Zaa ⟨ar,.inl ⟨_,rfl,J3.first C (Zaj.mp aI) h0⟩⟩
      rw[Zam aI]
      by_cases dM:(k1==0)=true
      ·rw[Zaq dM]
       exact Zaa ⟨ar,.inl ⟨_,rfl,J3.done C (.inr (Zaj.mp dM))⟩⟩
      rw[Zam dM]
      have nQ:¬(k1=1):=fun z=>aI (Zaj.mpr z)
      have zX:¬(k1=0):=fun z=>dM (Zaj.mpr z)
      obtain⟨x4,aw⟩:=Zf (xs:=a) (i:=at_ - 1) .o
      refine Zai (Zk aw ?_)
      have J4:=J3.dD C .o aw (fun _ y hy=>by
       have:=i7 (k1 - 1) .o
       try dsimp only at this
       rw[Zb6,hy]at this
       have e:x4=x3:=by rw[bf]at aw;exact(ZaQ aw).symm
       rw[e]
       exact C.o.cA _ _ this)
      by_cases hz:(at_ - 1==0)=true
      ·rw[Zaq hz]
       exact Zaa ⟨ar,.inl ⟨_,rfl,J4.done C (.inl (by have:=Zaj.mp hz;omega))⟩⟩
      ·rw[Zam hz]
       have bj:¬(at_ - 1=0):=fun z=>hz (Zaj.mpr z)
       by_cases h7:(decide (na - at_<7)&&decide (nb - 1 - k1<7))=true
       ·rw[Zaq h7]
        exact Zaa ⟨ar,.inr ⟨_,_,_,_,_,_,rfl,J4,.o,.o,.o⟩⟩
       ·rw[Zam h7]
        exact Zaa ⟨ar,_,_,_,_,_,_,rfl,J4,.o,.o,.o⟩
     ·rw[Zam bV]
      obtain rfl:k1=nb - 1:=.o
      obtain⟨x4,aw⟩:=Zf (xs:=a) (i:=at_ - 1) .o
      refine Zai (Zk aw ?_)
      have J4:=J2.dD C .o aw (fun _ y hy=>by
       have:=i7 (nb - 1 - 1) .o
       try dsimp only at this
       rw[Zb6,hy]at this
       have e:x4=x3:=by rw[bf]at aw;exact(ZaQ aw).symm
       rw[e]
       exact C.o.cA _ _ this)
      by_cases hz:(at_ - 1==0)=true
      ·rw[Zaq hz]
       exact Zaa ⟨ar,.inl ⟨_,rfl,J4.done C (.inl (by have:=Zaj.mp hz;omega))⟩⟩
      ·rw[Zam hz]
       have bj:¬(at_ - 1=0):=fun z=>hz (Zaj.mpr z)
       by_cases h7:(decide (na - at_<7)&&decide (nb - 1 - (nb - 1)<7))=true
       ·rw[Zaq h7]
        exact Zaa ⟨ar,.inr ⟨_,_,_,_,_,_,rfl,J4,.o,.o,.o⟩⟩
       ·rw[Zam h7]
        exact Zaa ⟨ar,_,_,_,_,_,_,rfl,J4,.o,.o,.o⟩
    ·rw[Zam jg]
     obtain rfl:at_=na:=.o
     refine Zai (Zk bo ?_)
     have J2:=J.gD C .o bo (fun _ x hx=>by
      have:=eE (at_ - 1) .o
      try dsimp only at this
      rw[Zb6,hx,Zbv]at this
      exact this)
     by_cases hz:(nb - 1==1)=true
     ·rw[Zaq hz]
      exact Zaa ⟨ar,.inl ⟨_,rfl,J2.first C (Zaj.mp hz) h0⟩⟩
     rw[Zam hz]
     have bj:¬(nb - 1=1):=fun z=>hz (Zaj.mpr z)
     obtain⟨x3,bf⟩:=Zf (xs:=a) (i:=at_ - 1) .o
     refine Zai (Zk bf ?_)
     refine Zai (ZL hc fY (fun i=>match b[0+i]? with |some y=>r y x3 |none=>false) (fun i hi=> ?_) (ma x3 (Zx bf)) (fun i j cI hj hp=> ?_) .o fun k1 nM i7 nK=> ?_)
     ·obtain⟨y,hy⟩:=Zf (xs:=b) (i:=0+i) .o
      refine⟨y,hy,mb y (Zx hy),?_⟩
      try dsimp only
      rw[hy]
      rfl
     ·obtain⟨yj,cZ⟩:=Zf (xs:=b) (i:=0+j) .o
      obtain⟨yi,da⟩:=Zf (xs:=b) (i:=0+i) .o
      try dsimp only at hp |-
      rw[cZ]at hp
      rw[da]
      exact JI C.o hp (Yo C.o C.sb (ZA da) (ZA cZ) .o)
     try dsimp only
     by_cases bV:nb - 1 - k1>0
     ·rw[Zaq bV]
      have J3:=J2.vA C (m:=k1) .o (fun i jh g8 y x hy hx=>by
       rw[bf]at hx
       cases hx
       have:=nK i jh g8
       try dsimp only at this
       rw[Zb6,hy]at this
       exact this)
      by_cases aI:(k1==1)=true
      ·rw[Zaq aI]
       exact Zaa ⟨ar,.inl ⟨_,rfl,J3.first C (Zaj.mp aI) h0⟩⟩
      rw[Zam aI]
      by_cases dM:(k1==0)=true
      ·rw[Zaq dM]
       exact Zaa ⟨ar,.inl ⟨_,rfl,J3.done C (.inr (Zaj.mp dM))⟩⟩
      rw[Zam dM]
      have nQ:¬(k1=1):=fun z=>aI (Zaj.mpr z)
      have zX:¬(k1=0):=fun z=>dM (Zaj.mpr z)
      obtain⟨x4,aw⟩:=Zf (xs:=a) (i:=at_ - 1) .o
      refine Zai (Zk aw ?_)
      have J4:=J3.dD C .o aw (fun _ y hy=>by
       have:=i7 (k1 - 1) .o
       try dsimp only at this
       rw[Zb6,hy]at this
       have e:x4=x3:=by rw[bf]at aw;exact(ZaQ aw).symm
       rw[e]
       exact C.o.cA _ _ this)
      by_cases hz:(at_ - 1==0)=true
      ·rw[Zaq hz]
       exact Zaa ⟨ar,.inl ⟨_,rfl,J4.done C (.inl (by have:=Zaj.mp hz;omega))⟩⟩
      ·rw[Zam hz]
       have bj:¬(at_ - 1=0):=fun z=>hz (Zaj.mpr z)
       by_cases h7:(decide (at_ - at_<7)&&decide (nb - 1 - k1<7))=true
       ·rw[Zaq h7]
        exact Zaa ⟨ar,.inr ⟨_,_,_,_,_,_,rfl,J4,.o,.o,.o⟩⟩
       ·rw[Zam h7]
        exact Zaa ⟨ar,_,_,_,_,_,_,rfl,J4,.o,.o,.o⟩
     ·rw[Zam bV]
      obtain rfl:k1=nb - 1:=.o
      obtain⟨x4,aw⟩:=Zf (xs:=a) (i:=at_ - 1) .o
      refine Zai (Zk aw ?_)
      have J4:=J2.dD C .o aw (fun _ y hy=>by
       have:=i7 (nb - 1 - 1) .o
       try dsimp only at this
       rw[Zb6,hy]at this
       have e:x4=x3:=by rw[bf]at aw;exact(ZaQ aw).symm
       rw[e]
       exact C.o.cA _ _ this)
      by_cases hz:(at_ - 1==0)=true
      ·rw[Zaq hz]
       exact Zaa ⟨ar,.inl ⟨_,rfl,J4.done C (.inl (by have:=Zaj.mp hz;omega))⟩⟩
      ·rw[Zam hz]
       have bj:¬(at_ - 1=0):=fun z=>hz (Zaj.mpr z)
       by_cases h7:(decide (at_ - at_<7)&&decide (nb - 1 - (nb - 1)<7))=true
       ·rw[Zaq h7]
        exact Zaa ⟨ar,.inr ⟨_,_,_,_,_,_,rfl,J4,.o,.o,.o⟩⟩
       ·rw[Zam h7]
        exact Zaa ⟨ar,_,_,_,_,_,_,rfl,J4,.o,.o,.o⟩
  ·rintro c ak ⟨gO,na,nb,out,g,ac,bc,rfl,J,i1,i2,i4⟩
   rw[Za4 (Za2 _)]at i4
   have la:=J'.la
   have lb:=J'.lb
   omega
  rintro c ak ⟨gO,⟨res,ec,gd⟩ |⟨rT,DE,out,g,ac,bc,rfl,J2,k1,k2,k3⟩⟩
  ·rw[ec]
   exact Zaa ⟨gO,res,rfl,gd⟩
  dsimp only
  refine Zai (YN (Zaa ⟨gO,_,_,_,_,rfl,J2,k1,k2,.o⟩))
end
def SI (r:Keyed->Keyed->Bool) (xs:Array Keyed) (lo hi:Nat):Prop:=∀i j x y,lo<=i->i<=j->j<hi->xs[i]? =some x->xs[j]? =some y->r y x=false
def NI (r:Keyed->Keyed->Bool) (xs:Array Keyed) (lo hi:Nat):Prop:=∀i j x y,lo<=i->i<=j->j<hi->xs[i]? =some x->xs[j]? =some y->r x y=false
def EQ (r:Keyed->Keyed->Bool) (xs:Array Keyed) (lo hi:Nat):Prop:=∀i j x y,lo<=i->i<hi->lo<=j->j<hi->xs[i]? =some x->xs[j]? =some y->r x y=false
section
variable {r:Keyed->Keyed->Bool}{xs:Array Keyed}{lo hi:Nat}
def SI.one (o:Ord r):SI r xs lo (lo+1):=fun i j x y h1 h2 h3 hx hy=>by
 obtain rfl:i=j:=.o
 rw[hx]at hy;cases hy;exact o.lZ _
def NI.one (o:Ord r):NI r xs lo (lo+1):=fun i j x y h1 h2 h3 hx hy=>by
 obtain rfl:i=j:=.o
 rw[hx]at hy;cases hy;exact o.lZ _
def EQ.one (o:Ord r):EQ r xs lo (lo+1):=fun i j x y h1 h2 h3 h4 hx hy=>by
 obtain rfl:i=j:=.o
 rw[hx]at hy;cases hy;exact o.lZ _
def SI.snoc (o:Ord r) (h:SI r xs lo hi) (hl:lo<hi) (hp:xs[hi - 1]? =some p) (hq:xs[hi]? =some q) (hr:r q p=false):SI r xs lo (hi+1):=fun i j x y h1 h2 h3 hx hy=>by
 by_cases hj:j<hi
 ·exact h i j x y h1 h2 hj hx hy
 ·obtain rfl:j=hi:=.o
  rw[hq]at hy;cases hy
  by_cases bg:i=j
  ·subst bg
   rw[hq]at hx;cases hx;exact o.lZ _
  ·exact o.dJ x p q (h i (j - 1) x p h1 .o .o hx hp) hr
def NI.snoc (o:Ord r) (h:NI r xs lo hi) (hl:lo<hi) (hp:xs[hi - 1]? =some p) (hq:xs[hi]? =some q) (hr:r p q=false):NI r xs lo (hi+1):=fun i j x y h1 h2 h3 hx hy=>by
 by_cases hj:j<hi
 ·exact h i j x y h1 h2 hj hx hy
 ·obtain rfl:j=hi:=.o
  rw[hq]at hy;cases hy
  by_cases bg:i=j
  ·subst bg
   rw[hq]at hx;cases hx;exact o.lZ _
  ·exact o.dJ q p x hr (h i (j - 1) x p h1 .o .o hx hp)
def EQ.snoc (o:Ord r) (h:EQ r xs lo hi) (hl:lo<hi) (hp:xs[hi - 1]? =some p) (hq:xs[hi]? =some q) (hr:r p q=false) (fA:r q p=false):EQ r xs lo (hi+1):=fun i j x y h1 h2 h3 h4 hx hy=>by
 have one:∀i x,lo<=i->i<hi->xs[i]? =some x->r x q=false/\r q x=false:=fun i x h1 h2 hx=>
  ⟨o.dJ q p x hr (h i (hi - 1) x p h1 h2 .o .o hx hp),o.dJ x p q (h (hi - 1) i p x .o .o h1 h2 hp hx) fA⟩
 by_cases hj:j<hi
 ·by_cases bg:i<hi
  ·exact h i j x y h1 bg h3 hj hx hy
  ·obtain rfl:i=hi:=.o
   rw[hq]at hx;cases hx
   exact(one j y h3 hj hy).2
 ·obtain rfl:j=hi:=.o
  rw[hq]at hy;cases hy
  by_cases bg:i<j
  ·exact(one i x h1 bg hx).1
  ·obtain rfl:i=j:=.o
   rw[hq]at hx;cases hx
   exact o.lZ _
abbrev bE (xs:Array Keyed) (i j:Nat):Array Keyed:=mirror xs i j ((j - i)/2)
def WF (hh:hi<=xs.size) (k:Nat):(bE xs lo hi)[k]? =if lo<=k/\k<hi then xs[lo+hi - 1 - k]? else xs[k]? :=getElem?_mirror_all hh k
def SI.bE (h:SI r xs lo hi) (hh:hi<=xs.size):NI r (bE xs lo hi) lo hi:=fun i j x y h1 h2 h3 hx hy=>by
 rw[WF hh,Zaq ⟨.o,.o⟩]at hx hy
 exact h _ _ y x .o .o .o hy hx
def NI.bE (h:NI r xs lo hi) (hh:hi<=xs.size):SI r (bE xs lo hi) lo hi:=fun i j x y h1 h2 h3 hx hy=>by
 rw[WF hh,Zaq ⟨.o,.o⟩]at hx hy
 exact h _ _ y x .o .o .o hy hx
def NI.vJ (h:NI r xs lo hi) (e:EQ r xs m hi) (hm:lo<=m) (hh:hi<=xs.size):NI r (PyProof.Rows.jV.bE xs m hi) lo hi:=fun i j x y h1 h2 h3 hx hy=>by
 rw[WF hh]at hx hy
 by_cases hj:m<=j
 ·rw[Zaq ⟨hj,h3⟩]at hy
  by_cases bg:m<=i
  ·rw[Zaq ⟨bg,.o⟩]at hx
   exact e _ _ x y .o .o .o .o hx hy
  ·rw[Zam .o]at hx
   exact h i _ x y h1 .o .o hx hy
 ·rw[Zam .o]at hx hy
  exact h i j x y h1 h2 h3 hx hy
def WE (hh:hi<=xs.size) (hm:m<hi) (hp:(bE xs m hi)[hi - 1]? =some p):xs[m]? =some p:=by
 rw[WF hh,Zaq ⟨.o,.o⟩,show m+hi - 1 - (hi - 1)=m by omega]at hp
 exact hp
def Wm (hh:hi<=xs.size) (h:k<lo∨hi<=k):(bE xs lo hi)[k]? =xs[k]? :=by rw[WF hh,Zam .o]
end
structure CB (a₀:Array Keyed) (κ:SortKind) (lo:Nat) (st aa:SortSt):Prop where
 kind:kindOf aa=κ
 pend:pendingOf aa=pendingOf st
 fail:failedOf aa=failedOf st
 perm:(arrOf aa).Perm a₀
 pre:∀k,k<lo->(arrOf aa)[k]? =(arrOf st)[k]?
def CB.size {a₀:Array Keyed}{κ:SortKind}{lo:Nat}{st aa:SortSt}(h:CB a₀ κ lo st aa):(arrOf aa).size=a₀.size:=h.perm.size_eq
def CB.mem {a₀:Array Keyed}{κ:SortKind}{lo:Nat}{st aa:SortSt}(h:CB a₀ κ lo st aa) {i:Nat}{x:Keyed}(hx:(arrOf aa)[i]? =some x):x∈a₀.toList:=(Zde.mp h.perm).mem_iff.mp (Zx hx)
def CB.rev {a₀:Array Keyed}{κ:SortKind}{lo m hi:Nat}{st aa:SortSt}(h:CB a₀ κ lo st aa) (hm:lo<=m) (hh:hi<=a₀.size):CB a₀ κ lo st (setArr aa (bE (arrOf aa) m hi)):=
 ⟨h.kind,h.pend,h.fail,(mirror_perm _ _ _ _).trans h.perm,fun k hk=>by
  show(bE (arrOf aa) m hi)[k]? =_
  rw[Wm (by rw[h.size];exact hh) (.inl .o)]
  exact h.pre k hk⟩
section
variable {prog:Program}{w:World}{A:Around}{E:Value->Shared->Prop}{s:Shared}{κ:SortKind}{a₀:Array Keyed}{r:Keyed->Keyed->Bool}
def Yg {st aa:SortSt}{lo i j:Nat}{x y:Keyed}{Q:Option Bool->SortSt->Prop}(hc:jC prog w A E s κ a₀ r) (B:CB a₀ κ lo st aa) (hx:(arrOf aa)[i]? =some x) (hy:(arrOf aa)[j]? =some y) (h:Q (some (r x y)) aa):wpS (model prog w) A E s (ltAt' i j) Q aa:=by
 rw[ltAt'_eq]
 exact Zai (ZfC (Zai (Zk hx (Zai (Zk hy (hc _ _ _ _ (B.mem hx) (B.mem hy) B.kind h))))))
def Yf {st:SortSt}{i j:Nat}{Q:Unit->SortSt->Prop}(h:Q () (setArr st (bE (arrOf st) i j))):wpS (model prog w) A E s (reverseSlice' i j) Q st:=by
 rw[reverseSlice'_eq]
 exact ZeG h
def EQ.pT {xs:Array Keyed}{lo hi:Nat}(o:Ord r) (h:hi=lo+1):EQ r xs lo hi:=by subst h;exact EQ.one o
def WZ {st:SortSt}{lo cf:Nat}{Q:Option Nat->SortSt->Prop}(o:Ord r) (hc:jC prog w A E s κ a₀ r) (B0:CB a₀ κ lo st st) (h1:1<=cf) (hz:lo+cf<=a₀.size)
  (h:∀n aa,CB a₀ κ lo st aa->1<=n->n<=cf->SI r (arrOf aa) lo (lo+n)->Q (some n) aa):wpS (model prog w) A E s (countRun' lo cf) Q st:=by
 rw[countRun'_eq]
 dsimp only
 have z0:=B0.size
 refine Zai (ZeT (ZbB (I:=fun y c aa=>aa=st/\c=(none,y)/\SI r (arrOf st) lo (lo+y))
  (Q:=fun c aa=>aa=st/\∃n,c=(none,n)/\1<=n/\n<=cf/\SI r (arrOf st) lo (lo+n)/\(n=cf∨∃p q,(arrOf st)[lo+n - 1]? =some p/\(arrOf st)[lo+n]? =some q/\r q p=true)) ?_ ?_ ⟨rfl,rfl,SI.one o⟩) ?_)
 ·rintro y c aa jJ bo ⟨rfl,rfl,S⟩
  dsimp only
  obtain⟨p,hp⟩:=Zf (xs:=arrOf aa) (i:=lo+y - 1) .o
  obtain⟨q,hq⟩:=Zf (xs:=arrOf aa) (i:=lo+y) .o
  refine Zai (Yg hc B0 hq hp ?_)
  cases hr:r q p with
  |true=>exact Zaa ⟨rfl,y,rfl,jJ,.o,S,.inr ⟨p,q,hp,hq,hr⟩⟩
  |false=>exact Zaa ⟨rfl,rfl,S.snoc (hi:=lo+y) o .o hp hq hr⟩
 ·rintro c aa ⟨rfl,rfl,S⟩
  have e9:max 1 cf=cf:=Za4 h1
  rw[e9]at S
  exact⟨rfl,cf,by rw[e9],h1,Zae _,S,.inl rfl⟩
 rintro c aa ⟨rfl,n,rfl,n1,n2,S,hn⟩
 dsimp only
 by_cases gX:(n==cf)=true
 ·rw[Zaq gX]
  exact Zaa (h n aa B0 n1 n2 S)
 rw[Zam gX]
 have Pp:¬(n=cf):=fun z=>gX (Zaj.mpr z)
 rcases hn with hn |⟨p,q,hp,hq,hr⟩
 ·exact absurd hn Pp
 by_cases mn:n>1
 ·rw[Zaq mn]
  obtain⟨f,hf⟩:=Zf (xs:=arrOf aa) (i:=lo) .o
  refine Zai (Yg hc B0 hf hp ?_)
  cases Pa:r f p with
  |true=>exact Zaa (h n aa B0 n1 n2 S)
  |false=>
   dsimp only
   rw[Zam Zav]
   refine Zai (Yf ?_)
   have B1:=B0.rev (m:=lo) (hi:=lo+n) (Zae _) .o
   have N1:NI r (bE (arrOf aa) lo (lo+n)) lo (lo+n):=S.bE .o
   obtain⟨p1,qj⟩:=Zf (xs:=bE (arrOf aa) lo (lo+n)) (i:=lo+n - 1) (by rw[mirror_size];omega)
   have Es:=WE .o .o qj
   rw[hf]at Es
   cases Es
   have fX:(bE (arrOf aa) lo (lo+n))[lo+n]? =some q:=by rw[Wm .o (.inr (Zae _))];exact hq
   have xy:NI r (arrOf (setArr aa (bE (arrOf aa) lo (lo+n)))) lo (lo+(n+1)):=N1.snoc (hi:=lo+n) o .o qj fX (o.dJ q p f (o.cA _ _ hr) Pa)
   generalize setArr aa (bE (arrOf aa) lo (lo+n))=av at B1 xy
   refine Zai (Zgn (ZdA ⟨rfl,?_⟩))
   refine Zai (ZeT (ZbB (I:=fun y c stx=>CB a₀ κ lo aa stx/\∃aW,c=(none,y,aW)/\NI r (arrOf stx) lo (lo+y)/\aW+1<=y/\EQ r (arrOf stx) (lo+y - (aW+1)) (lo+y))
    (Q:=fun c stx=>CB a₀ κ lo aa stx/\∃m aW,c=(none,m,aW)/\n+1<=m/\m<=cf/\NI r (arrOf stx) lo (lo+m)/\aW+1<=m/\EQ r (arrOf stx) (lo+m - (aW+1)) (lo+m)) ?_ ?_ ⟨B1,0,rfl,xy,.o,EQ.pT o .o⟩) ?_)
   ·rintro y c ak jJ bo ⟨B2,aW,rfl,N2,g1,e2⟩
    dsimp only
    have z2:=B2.size
    obtain⟨p2,fE⟩:=Zf (xs:=arrOf ak) (i:=lo+y - 1) .o
    obtain⟨q2,cw⟩:=Zf (xs:=arrOf ak) (i:=lo+y) .o
    refine Zai (Yg hc B2 cw fE ?_)
    cases fA:r q2 p2 with
    |true=>
     dsimp only
     rw[Zaq rfl]
     by_cases jd:aW>0
     ·rw[Zaq jd]
      refine Zai (Yf ?_)
      have B3:=B2.rev (m:=lo+y - (aW+1)) (hi:=lo+y) .o .o
      have N3:NI r (bE (arrOf ak) (lo+y - (aW+1)) (lo+y)) lo (lo+y):=N2.vJ e2 .o .o
      obtain⟨p3,mj⟩:=Zf (xs:=bE (arrOf ak) (lo+y - (aW+1)) (lo+y)) (i:=lo+y - 1) (by rw[mirror_size];omega)
      have Al:=WE .o .o mj
      have qi:(bE (arrOf ak) (lo+y - (aW+1)) (lo+y))[lo+y]? =some q2:=by rw[Wm .o (.inr (Zae _))];exact cw
      have h3:r p3 q2=false:=o.dJ q2 p2 p3 (o.cA _ _ fA) (e2 _ _ p3 p2 (Zae _) .o .o .o Al fE)
      exact Zaa ⟨B3,0,rfl,N3.snoc (hi:=lo+y) o .o mj qi h3,.o,EQ.pT o .o⟩
     ·rw[Zam jd]
      exact Zaa ⟨B2,0,rfl,N2.snoc (hi:=lo+y) o .o fE cw (o.cA _ _ fA),.o,EQ.pT o .o⟩
    |false=>
     dsimp only
     rw[Zam Zav]
     refine Zai (Yg hc B2 fE cw ?_)
     cases su:r p2 q2 with
     |true=>exact Zaa ⟨B2,y,aW,rfl,.o,.o,N2,g1,e2⟩
     |false=>
      refine Zaa ⟨B2,aW+1,rfl,N2.snoc (hi:=lo+y) o .o fE cw su,.o,?_⟩
      have:=e2.snoc (hi:=lo+y) o .o fE cw su fA
      rw[show lo+(y+1) - (aW+1+1)=lo+y - (aW+1) by omega]
      exact this
   ·rintro c ak ⟨B2,aW,rfl,N2,g1,e2⟩
    have e9:max (n+1) cf=cf:=Za4 .o
    rw[e9]at N2 g1 e2
    exact⟨B2,cf,aW,by rw[e9],.o,.o,N2,g1,e2⟩
   rintro c ba ⟨B3,m,aW,rfl,m1,m2,N3,g3,e3⟩
   dsimp only
   have z3:=B3.size
   by_cases jd:aW>0
   ·rw[Zaq jd]
    refine Zai (Yf ?_)
    have B4:=B3.rev (m:=lo+m - (aW+1)) (hi:=lo+m) .o .o
    have N4:NI r (arrOf (setArr ba (bE (arrOf ba) (lo+m - (aW+1)) (lo+m)))) lo (lo+m):=N3.vJ e3 .o .o
    generalize setArr ba (bE (arrOf ba) (lo+m - (aW+1)) (lo+m))=cX at B4 N4
    refine Zai (Yf ?_)
    have B9:=B4.rev (m:=lo) (hi:=lo+m) (Zae _) .o
    have S9:SI r (arrOf (setArr cX (bE (arrOf cX) lo (lo+m)))) lo (lo+m):=NI.bE N4 (by rw[B4.size];omega)
    generalize setArr cX (bE (arrOf cX) lo (lo+m))=gN at B9 S9
    have z9:=B9.size
    refine Zai (ZbB (I:=fun y c stx=>stx=gN/\c=(none,y)/\SI r (arrOf gN) lo (lo+y)) ?_ ?_ ⟨rfl,rfl,S9⟩)
    ·rintro y c stx jJ bo ⟨rfl,rfl,S⟩
     dsimp only
     obtain⟨p9,je⟩:=Zf (xs:=arrOf stx) (i:=lo+y - 1) .o
     obtain⟨q9,jc⟩:=Zf (xs:=arrOf stx) (i:=lo+y) .o
     refine Zai (Yg hc B9 jc je ?_)
     cases nX:r q9 p9 with
     |true=>exact Zaa (Zaa (h y stx B9 .o .o S))
     |false=>exact Zaa ⟨rfl,rfl,S.snoc (hi:=lo+y) o .o je jc nX⟩
    ·rintro c stx ⟨rfl,rfl,S⟩
     rw[Za4 .o]at S
     have e9:max m cf=cf:=Za4 .o
     dsimp only
     rw[e9]
     exact Zaa (h cf stx B9 .o .o S)
   ·rw[Zam jd]
    refine Zai (Yf ?_)
    have B9:=B3.rev (m:=lo) (hi:=lo+m) (Zae _) .o
    have S9:SI r (arrOf (setArr ba (bE (arrOf ba) lo (lo+m)))) lo (lo+m):=NI.bE N3 (by rw[B3.size];omega)
    generalize setArr ba (bE (arrOf ba) lo (lo+m))=gN at B9 S9
    have z9:=B9.size
    refine Zai (ZbB (I:=fun y c stx=>stx=gN/\c=(none,y)/\SI r (arrOf gN) lo (lo+y)) ?_ ?_ ⟨rfl,rfl,S9⟩)
    ·rintro y c stx jJ bo ⟨rfl,rfl,S⟩
     dsimp only
     obtain⟨p9,je⟩:=Zf (xs:=arrOf stx) (i:=lo+y - 1) .o
     obtain⟨q9,jc⟩:=Zf (xs:=arrOf stx) (i:=lo+y) .o
     refine Zai (Yg hc B9 jc je ?_)
     cases nX:r q9 p9 with
     |true=>exact Zaa (Zaa (h y stx B9 .o .o S))
     |false=>exact Zaa ⟨rfl,rfl,S.snoc (hi:=lo+y) o .o je jc nX⟩
    ·rintro c stx ⟨rfl,rfl,S⟩
     rw[Za4 .o]at S
     have e9:max m cf=cf:=Za4 .o
     dsimp only
     rw[e9]
     exact Zaa (h cf stx B9 .o .o S)
 ·rw[Zam mn]
  obtain rfl:n=1:=.o
  have xy:NI r (arrOf aa) lo (lo+(1+1)):=(NI.one o).snoc (hi:=lo+1) o .o hp hq (o.cA _ _ hr)
  refine Zai (Zgn (ZdA ⟨rfl,?_⟩))
  refine Zai (ZeT (ZbB (I:=fun y c stx=>CB a₀ κ lo aa stx/\∃aW,c=(none,y,aW)/\NI r (arrOf stx) lo (lo+y)/\aW+1<=y/\EQ r (arrOf stx) (lo+y - (aW+1)) (lo+y))
   (Q:=fun c stx=>CB a₀ κ lo aa stx/\∃m aW,c=(none,m,aW)/\1+1<=m/\m<=cf/\NI r (arrOf stx) lo (lo+m)/\aW+1<=m/\EQ r (arrOf stx) (lo+m - (aW+1)) (lo+m)) ?_ ?_ ⟨B0,0,rfl,xy,.o,EQ.pT o .o⟩) ?_)
  ·rintro y c ak jJ bo ⟨B2,aW,rfl,N2,g1,e2⟩
   dsimp only
   have z2:=B2.size
   obtain⟨p2,fE⟩:=Zf (xs:=arrOf ak) (i:=lo+y - 1) .o
   obtain⟨q2,cw⟩:=Zf (xs:=arrOf ak) (i:=lo+y) .o
   refine Zai (Yg hc B2 cw fE ?_)
   cases fA:r q2 p2 with
   |true=>
    dsimp only
    rw[Zaq rfl]
    by_cases jd:aW>0
    ·rw[Zaq jd]
     refine Zai (Yf ?_)
     have B3:=B2.rev (m:=lo+y - (aW+1)) (hi:=lo+y) .o .o
     have N3:NI r (bE (arrOf ak) (lo+y - (aW+1)) (lo+y)) lo (lo+y):=N2.vJ e2 .o .o
     obtain⟨p3,mj⟩:=Zf (xs:=bE (arrOf ak) (lo+y - (aW+1)) (lo+y)) (i:=lo+y - 1) (by rw[mirror_size];omega)
     have Al:=WE .o .o mj
     have qi:(bE (arrOf ak) (lo+y - (aW+1)) (lo+y))[lo+y]? =some q2:=by rw[Wm .o (.inr (Zae _))];exact cw
     have h3:r p3 q2=false:=o.dJ q2 p2 p3 (o.cA _ _ fA) (e2 _ _ p3 p2 (Zae _) .o .o .o Al fE)
     exact Zaa ⟨B3,0,rfl,N3.snoc (hi:=lo+y) o .o mj qi h3,.o,EQ.pT o .o⟩
    ·rw[Zam jd]
     exact Zaa ⟨B2,0,rfl,N2.snoc (hi:=lo+y) o .o fE cw (o.cA _ _ fA),.o,EQ.pT o .o⟩
   |false=>
    dsimp only
    rw[Zam Zav]
    refine Zai (Yg hc B2 fE cw ?_)
    cases su:r p2 q2 with
    |true=>exact Zaa ⟨B2,y,aW,rfl,.o,.o,N2,g1,e2⟩
    |false=>
     refine Zaa ⟨B2,aW+1,rfl,N2.snoc (hi:=lo+y) o .o fE cw su,.o,?_⟩
     have:=e2.snoc (hi:=lo+y) o .o fE cw su fA
     rw[show lo+(y+1) - (aW+1+1)=lo+y - (aW+1) by omega]
     exact this
  ·rintro c ak ⟨B2,aW,rfl,N2,g1,e2⟩
   have e9:max (1+1) cf=cf:=Za4 .o
   rw[e9]at N2 g1 e2
   exact⟨B2,cf,aW,by rw[e9],.o,.o,N2,g1,e2⟩
  rintro c ba ⟨B3,m,aW,rfl,m1,m2,N3,g3,e3⟩
  dsimp only
  have z3:=B3.size
  by_cases jd:aW>0
  ·rw[Zaq jd]
   refine Zai (Yf ?_)
   have B4:=B3.rev (m:=lo+m - (aW+1)) (hi:=lo+m) .o .o
   have N4:NI r (arrOf (setArr ba (bE (arrOf ba) (lo+m - (aW+1)) (lo+m)))) lo (lo+m):=N3.vJ e3 .o .o
   generalize setArr ba (bE (arrOf ba) (lo+m - (aW+1)) (lo+m))=cX at B4 N4
   refine Zai (Yf ?_)
   have B9:=B4.rev (m:=lo) (hi:=lo+m) (Zae _) .o
   have S9:SI r (arrOf (setArr cX (bE (arrOf cX) lo (lo+m)))) lo (lo+m):=NI.bE N4 (by rw[B4.size];omega)
   generalize setArr cX (bE (arrOf cX) lo (lo+m))=gN at B9 S9
   have z9:=B9.size
   refine Zai (ZbB (I:=fun y c stx=>stx=gN/\c=(none,y)/\SI r (arrOf gN) lo (lo+y)) ?_ ?_ ⟨rfl,rfl,S9⟩)
   ·rintro y c stx jJ bo ⟨rfl,rfl,S⟩
    dsimp only
    obtain⟨p9,je⟩:=Zf (xs:=arrOf stx) (i:=lo+y - 1) .o
    obtain⟨q9,jc⟩:=Zf (xs:=arrOf stx) (i:=lo+y) .o
    refine Zai (Yg hc B9 jc je ?_)
    cases nX:r q9 p9 with
    |true=>exact Zaa (Zaa (h y stx B9 .o .o S))
    |false=>exact Zaa ⟨rfl,rfl,S.snoc (hi:=lo+y) o .o je jc nX⟩
   ·rintro c stx ⟨rfl,rfl,S⟩
    rw[Za4 .o]at S
    have e9:max m cf=cf:=Za4 .o
    dsimp only
    rw[e9]
    exact Zaa (h cf stx B9 .o .o S)
  ·rw[Zam jd]
   refine Zai (Yf ?_)
   have B9:=B3.rev (m:=lo) (hi:=lo+m) (Zae _) .o
   have S9:SI r (arrOf (setArr ba (bE (arrOf ba) lo (lo+m)))) lo (lo+m):=NI.bE N3 (by rw[B3.size];omega)
   generalize setArr ba (bE (arrOf ba) lo (lo+m))=gN at B9 S9
   have z9:=B9.size
   refine Zai (ZbB (I:=fun y c stx=>stx=gN/\c=(none,y)/\SI r (arrOf gN) lo (lo+y)) ?_ ?_ ⟨rfl,rfl,S9⟩)
   ·rintro y c stx jJ bo ⟨rfl,rfl,S⟩
    dsimp only
    obtain⟨p9,je⟩:=Zf (xs:=arrOf stx) (i:=lo+y - 1) .o
    obtain⟨q9,jc⟩:=Zf (xs:=arrOf stx) (i:=lo+y) .o
    refine Zai (Yg hc B9 jc je ?_)
    cases nX:r q9 p9 with
    |true=>exact Zaa (Zaa (h y stx B9 .o .o S))
    |false=>exact Zaa ⟨rfl,rfl,S.snoc (hi:=lo+y) o .o je jc nX⟩
   ·rintro c stx ⟨rfl,rfl,S⟩
    rw[Za4 .o]at S
    have e9:max m cf=cf:=Za4 .o
    dsimp only
    rw[e9]
    exact Zaa (h cf stx B9 .o .o S)
def Vr (o:Ord r) (h:r z x=true) (h2:r y x=false):r z y=true:=by
 cases e:r z y with
 |true=>rfl
 |false=>
  have:=o.dJ x y z h2 e
  rw[h]at this
  cases this
def Zcg {st:SortSt}{i j:Nat}{Q:Unit->SortSt->Prop}(h:Q () (setArr st (bubble (arrOf st) i (i - j)))):wpS (model prog w) A E s (moveDown' i j) Q st:=by
 rw[moveDown'_eq]
 exact ZeG h
def SI.put {xs:Array Keyed}{lo k l:Nat}{q:Keyed}(o:Ord r) (S:SI r xs lo (lo+k)) (hq:xs[lo+k]? =some q) (hl:l<=k) (h1:∀i x,i<l->xs[lo+i]? =some x->r q x=false) (h2:∀i x,l<=i->i<k->xs[lo+i]? =some x->r q x=true):SI r (bubble xs (lo+k) (lo+k - (lo+l))) lo (lo+(k+1)):=by
 have hs:lo+k<xs.size:=(Zbq.mp hq).1
 intro i j x y g1 g2 g3 hx hy
 rw[getElem?_bubble hs _ .o]at hx hy
 rw[show lo+k - (lo+k - (lo+l))=lo+l by omega]at hx hy
 by_cases ei:i=lo+l
 ·rw[Zaq ei,hq]at hx
  cases hx
  by_cases ej:j=lo+l
  ·rw[Zaq ej,hq]at hy
   cases hy
   exact o.lZ _
  ·rw[Zam ej,Zaq .o]at hy
   exact o.cA _ _ (h2 (j - 1 - lo) y .o .o (by rw[show lo+(j - 1 - lo)=j - 1 by omega];exact hy))
 ·rw[Zam ei]at hx
  by_cases ej:j=lo+l
  ·rw[Zaq ej,hq]at hy
   cases hy
   rw[Zam .o]at hx
   exact h1 (i - lo) x .o (by rw[show lo+(i - lo)=i by omega];exact hx)
  ·rw[Zam ej]at hy
   by_cases gi:lo+l<i
   ·rw[Zaq .o]at hx hy
    exact S (i - 1) (j - 1) x y .o .o .o hx hy
   ·rw[Zam .o]at hx
    by_cases gj:lo+l<j
    ·rw[Zaq .o]at hy
     exact S i (j - 1) x y .o .o .o hx hy
    ·rw[Zam .o]at hy
     exact S i j x y .o .o .o hx hy
def Wf {st fj:SortSt}{lo n ok:Nat}{Q:Bool->SortSt->Prop}(o:Ord r) (hc:jC prog w A E s κ a₀ r) (B0:CB a₀ κ lo fj st) (h1:1<=ok) (hn:ok<=n) (hz:lo+n<=a₀.size) (S0:SI r (arrOf st) lo (lo+ok))
  (h:∀aa,CB a₀ κ lo fj aa->SI r (arrOf aa) lo (lo+n)->Q true aa):wpS (model prog w) A E s (binarySort' lo n ok) Q st:=by
 rw[binarySort'_eq]
 dsimp only
 rw[Nat.max_eq_left h1]
 refine Zai (ZbB (I:=fun k c aa=>c=(none,())/\CB a₀ κ lo fj aa/\SI r (arrOf aa) lo (lo+k)) ?_ ?_ ⟨rfl,B0,S0⟩)
 ·rintro k c av bV EH ⟨rfl,B1,S1⟩
  try dsimp only
  have z1:=B1.size
  obtain⟨q,hq⟩:=Zf (xs:=arrOf av) (i:=lo+k) .o
  refine Zai (ZeT (ZbB (I:=fun y c aa=>aa=av/\∃l u,c=(none,l,u)/\l<=u/\u<=k/\(∀i x,i<l->(arrOf av)[lo+i]? =some x->r q x=false)/\(∀i x,u<=i->i<k->(arrOf av)[lo+i]? =some x->r q x=true)/\u - l<=k - y)
   (Q:=fun c aa=>aa=av/\∃l u,c=(none,l,u)/\l<=k/\(∀i x,i<l->(arrOf av)[lo+i]? =some x->r q x=false)/\(∀i x,l<=i->i<k->(arrOf av)[lo+i]? =some x->r q x=true)) ?_ ?_ ⟨rfl,0,k,rfl,.o,.o,fun i x hi=>absurd hi .o,fun i x g1 g2=>absurd g2 .o,.o⟩) ?_)
  ·rintro y c aa _ hy ⟨rfl,l,u,rfl,g1,g2,g3,g4,g5⟩
   dsimp only
   by_cases bU:l>=u
   ·rw[Zaq bU]
    exact Zaa ⟨rfl,l,u,rfl,.o,g3,fun i x g6=>g4 i x .o⟩
   ·rw[Zam bU]
    have hm:(l+u)/2<u:=.o
    have sJ:l<=(l+u)/2:=.o
    generalize (l+u)/2=m at hm sJ
    obtain⟨p,hp⟩:=Zf (xs:=arrOf aa) (i:=lo+m) .o
    refine Zai (Yg hc B1 hq hp ?_)
    cases hr:r q p with
    |true=>
     refine Zaa ⟨rfl,l,m,rfl,sJ,.o,g3,fun i x g6 g7 hx=> ?_,.o⟩
     exact Vr o hr (S1 (lo+m) (lo+i) p x .o .o .o hp hx)
    |false=>
     refine Zaa ⟨rfl,m+1,u,rfl,.o,g2,fun i x g6 hx=> ?_,g4,.o⟩
     exact o.dJ x p q (S1 (lo+i) (lo+m) x p .o .o .o hx hp) hr
  ·rintro c aa ⟨rfl,l,u,rfl,g1,g2,g3,g4,g5⟩
   rw[Za4 (Za2 _)]at g5
   exact⟨rfl,l,u,rfl,.o,g3,fun i x g6=>g4 i x .o⟩
  rintro c aa ⟨rfl,l,u,rfl,g1,g3,g4⟩
  dsimp only
  refine Zai (Zcg (Zaa ⟨rfl,⟨B1.kind,B1.pend,B1.fail,(bubble_perm _ _ _).trans B1.perm,fun i hi=> ?_⟩,S1.put o hq g1 g3 g4⟩))
  show(bubble (arrOf aa) (lo+k) (lo+k - (lo+l)))[i]? =_
  rw[getElem?_bubble .o _ .o,Zam .o,Zam .o]
  exact B1.pre i hi
 ·rintro c av ⟨rfl,B1,S1⟩
  rw[Za4 hn]at S1
  exact Zaa (h av B1 S1)
end
def seg (L:List Keyed) (s n:Nat):List Keyed:=(L.drop s).take n
def Y3 (h:i<n):(seg L s n)[i]? =L[s+i]? :=by
 unfold seg
 rw[Zc5 h,ZdI]
def Hq {L:List Keyed}(h:s+n<=L.length):(seg L s n).length=n:=by
 unfold seg
 rw[ZaU,ZbD];omega
def SI.pw {r:Keyed->Keyed->Bool}{xs:Array Keyed}{lo n:Nat}(h:SI r xs lo (lo+n)):Pw r (seg xs.toList lo n):=by
 unfold Pw
 rw[ZeY]
 intro i j hi hj cI
 have hn:j<n:=by unfold seg at hj;rw[ZaU]at hj;omega
 have e1:(seg xs.toList lo n)[i]? =some (seg xs.toList lo n)[i]:=Zal hi
 have e2:(seg xs.toList lo n)[j]? =some (seg xs.toList lo n)[j]:=Zal hj
 rw[Y3 .o,ZaS]at e1
 rw[Y3 hn,ZaS]at e2
 exact h (lo+i) (lo+j) _ _ .o .o .o e1 e2
def Runs (r:Keyed->Keyed->Bool) (L:List Keyed):List (Nat×Nat×Nat)->Nat->Nat->Prop
 | [],p,q=>p=q
 |x::rest,p,q=>x.1=p/\1<=x.2.1/\Pw r (seg L x.1 x.2.1)/\Runs r L rest (p+x.2.1) q
section
variable {r:Keyed->Keyed->Bool}{L L':List Keyed}
def Runs.le:∀{ps:List (Nat×Nat×Nat)}{p q:Nat},Runs r L ps p q->p+ps.length<=q
 | [],_,_,h=>by cases h;exact Zae _
 |x::ps,p,q,h=>by
  have:=Runs.le h.2.2.2
  have:=h.2.1
  rw[ZbA]
  omega
def Runs.app:∀{l1 l2:List (Nat×Nat×Nat)}{p q:Nat},Runs r L (l1++l2) p q↔∃m,Runs r L l1 p m/\Runs r L l2 m q
 | [],l2,p,q=> ⟨fun h=> ⟨p,rfl,h⟩,fun⟨m,h1,h2⟩=>by cases h1;exact h2⟩
 |x::l1,l2,p,q=>by
  constructor
  ·rintro⟨h1,h2,h3,h4⟩
   obtain⟨m,g1,g2⟩:=Runs.app.mp h4
   exact⟨m,⟨h1,h2,h3,g1⟩,g2⟩
  ·rintro⟨m,⟨h1,h2,h3,g1⟩,g2⟩
   exact⟨h1,h2,h3,Runs.app.mpr ⟨m,g1,g2⟩⟩
def Runs.congr:∀{ps:List (Nat×Nat×Nat)}{p q:Nat},Runs r L ps p q->(∀s n,p<=s->s+n<=q->seg L s n=seg L' s n)->Runs r L' ps p q
 | [],_,_,h,_=>h
 |x::ps,p,q,⟨h1,h2,h3,h4⟩,e=>by
  have:=Runs.le h4
  refine⟨h1,h2,?_,Runs.congr h4 fun s n g1 g2=>e s n .o g2⟩
  rw[<-e x.1 x.2.1 .o .o]
  exact h3
def Hr (h:L.take m=L'.take m) (hs:s+n<=m):seg L s n=seg L' s n:=by
 have key:∀M:List Keyed,seg M s n=seg (M.take m) s n:=fun M=>by
  unfold seg
  rw[List.drop_take,ZgV,Zep .o]
 rw[key L,key L',h]
def Wr (h:L.drop m=L'.drop m) (hs:m<=s):seg L s n=seg L' s n:=by
 have key:∀M:List Keyed,seg M s n=((M.drop m).drop (s - m)).take n:=fun M=>by
  unfold seg
  rw[ZeH,show m+(s - m)=s by omega]
 rw[key L,key L',h]
def ZcH {A B M:List Keyed}(o:Ord r) (sA:Pw r A) (sB:Pw r B) (hM:M.Perm (A.drop k++B.take n)) (sM:Pw r M) (h1:∀x∈A.take k,∀y∈B,r y x=false) (h2:∀z∈A,∀w∈B.drop n,r w z=false):Pw r (A.take k++(M++B.drop n)):=by
 have pa:Pw r (A.take k):=ZbN (ZdS _ _) sA
 have pb:Pw r (B.drop n):=ZbN (ZdV _ _) sB
 have Ma:Pw r (A.take k++A.drop k):=by rw[Zbw];exact sA
 have L9:Pw r (B.take n++B.drop n):=by rw[Zbw];exact sB
 refine Zbr.mpr ⟨pa,Zbr.mpr ⟨sM,pb,fun z hz w hw=> ?_⟩,fun x hx z hz=> ?_⟩
 ·rcases ZaL.mp (hM.mem_iff.mp hz) with hz |hz
  ·exact h2 z (ZbH hz) w hw
  ·exact(Zbr.mp L9).2.2 z hz w hw
 ·rcases ZaL.mp hz with hz |hz
  ·rcases ZaL.mp (hM.mem_iff.mp hz) with hz |hz
   ·exact(Zbr.mp Ma).2.2 x hx z hz
   ·exact h1 x hx z (Zce hz)
  ·exact h1 x hx z (ZbH hz)
def HY (off:Nat):∀(M:List Keyed) (j:Nat) (xs:Array Keyed),off+j+M.length<=xs.size->((M.zipIdx j).foldl (fun a x=>a.setIfInBounds (off+x.snd) x.fst) xs).toList=xs.toList.take (off+j)++(M++xs.toList.drop (off+j+M.length))
 | [],j,xs,_=>by
  show xs.toList=_
  rw[Zdy,Zdw,Zdz,Zbw]
 |m::M,j,xs,h=>by
  rw[ZbA]at h
  rw[Zgv,ZeM,HY off M (j+1) _ (by rw[Zgc];omega),ZfV]
  have hl:off+j<xs.toList.length:=by rw[Zay];omega
  rw[List.drop_set_of_lt .o,<-Zgm,ZbO,List.take_set_of_le (Zae _),ZdZ hl]
  rw[Zbp,ZbA,show off+j+1+M.length=off+j+(M.length+1) by omega]
  rfl
end
section
variable {prog:Program}{w:World}{A:Around}{E:Value->Shared->Prop}{s:Shared}{κ:SortKind}{a₀:Array Keyed}{r:Keyed->Keyed->Bool}
def VM {st aa:SortSt}{Q:PUnit->SortSt->Prop}(h:Q ⟨⟩ aa):wpS (model prog w) A E s (set aa:StateT SortSt Sem PUnit) Q st:=by
 unfold wpS
 exact Zak ⟨rfl,h⟩
def VL {α:Type}{m:StateT SortSt Sem α}{Q:α->SortSt->Prop}{st:SortSt}(P:SortSt->Prop) (hp:P st) (h:∀fj,P fj->wpS (model prog w) A E s m Q fj):wpS (model prog w) A E s m Q st:=h st hp
def Zah {st:SortSt}{i:Nat}{Q:Bool->SortSt->Prop}(o:Ord r) (hc:jC prog w A E s κ a₀ r) (hk:kindOf st=κ) (hP:(arrOf st).Perm a₀) (hF:failedOf st=none) {pre post:List (Nat×Nat×Nat)}{sa na pw sb nb vB:Nat}
  (hp:(pendingOf st).toList=pre++(sa,na,pw)::(sb,nb,vB)::post) (hi:pre.length=i) (L6:sb=sa+na) (n1:1<=na) (n2:1<=nb) (hz:sb+nb<=a₀.size) (SA:Pw r (seg (arrOf st).toList sa na)) (SB:Pw r (seg (arrOf st).toList sb nb))
  (h:∀aa,kindOf aa=κ->(arrOf aa).Perm a₀->failedOf aa=none->(pendingOf aa).toList=pre++(sa,na+nb,pw)::post->(arrOf aa).toList.take sa=(arrOf st).toList.take sa->(arrOf aa).toList.drop (sb+nb)=(arrOf st).toList.drop (sb+nb)->Pw r (seg (arrOf aa).toList sa (na+nb))->Q true aa):
  wpS (model prog w) A E s (mergeAt' i) Q st:=by
 have hsz:(arrOf st).size=a₀.size:=hP.size_eq
 have e1:(pendingOf st)[i]? =some (sa,na,pw):=by
  rw[<-ZaS,hp,<-hi]
  simp
 have e2:(pendingOf st)[i+1]? =some (sb,nb,vB):=by
  rw[<-ZaS,hp,<-hi,Zdd .o,show pre.length+1 - pre.length=1 by omega]
  rfl
 have Er:(((pendingOf st).setIfInBounds i (sa,na+nb,pw)).eraseIdxIfInBounds (i+1)).toList=pre++(sa,na+nb,pw)::post:=by
  rw[Array.toList_eraseIdxIfInBounds,ZfV,hp,<-hi,List.set_append_right _ _ (Zae _),Nat.sub_self,Zhb,List.eraseIdx_append_of_length_le .o,show pre.length+1 - pre.length=1 by omega]
  rfl
 show wpS (model prog w) A E s (_ >>=_) _ _
 obtain⟨kd,xs,pd,ga,fl⟩:=st
 refine Zai (ZfC ?_)
 replace e1:pd[i]? =some (sa,na,pw):=e1
 replace e2:pd[i+1]? =some (sb,nb,vB):=e2
 dsimp only
 rw[e1,e2]
 dsimp only
 refine Zai (VM ?_)
 refine VL (fun fj=>kindOf fj=κ/\arrOf fj=xs/\(pendingOf fj).toList=pre++(sa,na+nb,pw)::post/\failedOf fj=none) ⟨hk,rfl,Er,hF⟩ ?_
 rintro fj ⟨g1,g2,g3,g4⟩
 clear Er e1 e2
 replace hP:xs.Perm a₀:=hP
 replace hsz:xs.size=a₀.size:=hsz
 replace SA:Pw r (seg xs.toList sa na):=SA
 replace SB:Pw r (seg xs.toList sb nb):=SB
 have mm:∀{j:Nat}{x:Keyed},xs[j]? =some x->x∈a₀.toList:=fun hx=> (Zde.mp hP).mem_iff.mp (Zx hx)
 have lA:(seg xs.toList sa na).length=na:=Hq (by rw[Zay];omega)
 have lB:(seg xs.toList sb nb).length=nb:=Hq (by rw[Zay];omega)
 have Bt:∀{j:Nat}{x:Keyed},j<na->xs[sa+j]? =some x->(seg xs.toList sa na)[j]? =some x:=fun hj hx=>by rw[Y3 hj,ZaS];exact hx
 have Bs:∀{j:Nat}{x:Keyed},j<nb->xs[sb+j]? =some x->(seg xs.toList sb nb)[j]? =some x:=fun hj hx=>by rw[Y3 hj,ZaS];exact hx
 have xh:∀{j:Nat}{x:Keyed},(seg xs.toList sa na)[j]? =some x->j<na/\xs[sa+j]? =some x:=fun {j x} hx=>by
  have hj:j<na:=by have:=(Zab.mp hx).1;omega
  exact⟨hj,by rw[Y3 hj,ZaS]at hx;exact hx⟩
 have Br:∀{j:Nat}{x:Keyed},(seg xs.toList sb nb)[j]? =some x->j<nb/\xs[sb+j]? =some x:=fun {j x} hx=>by
  have hj:j<nb:=by have:=(Zab.mp hx).1;omega
  exact⟨hj,by rw[Y3 hj,ZaS]at hx;exact hx⟩
 have fin:∀(k n:Nat) (M:List Keyed) (aa:SortSt),k<=na->n<=nb->kindOf aa=κ->failedOf aa=none->(pendingOf aa).toList=pre++(sa,na+nb,pw)::post->M.Perm ((seg xs.toList sa na).drop k++(seg xs.toList sb nb).take n)->Pw r M->
   (∀x∈(seg xs.toList sa na).take k,∀y∈seg xs.toList sb nb,r y x=false)->(∀z∈seg xs.toList sa na,∀w∈(seg xs.toList sb nb).drop n,r w z=false)->
   (arrOf aa).toList=xs.toList.take (sa+k)++(M++xs.toList.drop (sa+k+M.length))->Q true aa:=fun k n M aa PV gX f1 f2 f3 f4 f5 f6 f7 f8=>by
  have lM:M.length=(na - k)+n:=by
   rw[f4.length_eq,Zas,ZbD,ZaU,lA,lB,Zep gX]
  have hL:xs.toList.length=a₀.size:=by rw[Zay];exact hsz
  have eA:xs.toList.take (sa+k)=xs.toList.take sa++(seg xs.toList sa na).take k:=by
   rw[List.take_add]
   unfold seg
   rw[ZgV,Zep PV]
  have eB:xs.toList.drop (sa+k+M.length)=(seg xs.toList sb nb).drop n++xs.toList.drop (sb+nb):=by
   rw[lM,show sa+k+(na - k+n)=sb+n by omega,<-ZeH]
   have:xs.toList.drop sb=seg xs.toList sb nb++xs.toList.drop (sb+nb):=by
    unfold seg
    rw[<-ZeH,Zbw]
   rw[this,List.drop_append_of_le_length (by rw[lB];exact gX)]
  have Sj:xs.toList=xs.toList.take sa++((seg xs.toList sa na++seg xs.toList sb nb)++xs.toList.drop (sb+nb)):=by
   have a1:xs.toList.drop sa=seg xs.toList sa na++xs.toList.drop sb:=by
    unfold seg
    rw[L6,<-ZeH,Zbw]
   have a2:xs.toList.drop sb=seg xs.toList sb nb++xs.toList.drop (sb+nb):=by
    unfold seg
    rw[<-ZeH,Zbw]
   rw[Zbp,<-a2,<-a1,Zbw]
  have eN:(arrOf aa).toList=xs.toList.take sa++(((seg xs.toList sa na).take k++(M++(seg xs.toList sb nb).drop n))++xs.toList.drop (sb+nb)):=by
   rw[f8,eA,eB]
   simp only[Zbp]
  have lX:(xs.toList.take sa).length=sa:=by rw[ZaU];omega
  have lY:((seg xs.toList sa na).take k++(M++(seg xs.toList sb nb).drop n)).length=na+nb:=by
   rw[Zas,Zas,ZaU,ZbD,lA,lB,lM];omega
  have pY:((seg xs.toList sa na).take k++(M++(seg xs.toList sb nb).drop n)).Perm (seg xs.toList sa na++seg xs.toList sb nb):=by
   refine List.Perm.trans (Zeh _ (Zfm _ f4)) ?_
   rw[Zbp,Zbw,<-Zbp,Zbw]
  refine h aa f1 ?_ f2 f3 ?_ ?_ ?_
  ·refine Zde.mpr (List.Perm.trans ?_ (Zde.mp hP))
   rw[eN]
   refine List.Perm.trans (Zeh _ (Zfm _ pY)) ?_
   rw[<-Sj]
  ·rw[eN,List.take_left' lX]
  ·rw[eN,<-Zbp,List.drop_left' (by rw[Zas,lX,lY];omega)]
  ·have:seg (arrOf aa).toList sa (na+nb)=(seg xs.toList sa na).take k++(M++(seg xs.toList sb nb).drop n):=by
    rw[eN]
    show List.take (na+nb) (List.drop sa (xs.toList.take sa++(((seg xs.toList sa na).take k++(M++(seg xs.toList sb nb).drop n))++xs.toList.drop (sb+nb))))=_
    rw[List.drop_left' lX,List.take_left' lY]
   rw[this]
   exact ZcH o SA SB f4 f5 f6 f7
 obtain⟨y0,l7⟩:=Zf (xs:=xs) (i:=sb) .o
 refine Zai (Zk l7 ?_)
 have QP:∀y∈seg xs.toList sb nb,r y y0=false:=fun y hy=>by
  obtain⟨j,hj⟩:=Zdg hy
  exact Yo o SB (Bs (j:=0) .o l7) hj (Za2 _)
 refine Zai (ZL hc g1 (fun i=>match xs[sa+i]? with |some x=> !r y0 x |none=>false) (fun i hi=> ?_) (mm l7) (fun i j cI hj hp=> ?_) .o fun k kn eE dA=> ?_)
 ·obtain⟨x,hx⟩:=Zf (xs:=xs) (i:=sa+i) .o
  refine⟨x,hx,mm hx,?_⟩
  try dsimp only
  rw[hx]
  rfl
 ·obtain⟨xj,gG⟩:=Zf (xs:=xs) (i:=sa+j) .o
  obtain⟨xi,gH⟩:=Zf (xs:=xs) (i:=sa+i) .o
  try dsimp only at hp |-
  rw[gG]at hp
  rw[gH]
  rw[Zbv]at hp |-
  exact o.dJ _ _ _ (Yo o SA (Bt .o gH) (Bt .o gG) cI) hp
 dsimp only
 have low:∀x∈(seg xs.toList sa na).take k,∀y∈seg xs.toList sb nb,r y x=false:=fun x hx y hy=>by
  obtain⟨j,hj⟩:=Zdg hx
  have EJ:j<k:=by have:=(Zab.mp hj).1;rw[ZaU]at this;omega
  rw[Zc5 EJ]at hj
  obtain⟨sO,oj⟩:=xh hj
  have:=eE j EJ
  try dsimp only at this
  rw[oj,Zbv]at this
  exact o.dJ x y0 y this (QP y hy)
 by_cases bT:(na - k==0)=true
 ·rw[Zaq bT]
  have ek:k=na:=by have:=Zaj.mp bT;omega
  subst ek
  refine Zaa (fin k 0 [] fj (Zae _) (Za2 _) g1 g4 g3 (by rw[ZbX .o];exact .refl _) .nil low (fun z hz w hw=> ?_) ?_)
  ·exact low z (by rw[ZbY .o];exact hz) w (ZbH hw)
  ·rw[g2,Zdy,Zdw,Zdz,Zbw]
 rw[Zam bT]
 have qg:¬(na - k=0):=fun z=>bT (Zaj.mpr z)
 obtain⟨x0,nU⟩:=Zf (xs:=xs) (i:=sa+k+(na - k) - 1) .o
 refine Zai (Zk nU ?_)
 have Ed:xs[sa+(na - 1)]? =some x0:=by rw[<-nU];congr 1;omega
 have QQ:∀x∈seg xs.toList sa na,r x0 x=false:=fun x hx=>by
  obtain⟨j,hj⟩:=Zdg hx
  exact Yo o SA hj (Bt (j:=na - 1) .o Ed) (by have:=(xh hj).1;omega)
 refine Zai (ZL hc g1 (fun i=>match xs[sb+i]? with |some y=>r y x0 |none=>false) (fun i hi=> ?_) (mm nU) (fun i j cI hj hp=> ?_) .o fun n nn Ny Nz=> ?_)
 ·obtain⟨y,hy⟩:=Zf (xs:=xs) (i:=sb+i) .o
  refine⟨y,hy,mm hy,?_⟩
  try dsimp only
  rw[hy]
  rfl
 ·obtain⟨yj,cZ⟩:=Zf (xs:=xs) (i:=sb+j) .o
  obtain⟨yi,da⟩:=Zf (xs:=xs) (i:=sb+i) .o
  try dsimp only at hp |-
  rw[cZ]at hp
  rw[da]
  exact JI o hp (Yo o SB (Bs .o da) (Bs .o cZ) cI)
 dsimp only
 have high:∀z∈seg xs.toList sa na,∀w∈(seg xs.toList sb nb).drop n,r w z=false:=fun z hz w hw=>by
  obtain⟨j,hj⟩:=Zdg hw
  rw[ZdI]at hj
  obtain⟨sO,oj⟩:=Br hj
  have:=Nz (n+j) .o sO
  try dsimp only at this
  rw[oj]at this
  exact o.dJ z x0 w (QQ z hz) this
 by_cases cq:(n==0)=true
 ·rw[Zaq cq]
  have en:n=0:=Zaj.mp cq
  subst en
  refine Zaa (fin na 0 [] fj (Zae _) (Za2 _) g1 g4 g3 (by rw[ZbX .o];exact .refl _) .nil (fun x hx y hy=> ?_) high ?_)
  ·exact high x (Zce hx) y (by rw[ZeF];exact hy)
  ·rw[g2,Zdy,Zdw,Zdz,Zbw]
 rw[Zam cq]
 have vY:¬(n=0):=fun z=>cq (Zaj.mpr z)
 have xA:(xs.extract (sa+k) sb).toList=(seg xs.toList sa na).drop k:=by
  rw[J7]
  unfold seg
  rw[List.drop_take,ZeH,show sb - (sa+k)=na - k by omega]
 have xB:(xs.extract sb (sb+n)).toList=(seg xs.toList sb nb).take n:=by
  rw[J7,show sb+n - sb=n by omega]
  unfold seg
  rw[ZgV,Zep nn]
 have LO:(xs.extract (sa+k) sb).size=na - k:=by rw[<-Zay,xA,ZbD,lA]
 have aaq:(xs.extract sb (sb+n)).size=n:=by rw[<-Zay,xB,ZaU,lB];omega
 have C:fK r (xs.extract (sa+k) sb) (xs.extract sb (sb+n)):=⟨o,by rw[xA];exact ZbN (ZdV _ _) SA,by rw[xB];exact ZbN (ZdS _ _) SB⟩
 have mA:∀x∈(xs.extract (sa+k) sb).toList,x∈a₀.toList:=fun x hx=>by
  rw[xA]at hx
  obtain⟨j,hj⟩:=Zdg (ZbH hx)
  exact mm (xh hj).2
 have mB:∀x∈(xs.extract sb (sb+n)).toList,x∈a₀.toList:=fun x hx=>by
  rw[xB]at hx
  obtain⟨j,hj⟩:=Zdg (Zce hx)
  exact mm (Br hj).2
 have m0:∀y,(xs.extract sb (sb+n))[0]? =some y->∀x∈(xs.extract (sa+k) sb).toList,r x y=false:=fun y hy x hx=>by
  have jJ:=ZA hy
  rw[xB,Zc5 .o,Y3 .o,Zdz,ZaS,l7]at jJ
  cases jJ
  rw[xA]at hx
  obtain⟨j,hj⟩:=Zdg hx
  rw[ZdI]at hj
  obtain⟨sO,oj⟩:=xh hj
  have:=dA (k+j) .o sO
  try dsimp only at this
  rw[oj,ZdJ]at this
  exact o.cA _ _ this
 have ml:∀x,(xs.extract (sa+k) sb)[(xs.extract (sa+k) sb).size - 1]? =some x->∀y∈(xs.extract sb (sb+n)).toList,r x y=false:=fun x hx y hy=>by
  have z4:=ZA hx
  rw[LO,xA,ZdI,Y3 .o,ZaS,show sa+(k+(na - k - 1))=sa+(na - 1) by omega,Ed]at z4
  cases z4
  rw[xB]at hy
  obtain⟨j,hj⟩:=Zdg hy
  have EI:j<n:=by have:=(Zab.mp hj).1;rw[ZaU]at this;omega
  rw[Zc5 EI]at hj
  obtain⟨sO,oj⟩:=Br hj
  have:=Ny j EI
  try dsimp only at this
  rw[oj]at this
  exact o.cA _ _ this
 have done:∀(res:Array Keyed) (av:SortSt),SG fj av->Good r (xs.extract (sa+k) sb) (xs.extract sb (sb+n)) res->Q true (setArr av (List.foldl (fun a x=>a.setIfInBounds (sa+k+x.snd) x.fst) (arrOf av) res.toList.zipIdx)):=fun res av sg gd=>by
  have p1:=gd.1
  rw[xA,xB]at p1
  have lR:res.toList.length=na - k+n:=by rw[p1.length_eq,Zas,ZbD,ZaU,lA,lB];omega
  refine fin k n res.toList _ kn nn (by show kindOf av=κ;rw[sg.1];exact g1) (by show failedOf av=none;rw[sg.2.2.2];exact g4) (by show(pendingOf av).toList=_;rw[sg.2.2.1];exact g3) p1 gd.2 low high ?_
  show(List.foldl (fun a x=>a.setIfInBounds (sa+k+x.snd) x.fst) (arrOf av) res.toList.zipIdx).toList=_
  rw[sg.2.1,g2]
  exact HY (sa+k) res.toList 0 xs (by rw[lR];omega)
 by_cases hle:na - k<=n
 ·rw[Zaq hle]
  refine Zai (Zaf hc g1 C mA mB .o .o m0 ml fun res av sg gd=> ?_)
  refine Zai (ZeG (Zai (ZfC ?_)))
  have ef:(failedOf (setArr av (List.foldl (fun a x=>a.setIfInBounds (sa+k+x.snd) x.fst) (arrOf av) res.toList.zipIdx))).isNone=true:=by
   show(failedOf av).isNone=true
   rw[sg.2.2.2,g4]
   rfl
  rw[ef]
  exact Zaa (done res av sg gd)
 ·rw[Zam hle]
  refine Zai (Zag hc g1 C mA mB .o .o m0 ml fun res av sg gd=> ?_)
  refine Zai (ZeG (Zai (ZfC ?_)))
  have ef:(failedOf (setArr av (List.foldl (fun a x=>a.setIfInBounds (sa+k+x.snd) x.fst) (arrOf av) res.toList.zipIdx))).isNone=true:=by
   show(failedOf av).isNone=true
   rw[sg.2.2.2,g4]
   rfl
  rw[ef]
  exact Zaa (done res av sg gd)
structure RS (a₀:Array Keyed) (κ:SortKind) (r:Keyed->Keyed->Bool) (st:SortSt) (lo:Nat):Prop where
 kind:kindOf st=κ
 perm:(arrOf st).Perm a₀
 fail:failedOf st=none
 runs:Runs r (arrOf st).toList (pendingOf st).toList 0 lo
 le:lo<=a₀.size
def SS {l:List α}(h:i+1<l.length):∃pre a b post,l=pre++a::b::post/\pre.length=i:=by
 refine⟨l.take i,l[i],l[i+1],l.drop (i+2),?_,by rw[ZaU];omega⟩
 rw[<-Zdu h,<-Zdu .o,Zbw]
def RS.merge {st:SortSt}{lo i:Nat}{Q:Bool->SortSt->Prop}(o:Ord r) (hc:jC prog w A E s κ a₀ r) (R:RS a₀ κ r st lo) (hi:i+1< (pendingOf st).size)
  (h:∀aa,RS a₀ κ r aa lo->(pendingOf aa).size+1=(pendingOf st).size->(arrOf aa).toList.drop lo=(arrOf st).toList.drop lo->Q true aa):wpS (model prog w) A E s (mergeAt' i) Q st:=by
 obtain⟨pre,⟨sa,na,pw⟩,⟨sb,nb,vB⟩,post,hp,hl⟩:=SS (l:=(pendingOf st).toList) (i:=i) (by rw[Zay];exact hi)
 have hr:=R.runs
 rw[hp]at hr
 obtain⟨m,h1,h2⟩:=Runs.app.mp hr
 obtain⟨a1,a2,a3,h3⟩:=h2
 obtain⟨b1,b2,b3,h4⟩:=h3
 dsimp only at a1 a2 a3 b1 b2 b3 h4
 subst a1
 have l4:=h4.le
 have l1:=h1.le
 have le:=R.le
 refine Zah o hc R.kind R.perm R.fail hp hl b1 a2 b2 .o a3 b3 fun aa g1 g2 g3 g4 g5 g6 g7=> ?_
 refine h aa ⟨g1,g2,g3,?_,le⟩ ?_ ?_
 ·rw[g4]
  refine Runs.app.mpr ⟨sa,h1.congr fun s n q1 q2=>Hr g5.symm q2,rfl,(show 1<=na+nb by omega),g7,?_⟩
  show Runs r (arrOf aa).toList post (sa+(na+nb)) lo
  rw[<-Zgm]
  exact h4.congr fun s n q1 q2=>Wr (m:=sb+nb) g6.symm .o
 ·rw[<-Zay,<-Zay,g4,hp]
  simp only[Zas,ZbA]
  omega
 ·have key:∀M:List Keyed,M.drop lo=(M.drop (sb+nb)).drop (lo - (sb+nb)):=fun M=>by
   rw[ZeH]
   congr 1
   omega
  rw[key,key (arrOf st).toList,g6]
def RS.push {st:SortSt}{lo n:Nat}(R:RS a₀ κ r st lo) (n1:1<=n) (hz:lo+n<=a₀.size) (S:Pw r (seg (arrOf st).toList lo n)):RS a₀ κ r (setPending st ((pendingOf st).push (lo,n,0))) (lo+n):=by
 refine⟨R.kind,R.perm,R.fail,?_,hz⟩
 show Runs r (arrOf st).toList ((pendingOf st).push (lo,n,0)).toList 0 (lo+n)
 rw[ZbK]
 exact Runs.app.mpr ⟨lo,R.runs,rfl,n1,S,rfl⟩
def Iu {L:List Keyed}{pw:Nat} :∀{ps:List (Nat×Nat×Nat)}{i p q:Nat},Runs r L ps p q->Runs r L (ps.modify i fun x=> (x.fst,x.2.fst,pw)) p q
 | [],i,p,q,h=>by rw[List.modify_nil];exact h
 |x::ps,0,p,q,h=>by
  rw[List.modify_zero_cons]
  exact h
 |x::ps,i+1,p,q,⟨h1,h2,h3,h4⟩=>by
  rw[List.modify_succ_cons]
  exact⟨h1,h2,h3,Iu h4⟩
def RS.pow {st:SortSt}{lo i pw:Nat}(R:RS a₀ κ r st lo):RS a₀ κ r (setPending st ((pendingOf st).modify i fun x=> (x.fst,x.2.fst,pw))) lo:=by
 refine⟨R.kind,R.perm,R.fail,?_,R.le⟩
 show Runs r (arrOf st).toList ((pendingOf st).modify i fun x=> (x.fst,x.2.fst,pw)).toList 0 lo
 rw[Array.toList_modify]
 exact Iu R.runs
def XS {xs ys:Array Keyed}{lo:Nat}(h:∀k,k<lo->xs[k]? =ys[k]?):xs.toList.take lo=ys.toList.take lo:=by
 refine Zho fun k=> ?_
 by_cases hk:k<lo
 ·rw[Zc5 hk,Zc5 hk,ZaS,ZaS]
  exact h k hk
 ·rw[ZgJ (by rw[ZaU];omega),ZgJ (by rw[ZaU];omega)]
def CB.rs {st aa:SortSt}{lo:Nat}(R:RS a₀ κ r st lo) (B:CB a₀ κ lo st aa):RS a₀ κ r aa lo:=by
 refine⟨B.kind,B.perm,B.fail.trans R.fail,?_,R.le⟩
 rw[B.pend]
 exact R.runs.congr fun s n q1 q2=>Hr (XS fun k hk=> (B.pre k hk).symm) q2
def WY {st:SortSt}{Q:Unit->SortSt->Prop}(o:Ord r) (hc:jC prog w A E s κ a₀ r) (h2:2<=a₀.size) (k0:kindOf st=κ) (p0:(arrOf st).Perm a₀) (f0:failedOf st=none) (e0:pendingOf st= #[])
  (h:∀aa,(arrOf aa).Perm a₀->failedOf aa=none->Pw r (arrOf aa).toList->Q () aa):wpS (model prog w) A E s sortRuns' Q st:=by
 rw[sortRuns'_eq]
 dsimp only
 refine Zai (ZfC ?_)
 have z0:(arrOf st).size=a₀.size:=p0.size_eq
 rw[z0]
 generalize minRun' a₀.size a₀.size 0=mr
 refine Zai (ZeT (ZbB (I:=fun x c av=> ∃lo,c=(none,lo)/\RS a₀ κ r av lo/\x<=lo) (Q:=fun c av=>c=(none,a₀.size)/\RS a₀ κ r av a₀.size) ?step ?fin ⟨0,rfl,⟨k0,p0,f0,by rw[e0];exact rfl,Za2 _⟩,Zae _⟩) ?post)
 case fin=>
  rintro c av ⟨lo,rfl,R,hx⟩
  rw[Za4 (Za2 _)]at hx
  have:=R.le
  obtain rfl:lo=a₀.size:=.o
  exact⟨rfl,R⟩
 case step=>
  rintro x c av _ hx ⟨lo,rfl,R1,zZ⟩
  dsimp only
  by_cases bU:lo>=a₀.size
  ·rw[Zaq bU]
   have:=R1.le
   obtain rfl:lo=a₀.size:=.o
   exact Zaa ⟨rfl,R1⟩
  rw[Zam bU]
  refine Zai (WZ o hc (st:=av) ⟨R1.kind,rfl,rfl,R1.perm,fun _ _=>rfl⟩ .o .o fun found ak B2 f1 f2 S=> ?_)
  dsimp only
  by_cases az:found<mr
  ·rw[Zaq az]
   refine Zai (Zgn (ZdA ⟨rfl,?_⟩))
   have fG:found<=min (a₀.size - lo) mr:=.o
   have P8:min (a₀.size - lo) mr<=a₀.size - lo:=.o
   generalize min (a₀.size - lo) mr=n at fG P8
   refine Zai (Wf o hc B2 f1 fG .o S fun ba B3 S3=> ?_)
   rw[Zam .d]
   have R2:=CB.rs R1 B3
   have S2:=S3.pw
   have n1:1<=n:=.o
   clear S3 B3 B2 S
   clear ak
   revert R2 S2
   generalize ba=ak
   intro R2 S2
   refine Zai (ZfC ?_)
   cases hb:(pendingOf ak).back? with
   |none=>
    try dsimp only
    exact Zai (ZeG (Zaa ⟨_,rfl,R2.push n1 .o S2,.o⟩))
   |some z=>
    obtain⟨s1,m1,p1⟩:=z
    try dsimp only
    refine Zai (ZeT (ZbB (I:=fun _ c aa=>c=(none,())/\RS a₀ κ r aa lo/\(arrOf aa).toList.drop lo=(arrOf ak).toList.drop lo) (Q:=fun c aa=>c=(none,())/\RS a₀ κ r aa lo/\(arrOf aa).toList.drop lo=(arrOf ak).toList.drop lo) ?_ (fun c aa hh=>hh) ⟨rfl,R2,rfl⟩) ?_)
    ·rintro y c aa _ _ ⟨rfl,R,hd⟩
     refine Zai (ZfC ?_)
     by_cases hs:(pendingOf aa).size>1
     ·rw[Zaq hs]
      cases hq:(pendingOf aa)[(pendingOf aa).size - 2]? with
      |none=>exact Zaa ⟨rfl,R,hd⟩
      |some z=>
       obtain⟨z1,z2,MW⟩:=z
       dsimp only
       split
       ·exact Zaa ⟨rfl,R,hd⟩
       ·refine Zai (R.merge o hc .o fun dQ tR _ AM=> ?_)
        rw[Zam .d]
        exact Zaa ⟨rfl,tR,AM.trans hd⟩
     ·rw[Zam hs]
      exact Zaa ⟨rfl,R,hd⟩
    rintro c aa ⟨rfl,R,hd⟩
    dsimp only
    refine Zai (ZeG (Zai (ZeG (Zaa ⟨_,rfl,R.pow.push n1 .o ?_,.o⟩))))
    show Pw r (seg (arrOf aa).toList lo _)
    rw[Wr (L':=(arrOf ak).toList) hd (Zae _)]
    exact S2
  ·rw[Zam az]
   have R2:=CB.rs R1 B2
   have S2:=S.pw
   have n1:=f1
   clear S B2
   clear R1
   refine Zai (ZfC ?_)
   cases hb:(pendingOf ak).back? with
   |none=>
    try dsimp only
    exact Zai (ZeG (Zaa ⟨_,rfl,R2.push n1 .o S2,.o⟩))
   |some z=>
    obtain⟨s1,m1,p1⟩:=z
    try dsimp only
    refine Zai (ZeT (ZbB (I:=fun _ c aa=>c=(none,())/\RS a₀ κ r aa lo/\(arrOf aa).toList.drop lo=(arrOf ak).toList.drop lo) (Q:=fun c aa=>c=(none,())/\RS a₀ κ r aa lo/\(arrOf aa).toList.drop lo=(arrOf ak).toList.drop lo) ?_ (fun c aa hh=>hh) ⟨rfl,R2,rfl⟩) ?_)
    ·rintro y c aa _ _ ⟨rfl,R,hd⟩
     refine Zai (ZfC ?_)
     by_cases hs:(pendingOf aa).size>1
     ·rw[Zaq hs]
      cases hq:(pendingOf aa)[(pendingOf aa).size - 2]? with
      |none=>exact Zaa ⟨rfl,R,hd⟩
      |some z=>
       obtain⟨z1,z2,MW⟩:=z
       dsimp only
       split
       ·exact Zaa ⟨rfl,R,hd⟩
       ·refine Zai (R.merge o hc .o fun dQ tR _ AM=> ?_)
        rw[Zam .d]
        exact Zaa ⟨rfl,tR,AM.trans hd⟩
     ·rw[Zam hs]
      exact Zaa ⟨rfl,R,hd⟩
    rintro c aa ⟨rfl,R,hd⟩
    dsimp only
    refine Zai (ZeG (Zai (ZeG (Zaa ⟨_,rfl,R.pow.push n1 .o ?_,.o⟩))))
    show Pw r (seg (arrOf aa).toList lo _)
    rw[Wr (L':=(arrOf ak).toList) hd (Zae _)]
    exact S2
 case post=>
  rintro c av ⟨rfl,R1⟩
  dsimp only
  refine Zai (ZeT (ZbB (I:=fun x c aa=>c=(none,())/\RS a₀ κ r aa a₀.size/\(pendingOf aa).size+x<=a₀.size) (Q:=fun c aa=>c=(none,())/\RS a₀ κ r aa a₀.size/\(pendingOf aa).size<=1) ?_ ?_ ⟨rfl,R1,by have:=R1.runs.le;rw[Zay]at this;omega⟩) ?_)
  ·rintro x c aa _ _ ⟨rfl,R,hx⟩
   refine Zai (ZfC ?_)
   by_cases hs:(pendingOf aa).size<=1
   ·rw[Zaq hs]
    exact Zaa ⟨rfl,R,hs⟩
   rw[Zam hs]
   have idx:∀c:Prop,∀_:Decidable c,(if c then (pendingOf aa).size - 2 - 1 else (pendingOf aa).size - 2)+1< (pendingOf aa).size:=fun c _=>by split<;>omega
   refine Zai (R.merge o hc (idx _ _) fun dQ tR z'' _=> ?_)
   rw[Zam .d]
   exact Zaa ⟨rfl,tR,.o⟩
  ·rintro c aa ⟨rfl,R,hx⟩
   rw[Za4 (Za2 _)]at hx
   exact⟨rfl,R,.o⟩
  rintro c aa ⟨rfl,R,hs⟩
  refine Zaa (h aa R.perm R.fail ?_)
  have hr:=R.runs
  have hl:(pendingOf aa).toList.length<=1:=by rw[Zay];exact hs
  match hp:(pendingOf aa).toList,hl with
  | [],_=>
   rw[hp]at hr
   have:0=a₀.size:=hr
   omega
  | [x],_=>
   rw[hp]at hr
   obtain⟨q1,q2,q3,q4⟩:=hr
   have q4':0+x.2.1=a₀.size:=q4
   rw[q1]at q3
   have:seg (arrOf aa).toList 0 x.2.1=(arrOf aa).toList:=by
    unfold seg
    rw[ZeF,ZbY (by rw[Zay,R.perm.size_eq];omega)]
   rw[this]at q3
   exact q3
  |_::_::_,h=>simp at h
end
end PyProof.Rows.jV
namespace PyProof.Rows.jV
open PySem PySem.W
section
variable {prog:Program}{w:World}{A:Around}{E:Value->Shared->Prop}{s:Shared}{κ:SortKind}{r:Keyed->Keyed->Bool}
def Cg (prog:Program) (w:World) (A:Around) (E:Value->Shared->Prop) (κ:SortKind) (r:Keyed->Keyed->Bool) (a:Addr) (h:Heap) (vs:List Value):Prop:=
 ∀s6:Shared,(∀b o,b≠a->h.get? b=some o->s6.heap.get? b=some o)->(2<=vs.length->∀Q:SortKind->Shared->Prop,Q κ s6->wpAny (model prog w) A (keyKind' vs.toArray) Q E s6)/\jC prog w A E s6 κ (pairsOf vs) r
def ZaF (o:Ord r) {a:Addr}{vs:List Value}{n:Nat}{P:PySem.Fin->Shared->Prop}(ho:s.heap.get? a=some (seqObj "list" vs.toArray n)) (hc:Cg prog w A E κ r a s.heap vs) (hz:vs.length<=1000)
  (h:∀xs:Array Keyed,xs.Perm (pairsOf vs)->Pw r xs.toList->P (.done (.ret .none)) {s with heap:=sortedHeap s.heap a vs (xs.map (·.2))}):
  wpAny (model prog w) A (Builtin.«list.sort» ⟨[.ref a],[]⟩) P E s:=by
 rw[list_sort_plain]
 have ha:a<s.heap.objs.size:=Zar ho
 have sr:vs.toArray.size<=sizeLine:=by rw[Zan,ZaP];omega
 refine AN (listItems_at ho rfl ?_)
 refine AN (listUpdate_at ho rfl ?_ sr)
 obtain⟨e1,qm⟩:∃e1,(s.heap.update a (Obj.mapSeq fun _=> #[])).get? a=some (seqObj "list" #[] e1):=⟨_,get?_update_seq ho (fun _=> #[])⟩
 refine AN (seqEpoch_at qm rfl ?_)
 refine AN (wpAny_newTuple ?_ (by simpa using sr))
 refine AN (Zhc ?_)
 refine ZbT ?_
 have wm:(((s.heap.update a (Obj.mapSeq fun _=> #[])).push (seqObj "tuple" vs.toArray 0)).push (seqObj "list" #[] 0)).get? a=some (seqObj "list" #[] e1):=by
  rw[Heap.get?_push_ne _ _ _ (by rw[size_push',Zgw];exact ZaO (ZdU ha)),Heap.get?_push_ne _ _ _ (by rw[Zgw];exact ZaO ha)]
  exact qm
 show wpAny (model prog w) A _ P E {s with heap:=((s.heap.update a (Obj.mapSeq fun _=> #[])).push (seqObj "tuple" vs.toArray 0)).push (seqObj "list" #[] 0)}
 dsimp only
 have keep:∀b o,b≠a->s.heap.get? b=some o->((((s.heap.update a (Obj.mapSeq fun _=> #[])).push (seqObj "tuple" vs.toArray 0)).push (seqObj "list" #[] 0))).get? b=some o:=fun b ob hb e=>
  OF _ (OF _ (by rw[Heap.get?_update_ne _ _ _ _ hb];exact e))
 obtain⟨hk,EV⟩:=hc {s with heap:=((s.heap.update a (Obj.mapSeq fun _=> #[])).push (seqObj "tuple" vs.toArray 0)).push (seqObj "list" #[] 0)} keep
 have hsz:vs.toArray.size=vs.length:=by simp
 by_cases h2:vs.toArray.size<2
 ·rw[Zaq h2,Zaq h2]
  refine AN (Zak ?_)
  rw[StateT.run_pure]
  refine AN (Zak ?_)
  dsimp only
  refine AN (seqEpoch_at wm rfl ?_)
  refine AN (listUpdate_at wm rfl ?_ (hsz2:=by rw[Array.size_map];show(pairsOf vs).size<=_;rw[ZgK,ZaP];omega))
  simp only[Zhp,Zbo,Zdp]
  refine Zak (h (pairsOf vs) (Array.Perm.refl _) ?_)
  have hl:(pairsOf vs).toList.length<2:=by rw[Zay,ZgK];omega
  match (pairsOf vs).toList,hl with
  | [],_=>exact .nil
  | [x],_=>exact ZdN _ _
  |_::_::_,h=>exact absurd h (by simp)
 ·rw[Zam h2,Zam h2]
  refine AN (hk .o _ ?_)
  refine AN (Zbu (WY (κ:=κ) (r:=r) (a₀:=pairsOf vs) (st:=SortSt.mk' κ (vs.toArray.zip vs.toArray) #[] 7 none)
   (Q:=fun _ aa=> (arrOf aa).Perm (pairsOf vs)/\failedOf aa=none/\Pw r (arrOf aa).toList) o EV (by rw[ZgK];omega) rfl (Array.Perm.refl _) rfl rfl fun aa a1 a2 a3=> ⟨a1,a2,a3⟩) ?_ fun _ _ e=>e)
  rintro⟨⟨⟩,aa⟩ s' ⟨rfl,hp,hf,hs⟩
  dsimp only
  refine AN (seqEpoch_at wm rfl ?_)
  refine AN (listUpdate_at wm rfl ?_ (hsz2:=by refine Zcd (Nat.le_of_eq ((Array.size_map ..).trans (hp.size_eq.trans (ZgK _)))) ?_;rw[ZaP];omega))
  rw[hf]
  simp only[Zhp,Zbo,Zdp]
  exact Zak (h _ hp hs)
def XO (o:Ord r) {vs:List Value}(hl:s.heap.IsList l vs.toArray) (hc:∀h' a,(∀b ob,s.heap.get? b=some ob->h'.get? b=some ob)->(∀b ob,s.heap.get? b=some ob->b≠a)->Cg prog w A.in1.in1 (fun _ _=>False) κ r a h' vs) (hz:vs.length<=1000)
  (h:∀xs:Array Keyed,xs.Perm (pairsOf vs)->Pw r xs.toList->Q (.ref (s.heap.objs.size+1)) {s with heap:=sortedAll s.heap vs (xs.map (·.2))}):
  wpAny (model prog w) A (call (.builtin "sorted") [.ref l]) Q E s:=by
 have sr:vs.length<=sizeLine:=by rw[ZaP];omega
 refine Calls.call_function_entry kind_sorted plain_sorted entry_sorted (args_sorted1 _) ?_
 unfold Builtin.«sorted»
 refine AN (m:=checkCount "sorted" 1 1 _) (Zak ?_)
 refine AN (collect_list hl ?_ sr)
 refine AN (Zhc ?_ sr)
 have hsz:((s.heap.push (seqObj "list" #[] 0)).update s.heap.objs.size (Obj.mapSeq (· ++vs.toArray))).objs.size=s.heap.objs.size+1:=by
  rw[Zgw,size_push']
 have hoL:(((s.heap.push (seqObj "list" #[] 0)).update s.heap.objs.size (Obj.mapSeq (· ++vs.toArray))).push (seqObj "list" vs.toArray 0)).get? (s.heap.objs.size+1)=some (seqObj "list" vs.toArray 0):=by
  rw[<-hsz];exact Zax _ rfl
 show wpAny _ _ _ _ _ {s with heap:=((s.heap.push (seqObj "list" #[] 0)).update s.heap.objs.size (Obj.mapSeq (· ++vs.toArray))).push (seqObj "list" vs.toArray 0)}
 rw[hsz]
 have asks:=hc (((s.heap.push (seqObj "list" #[] 0)).update s.heap.objs.size (Obj.mapSeq (· ++vs.toArray))).push (seqObj "list" vs.toArray 0)) (s.heap.objs.size+1)
  (fun b ob e=>OF _ (by rw[Heap.get?_update_ne _ _ _ _ (ZaO (Zar e))];exact OF _ e)) (fun b ob e=>ZaO (ZdU (Zar e)))
 have Ti:Cg prog w A.in1.in1 E κ r (s.heap.objs.size+1) (((s.heap.push (seqObj "list" #[] 0)).update s.heap.objs.size (Obj.mapSeq (· ++vs.toArray))).push (seqObj "list" vs.toArray 0)) vs:=fun s6 h6=>by
  obtain⟨q1,q2⟩:=asks s6 h6
  refine⟨fun g Q hq=>Zbu (q1 g Q hq) (fun _ _ x=>x) fun _ _ x=>x.elim,fun x y st Q m1 m2 hk hq=> ?_⟩
  exact Zbu (q2 x y st Q m1 m2 hk hq) (fun _ _ x=>x) fun _ _ x=>x.elim
 refine AN (ZbT (Zdr slot_list_sort ⟨_,hoL,rfl⟩ entry_list_sort (ZaF o hoL Ti hz fun xs a1 a2=> ⟨_,rfl,?_⟩) (args_list_sort _)))
 exact Zak ⟨_,rfl,h xs a1 a2⟩
end
def aO:List Int->List Int->Bool
 | [],[]=>false
 | [],_::_=>true
 |_::_,[]=>false
 |a::l,b::m=>if a=b then aO l m else decide (a<b)
def YS:∀x y,aO x y=true->aO y x=false
 | [],[],h=>by cases h
 | [],_::_,_=>rfl
 |_::_,[],h=>by cases h
 |a::l,b::m,h=>by
  unfold aO at h |-
  by_cases e:a=b
  ·rw[Zaq e]at h
   rw[Zaq e.symm]
   exact YS l m h
  ·rw[Zam e]at h
   rw[Zam (ZdL e)]
   have:=Zdk h
   exact ZaK .o
def Y6:∀x y z,aO y x=false->aO z y=false->aO z x=false
 | [],[],[],_,_=>rfl
 | [],[],_::_,_,_=>rfl
 | [],_::_,[],_,h=>by cases h
 | [],_::_,_::_,_,_=>rfl
 |_::_,[],_,h,_=>by cases h
 |_::_,_::_,[],_,h=>by cases h
 |a::l,b::m,c::n,h1,h2=>by
  unfold aO at h1 h2 |-
  by_cases e1:b=a
  ·rw[Zaq e1]at h1
   by_cases e2:c=b
   ·rw[Zaq e2]at h2
    rw[Zaq (e2.trans e1)]
    exact Y6 l m n h1 h2
   ·rw[Zam e2]at h2
    have:=ZeK h2
    rw[Zam .o]
    exact ZaK .o
  ·rw[Zam e1]at h1
   have q1:=ZeK h1
   by_cases e2:c=b
   ·rw[Zam .o]
    exact ZaK .o
   ·rw[Zam e2]at h2
    have q2:=ZeK h2
    rw[Zam .o]
    exact ZaK .o
def HC:∀x y,aO x y=false->aO y x=false->x=y
 | [],[],_,_=>rfl
 | [],_::_,h,_=>by cases h
 |_::_,[],_,h=>by cases h
 |a::l,b::m,h1,h2=>by
  unfold aO at h1 h2
  by_cases e:a=b
  ·rw[Zaq e]at h1
   rw[Zaq e.symm]at h2
   rw[e,HC l m h1 h2]
  ·rw[Zam e]at h1
   rw[Zam (ZdL e)]at h2
   have q1:=ZeK h1
   have q2:=ZeK h2
   omega
def Xg (key:Value->List Int):Ord fun x y:Keyed=>aO (key x.1) (key y.1):=⟨fun _ _=>YS _ _,fun _ _ _=>Y6 _ _ _⟩
section
variable {prog:Program}{w:World}{A:Around}{s:Shared}{b:Bool}{Q:Bool->Shared->Prop}
def Xd (h:Q (decide (x<y)) s):wpAny (model prog w) A (oneLt' c (.int x t) (.int y u)) Q (fun _ _=>False) s:=by
 cases c with
 |true=>exact oneLt_int h
 |false=>exact kat_one _ _ (lt_int (Q:=PySem.W.BoolBack Q) h)
def IL :∀{us vs:List Value}{xs ys:List Int}{i:Nat},IntsAre us xs->IntsAre vs ys->fin=decide (xs.length<ys.length)->Q (aO xs ys) s->KatLex prog w A b fin Q (us.zip vs) i s
 |_,_,_,_,i,.nil,.nil,hf,h=>by
  subst hf
  exact h
 |_,_,_,_,i,.nil,.cons _ _ _,hf,h=>by
  subst hf
  exact h
 |_,_,_,_,i,.cons _ _ _,.nil,hf,h=>by
  subst hf
  exact h
 |_,_,_,_,i,.cons x t ix,.cons y u iy,hf,h=>by
  rw[Zed]
  refine kat_cons (ZdH (A:=A) (s:=s) x t y u _ _ _ _ ?_)
  unfold aO at h
  by_cases e:x=y
  ·rw[Zaq e]at h
   rw[Zaj.mpr e]
   exact kat_yes (IL ix iy (by rw[hf];exact Zgx.mpr (by simp only[ZbA];omega)) h)
  ·rw[Zam e]at h
   rw[Ze1.mpr e]
   exact kat_no (Xd h)
end
end PyProof.Rows.jV
namespace L2
open PySem PySem.Spec PyProof.Rows PyProof.Rows.jV
def dG (H:Hp) (v:V) (k:List Int):Prop:=∃t:Addr,v=.ref t/\H t=some (.tup (k.map V.int))
def dG.same (h:dG H v k) (s:ae H H'):dG H' v k:=by
 obtain⟨t,e,h1⟩:=h
 exact⟨t,e,s _ _ h1⟩
def fU (h:Heap):Value->List Int
 | .ref t=>match h.get? t with
  |some o=>match o.data with
   | .seq its _=>its.toList.map numOf
   |_=> []
  |none=> []
 |_=> []
def Y7 {h:Heap}{o:Obj}{its:Array Value}(e:h.get? t=some o) (d:o.data=.seq its n) (i:IntsAre its.toList k):fU h (.ref t)=k:=by
 unfold fU
 dsimp only
 rw[e]
 dsimp only
 rw[d]
 dsimp only
 clear d e
 generalize its.toList=us at i
 induction i with
 |nil=>rfl
 |cons x t _ ih=>rw[ZbJ,ih];rfl
def toV:Value->V
 | .ref t=> .ref t
 |_=> .af
def aaa (h:Heap) (u:Value) (k:List Int):Prop:=∃(t:Addr) (o:Obj) (its:Array Value) (n:Nat),u=.ref t/\h.get? t=some o/\o.cls=.type "tuple" /\o.data=.seq its n/\IntsAre its.toList k
def YZ :∀{xs:List α}{ys:List β}{x:α},Paired R xs ys->x∈xs->∃y∈ys,R x y
 |_,_,_,.cons h r,m=>by
  rcases Zao.mp m with rfl |m
  ·exact⟨_,Zau,h⟩
  ·obtain⟨y,hy,q⟩:=YZ r m
   exact⟨y,Zap _ hy,q⟩
def Jn {α β:Type}{R:α->β->Prop}{f:α->β} :∀{xs:List α}{ys:List β},Paired R xs ys->(∀x y,R x y->f x=y)->xs.map f=ys
 |_,_,.nil,_=>rfl
 |_,_,.cons h r,e=>by rw[ZbJ,e _ _ h,Jn r e]
def JX (h:p∈(pairsOf vs).toList):p.1∈vs/\p.2=p.1:=by
 unfold pairsOf at h
 rw[Array.toList_zip,Zg0]at h
 have:∀(l:List Value),p∈l.zip l->p.1∈l/\p.2=p.1:=fun l=>by
  induction l with
  |nil=>intro h;cases h
  |cons a l ih=>
   intro h
   rw[Zed]at h
   rcases Zao.mp h with rfl |h
   ·exact⟨Zau,rfl⟩
   ·exact⟨Zap _ (ih h).1,(ih h).2⟩
 exact this vs h
abbrev I4:=Int×Int×Int×Int
def bF (q:I4):List Int:=[q.1,q.2.1,q.2.2.1,q.2.2.2]
def Zd0 (h:bF a=bF b):a=b:=by
 obtain⟨a1,a2,a3,a4⟩:=a
 obtain⟨b1,b2,b3,b4⟩:=b
 simp only[bF,List.cons.injEq,and_true]at h
 obtain⟨h1,h2,h3,h4⟩:=h
 subst h1 h2 h3 h4
 rfl
def oQ (H:Hp) (v:V) (q:I4):Prop:=∃t t':Addr,v=.ref t/\H t=some (.tup [.ref t',.int q.2.2.1,.int q.2.2.2])/\H t'=some (.tup [.int q.1,.int q.2.1])
def lg (h:Heap) (u:Value) (k:I4):Prop:=∃(t:Addr) (o:Obj) (n:Nat) (t':Addr) (o':Obj) (n':Nat) (k1 k2 k3 k4:Tok),u=.ref t/\h.get? t=some o/\o.cls=.type "tuple" /\o.data=.seq #[.ref t',.int k.2.2.1 k3,.int k.2.2.2 k4] n/\
 h.get? t'=some o'/\o'.cls=.type "tuple" /\o'.data=.seq #[.int k.1 k1,.int k.2.1 k2] n'
def lg.keep {h h':Heap}(x:lg h u k) (kp:∀b o,b≠a->h.get? b=some o->h'.get? b=some o) (na:∀b o,h.get? b=some o->b≠a):lg h' u k:=by
 obtain⟨t,o,n,t',o',n',k1,k2,k3,k4,e,g,c,d,g',c',d'⟩:=x
 exact⟨t,o,n,t',o',n',k1,k2,k3,k4,e,kp t o (na t o g) g,c,d,kp t' o' (na t' o' g') g',c',d'⟩
def kF (h:Heap):Value->List Int
 | .ref t=>match h.get? t with
  |some o=>match o.data with
   | .seq its _=>fU h (its.toList.getD 0 .none)++(its.toList.drop 1).map numOf
   |_=> []
  |none=> []
 |_=> []
def Wn (x:lg h u k):kF h u=bF k:=by
 obtain⟨t,o,n,t',o',n',k1,k2,k3,k4,rfl,g,c,d,g',c',d'⟩:=x
 have e:=Y7 g' d' (k:=[k.1,k.2.1]) (.cons _ _ (.cons _ _ .nil))
 unfold kF
 dsimp only
 rw[g]
 dsimp only
 rw[d]
 dsimp only
 show fU h (.ref t')++_=_
 rw[e]
 rfl
def Um {h:Heap} :∀{us:List Value}{ks:List I4},Paired (lg h) us ks->∃fs,PySem.W.KatTups h us fs/\fs.length=us.length/\∀f∈fs,∃t o,f=.ref t/\h.get? t=some o/\o.cls=.type "tuple"
 |_,_,.nil=> ⟨[],.nil,rfl,fun f hf=>by cases hf⟩
 |_,_,.cons (a:=u) (b:=k) ⟨t,o,n,t',o',n',k1,k2,k3,k4,e,g,c,d,g',c',d'⟩ r=>by
  obtain⟨fs,h1,h2,h3⟩:=Um r
  subst e
  refine⟨.ref t'::fs,.cons g c d rfl h1,by rw[ZbA,ZbA,h2],fun f hf=> ?_⟩
  rcases Zao.mp hf with rfl |hf
  ·exact⟨_,_,rfl,g',c'⟩
  ·exact h3 f hf
def XW (a b a' b':Int) (l m:List Int):aO (a::b::l) (a'::b'::m)=if [a,b]=[a',b'] then aO l m else HT.lexLt [a,b] [a',b']:=by
 by_cases e1:a=a'
 ·subst e1
  by_cases e2:b=b'
  ·subst e2
   simp[aO]
  ·simp[aO,e2,HT.lexLt]
 ·simp[aO,e1,HT.lexLt]
def VV {A:Around}{s:Shared}{o o':Obj}(hu:A.units<cLine) (g:s.heap.get? t=some o) (c:o.cls=.type "tuple") (d:o.data=.seq #[.int a k1,.int b k2] n)
  (g':s.heap.get? t'=some o') (c':o'.cls=.type "tuple") (d':o'.data=.seq #[.int a' k3,.int b' k4] n'):SeqAt.EqAt A s (.ref t) (.ref t') (decide ([a,b]=[a',b'])):=by
 by_cases h:t=t'
 ·subst h
  rw[g]at g'
  cases g'
  rw[d]at d'
  have e:a=a'/\b=b':=by
   injection d' with e1 e2
   simp at e1
   exact⟨e1.1.1,e1.2.1⟩
  rw[e.1,e.2]
  have:=SeqAt.EqAt.same (A:=A) (s:=s) (.ref t)
  simpa using this
 ·refine SeqAt.EqAt.of_refs h ?_
  have z:=SeqAt.RcAt.tuples (A:=A) (s:=s) (l:=t) (b:=t') (items:= #[.int a k1,.int b k2]) (items2:= #[.int a' k3,.int b' k4]) (e:=fun j=>if j=0 then a==a' else b==b') ⟨o,g,c,n,d⟩ ⟨o',g',c',n',d'⟩ hu (fun j h1 h2=>by
   have QR:j<2:=h1
   match j,QR with
   |0,_=>exact ZdH _ _ _ _
   |1,_=>exact ZdH _ _ _ _)
  have e:((List.range (min (#[Value.int a k1,Value.int b k2]:Array Value).size (#[Value.int a' k3,Value.int b' k4]:Array Value).size)).all (fun j=>if j=0 then a==a' else b==b')&&(#[Value.int a k1,Value.int b k2]:Array Value).size==(#[Value.int a' k3,Value.int b' k4]:Array Value).size)=decide ([a,b]=[a',b']):=by
   show((List.range 2).all (fun j=>if j=0 then a==a' else b==b')&&2==2)=_
   rw[ZdX]
   simp[Zeq]
  rw[e]at z
  exact z
section
variable {X:Cx}
def JR (hu:X.A.units+2<cLine):dW X (.builtin "sorted") (fun xs H Q=> ∃(p:Addr) (vs:List V) (ks:List I4),xs=[.ref p]/\ag X.K H p vs/\Paired (oQ H) vs ks/\vs.length<=1000/\
  ∀(q:Addr) (ph:List V) (rY:List I4),H q=none->rY.Perm ks->(rY.map bF).Pairwise (fun a b=>aO b a=false)->Paired (oQ H) ph rY->Q (.ref q) (upd H q (.lst ph))):=by
 intro pins s σ H xs us Q I r h
 obtain⟨p,vs,ks,rfl,hp,pr,hz,q⟩:=h
 obtain⟨u,rfl,ru⟩:=ZfU r
 cases ru
 obtain⟨its,rv,pl,_⟩:=I.list hp
 have hl:=rv.length
 have key:∀{vs:List V}{ks:List I4}{its:List Value},Paired (oQ H) vs ks->Vals vs its->Paired (fun u k=>lg s.heap u k/\oQ H (toV u) k) its ks:=by
  intro vs ks its pr
  induction pr generalizing its with
  |nil=>intro rv;cases rv;exact .nil
  |cons hh _ ih=>
   intro rv
   cases rv with
   |cons r1 r2=>
    refine .cons ?_ (ih r2)
    obtain⟨t,t',rfl,ht,me⟩:=hh
    cases r1
    obtain⟨i1,ri,⟨o,go,oc,n,od⟩,_⟩:=I.tuple (ah.of ht)
    obtain⟨i2,Mi,⟨o',go',Nl,n',Nj⟩,_⟩:=I.tuple (ah.of me)
    refine⟨?_,t,t',rfl,ht,me⟩
    cases ri with
    |cons a1 a2=>
     cases a2 with
     |cons a3 a4=>
      cases a4 with
      |cons a5 a6=>
       cases a6
       cases Mi with
       |cons b1 b2=>
        cases b2 with
        |cons b3 b4=>
         cases b4
         cases a1
         obtain⟨k3,rfl⟩:=a3
         obtain⟨k4,rfl⟩:=a5
         obtain⟨k1,rfl⟩:=b1
         obtain⟨k2,rfl⟩:=b3
         exact⟨t,o,n,t',o',n',k1,k2,k3,k4,rfl,go,oc,od,go',Nl,Nj⟩
 have tp:=key pr rv
 have tu:Paired (lg s.heap) its ks:=Paired.dS tp fun _ _ h=>h.1
 refine XO (κ:=tuples' false) (r:=fun x y=>aO (kF s.heap x.1) (kF s.heap y.1)) (Xg _) pl.isList (fun h' a kp na s6 h6=> ?_) .o fun xs Ec zY=> ?_
 ·have KD:Paired (lg s6.heap) its ks:=Paired.dS tu fun u k x=>x.keep (a:=a) (fun b o hb e=>h6 b o hb (kp b o e)) na
  refine⟨fun h2 Q' hq=> ?_,fun x y st Q' mx my hk hq=> ?_⟩
  ·obtain⟨fs,kt,kl,kf⟩:=Um KD
   refine PySem.W.kat_kind (T:=.type "tuple") kt .o (fun v hv=> ?_) (by rfl) hq
   obtain⟨t,o,rfl,g,c⟩:=kf v hv
   rw[<-c]
   exact(PySem.W.Looks.ld g).andThen .now
  ·rw[lt'_eq]
   refine Zai (ZfC ?_)
   rw[hk]
   obtain⟨NT,_⟩:=JX mx
   obtain⟨NS,_⟩:=JX my
   obtain⟨kx,_,nx⟩:=YZ tu NT
   obtain⟨ky,_,ny⟩:=YZ tu NS
   dsimp only at hq
   rw[Wn nx,Wn ny]at hq
   obtain⟨tx,ox,n1,KC,ox',NR,c1,c2,c3,c4,ex,gx,cx,dx,Fu,Gg,F3⟩:=nx.keep (h':=s6.heap) (a:=a) (fun b o hb e=>h6 b o hb (kp b o e)) na
   obtain⟨ty,oy,n2,KA,oy',NQ,d1,d2,d3,d4,ey,gy,cy,dy,Ft,Gf,F2⟩:=ny.keep (h':=s6.heap) (a:=a) (fun b o hb e=>h6 b o hb (kp b o e)) na
   rw[ex,ey]
   refine Zai (Zgn (Zgj (PySem.W.kat_lt gx dx gy dy ?_)))
   show PySem.W.KatLex _ _ _ false (decide (3<3)) _ ((Value.ref KC,Value.ref KA)::([Value.int kx.2.2.1 c3,Value.int kx.2.2.2 c4].zip [Value.int ky.2.2.1 d3,Value.int ky.2.2.2 d4])) 0 _
   refine PySem.W.kat_cons (VV (A:=X.A.in1.in1) hu Fu Gg F3 Ft Gf F2 _ _ _ _ ?_)
   have Az:aO (bF kx) (bF ky)=if [kx.1,kx.2.1]=[ky.1,ky.2.1] then aO [kx.2.2.1,kx.2.2.2] [ky.2.2.1,ky.2.2.2] else HT.lexLt [kx.1,kx.2.1] [ky.1,ky.2.1]:=XW ..
   rw[Az]at hq
   by_cases e:[kx.1,kx.2.1]=[ky.1,ky.2.1]
   ·rw[Zaq e]at hq
    rw[ZaT e]
    exact PySem.W.kat_yes (IL (xs:=[kx.2.2.1,kx.2.2.2]) (ys:=[ky.2.2.1,ky.2.2.2]) (.cons _ _ (.cons _ _ .nil)) (.cons _ _ (.cons _ _ .nil)) rfl ⟨rfl,Zaa hq⟩)
   ·rw[Zam e]at hq
    rw[ZaK e]
    exact PySem.W.kat_no (PySem.W.kat_one _ _ (HT.DL ⟨_,Fu,Gg,NR,F3⟩ ⟨_,Ft,Gf,NQ,F2⟩ (ns:=[kx.1,kx.2.1]) (ms:=[ky.1,ky.2.1]) (.cons _ _ (.cons _ _ .nil)) (.cons _ _ (.cons _ _ .nil)) hu ⟨rfl,Zaa hq⟩))
 ·have cP:∀pq∈xs.toList,pq.1∈its/\pq.2=pq.1:=fun pq Ak=>JX ((Zde.mp Ec).mem_iff.mp Ak)
  have eo:(xs.map (·.2)).toList=xs.toList.map (·.1):=by
   rw[Array.toList_map]
   exact List.map_congr_left fun pq Ak=> (cP pq Ak).2
  have po:(xs.toList.map (·.1)).Perm its:=by
   refine List.Perm.trans ((Zde.mp Ec).map _) ?_
   unfold pairsOf
   rw[Array.toList_zip,Zg0]
   have:∀l:List Value,(l.zip l).map (·.1)=l:=fun l=>by
    induction l with
    |nil=>rfl
    |cons a l ih=>rw[Zed,ZbJ,ih]
   rw[this]
  generalize aaz:xs.map (·.2)=out at eo
  let kk:Value->I4:=fun u=>match kF s.heap u with
   | [a,b,c,d]=> (a,b,c,d)
   |_=> (0,0,0,0)
  have EG:∀u k,lg s.heap u k->kk u=k:=fun u k x=>by
   show(match kF s.heap u with
    | [a,b,c,d]=> (a,b,c,d)
    |_=> (0,0,0,0))=k
   rw[Wn x]
   rfl
  have ek:its.map kk=ks:=Jn tu EG
  have rel:∀u∈out.toList,oQ H (toV u) (kk u)/\bF (kk u)=kF s.heap u/\RelV (toV u) u:=fun u hu=>by
   rw[eo]at hu
   obtain⟨k,_,hT,hS⟩:=YZ tp (po.mem_iff.mp hu)
   have e:=EG u k hT
   rw[e]
   refine⟨hS,(Wn hT).symm,?_⟩
   obtain⟨t,t',e2,_⟩:=hS
   obtain⟨t2,_,_,_,_,_,_,_,_,_,e3,_⟩:=hT
   subst e3
   rfl
  have vals:∀l:List Value,(∀u∈l,oQ H (toV u) (kk u)/\bF (kk u)=kF s.heap u/\RelV (toV u) u)->Vals (l.map toV) l/\Paired (oQ H) (l.map toV) (l.map kk)/\(l.map kk).map bF=l.map (kF s.heap):=fun l=>by
   induction l with
   |nil=>intro _;exact⟨.nil,.nil,rfl⟩
   |cons u l ih=>
    intro hl
    obtain⟨i1,i2,i3⟩:=ih fun v hv=>hl v (Zap _ hv)
    obtain⟨a1,a2,a3⟩:=hl u Zau
    exact⟨.cons a3 i1,.cons a1 i2,by rw[ZbJ,ZbJ,ZbJ,i3,a2]⟩
  obtain⟨v1,v2,v3⟩:=vals out.toList rel
  obtain⟨e,he⟩:=sortedAll_at s.heap its out
  have lo:out.toList.length=its.length:=by rw[eo];exact po.length_eq
  have hlen:(out.toList.map toV).length<=sizeLine:=by rw[Zat,lo,ZaP];omega
  refine⟨.ref (s.heap.objs.size+1),_,I.laid (t':=s.toks) (a:=s.heap.objs.size+1) (o:=.lst (out.toList.map toV)) (fun b o=>sortedAll_old) (Ze3 _) ⟨hlen,out.toList,e,v1,by simpa using he⟩,rfl,q _ _ (out.toList.map kk) (I.ai.fresh (Ze3 _)) ?_ ?_ v2⟩
  ·rw[<-ek,eo]
   exact po.map _
  ·rw[v3,eo,Zf1,Zdn]
   exact zY
end
end L2
namespace PyProof.Rows.jV
open PySem
def jw (lt:Value->Value->Bool):Value->List Value->Value
 |b,[]=>b
 |b,v::r=>jw lt (if lt v b=true then v else b) r
section
variable {prog:Program}{w:World}{A:Around}{R:Result->Shared->Prop}{lt:Value->Value->Bool}{vs:List Value}{h0:Heap}{kw:List (Str×Value)}
def Kp (h0 h:Heap):Prop:=∀b o,h0.get? b=some o->h.get? b=some o
def X3 (hh:A.in1.handled=none) (wu:l≠I) (oA:S≠I) (wL:S≠l) (zI:h0.get? I=none) (zS:h0.get? S=none)
  (AO:∀(s':Shared) u v (Q:Value->Shared->Prop) (E:Value->Shared->Prop),Kp h0 s'.heap->u∈vs->v∈vs->Q (.bool (lt u v)) s'->wpAny (model prog w) A.in1 (richCompare .Lt u v) Q E s'):
  ∀(k j:Nat) (s:Shared) (vb:Value) (c:Nat),vs.length - j=k->j<=vs.length->s.heap.IsListIter I l j->s.heap.IsList l vs.toArray->vb∈vs->Kp h0 s.heap->
  s.heap.get? S=some {cls:=.type "list",dict:=none,data:=.seq #[vb,vb] c,slots:= #[]}->
  (∀h' tk,Kp h0 h'->R (.ok (.ret (jw lt vb (vs.drop j)))) {s with heap:=h',toks:=tk})->
  codeAny (model prog w) A (.builtin "min.loop" ⟨[.ref I,.none,.ref S],kw⟩) R s:=by
 have sH:(toString "min" ++toString ".loop" :String)= "min.loop" :=.d
 have W:=Zhm (prog:=prog) (w:=w) (A:=A.in1) hh I l wu vs.toArray
 have hsz:vs.toArray.size=vs.length:=Zan ..
 have ne:∀b o,h0.get? b=some o->b∉[I]/\b≠S:=fun b o e=> ⟨fun m=> (by rw[ZaI.mp m,zI]at e;cases e),fun m=> (by rw[m,zS]at e;cases e)⟩
 intro k
 induction k with
 |zero=>
  intro j s vb c hk hj hit qq hb Ax hS hR
  have sR:j=vs.toArray.size:=.o
  refine Zda F.entry_min_loop ?_
  rw[ZbZ ZfE _]
  show wpAny _ A.in1 (seqItems? (.ref S) >>=_) _ _ s
  refine AN (Zb5 hS rfl ?_)
  show wpAny _ A.in1 (tryCatch (pyNext (.ref I)) _ >>=_) _ _ s
  refine AN (ZeX (W.done s _ _ (sR▸⟨hit,qq⟩) fun h' tk aQ=> ?_))
  have eY:=aQ S _ (by simpa using oA) hS
  show wpAny _ A.in1 (updateSeq S (fun _=> #[]) >>=_) _ _ _
  refine AN ?_
  refine ZgL eY rfl (AN (ZfQ (Zak ?_)))
  have e:vs.drop j=[]:=ZbX .o
  rw[e]at hR
  exact hR _ tk fun b o q=> (ZbQ _ _ (ZdL (ne b o q).2)).trans (aQ b o (ne b o q).1 (Ax b o q))
 |succ k ih=>
  intro j s vb c hk hj hit qq hb Ax hS hR
  have az:j<vs.length:=.o
  refine Zda F.entry_min_loop ?_
  rw[ZbZ ZfE _]
  show wpAny _ A.in1 (seqItems? (.ref S) >>=_) _ _ s
  refine AN (Zb5 hS rfl ?_)
  show wpAny _ A.in1 (tryCatch (pyNext (.ref I)) _ >>=_) _ _ s
  refine AN (ZeX (W.item j s _ _ .o ⟨hit,qq⟩ fun v h' tk hP iJ aQ=> ?_))
  have hv:vs[j]? =some v:=by simpa using hP
  have Ee:v∈vs:=Zbc hv
  have eY:=aQ S _ (by simpa using oA) hS
  have r6:Kp h0 h':=fun b o q=>aQ b o (ne b o q).1 (Ax b o q)
  have ed:vs.drop j=v::vs.drop (j+1):=by
   have e2:vs[j]=v:=(Zab.mp hv).2
   rw[Zdu az,e2]
  rw[ed]at hR
  show wpAny _ A.in1 (tryCatch (holding [v,v] (richCompare .Lt v vb >>=_)) _ >>=_) _ _ _
  refine AN (ZeX (ZbT (AN (AO _ v vb _ _ r6 Ee hb ?_))))
  refine AN (ZbT (Zds ?_))
  refine AN (ZfQ (Zak ?_))
  cases cT:lt v vb with
  |true=>
   simp only[ZeL]
   refine AN ?_
   refine ZgL eY rfl (AN (ZfQ ?_))
   rw[sH]
   have fr:=W.frame (j+1) _ (h'.update S (Obj.mapSeq fun _=> #[v,v])) iJ fun b tf o e=> (ZbQ _ _ (fun h:S=b=>by
    simp only[Zao,Zbk,Zca]at tf
    rcases tf with q |q
    ·exact oA (h.trans q)
    ·exact wL (h.trans q))).trans e
   refine Zak ⟨Zeg ZfE _,ih (j+1) _ v _ .o az fr.1 fr.2 Ee (fun b o q=> (ZbQ _ _ (ZdL (ne b o q).2)).trans (r6 b o q)) (Zdl _ eY rfl) fun dj qW fF=> ?_⟩
   have z:=hR dj qW fF
   unfold jw at z
   rw[Zaq cT]at z
   exact z
  |false=>
   simp only[Zbo,Zdp]
   refine AN (ZfQ ?_)
   rw[sH]
   refine Zak ⟨Zeg ZfE _,ih (j+1) _ vb c .o az iJ.1 iJ.2 hb r6 eY fun dj qW fF=> ?_⟩
   have z:=hR dj qW fF
   unfold jw at z
   rw[Zam (by rw[cT];exact Zav)]at z
   exact z
def Wa (a v:Value):argsOk "min" ⟨[a],[(Str.ofString "default",v)]⟩:=by unfold argsOk;kernel_rfl
def Zc0 {s:Shared}(hh:A.in1.handled=none) (As:s.heap.IsList l vs.toArray)
  (AO:∀(s':Shared) u v (Q:Value->Shared->Prop) (E:Value->Shared->Prop),Kp s.heap s'.heap->u∈vs->v∈vs->Q (.bool (lt u v)) s'->wpAny (model prog w) A.in1 (richCompare .Lt u v) Q E s')
  (h1:∀h' tk,vs=[]->Kp s.heap h'->Q .none {s with heap:=h',toks:=tk}) (h2:∀v r h' tk,vs=v::r->Kp s.heap h'->Q (jw lt v r) {s with heap:=h',toks:=tk}):
  wpAny (model prog w) A (call (.builtin "min") [.ref l] [(Str.ofString "default",.none)]) Q E s:=by
 have sH:(toString "min" ++toString ".loop" :String)= "min.loop" :=.d
 obtain⟨ol,wk,_⟩:=id As
 have EA:l<s.heap.objs.size:=Zar wk
 refine kmk_tree PySem.F.kind_min PySem.F.plain_min PySem.F.entry_min (Wa _ _) ?_
 show wpAny _ A.in1 (Builtin.Builtins.bindParams "min" ["key", "default"] 0 ⟨[],[(Str.ofString "default",.none)]⟩ >>=_) _ _ s
 refine AN (Zgi (show Builtin.Builtins.bindParams "min" ["key", "default"] 0 ⟨[],[(Str.ofString "default",.none)]⟩=pure [none,some .none] from rfl) ?_)
 refine AN (Zak ?_)
 refine AN (ZeR As ?_)
 refine AN (Zhc ?_ (Za2 _))
 rw[sH]
 have hS:(s.heap.push {cls:=.type "list_iterator",data:=.fields #[.ref l,.int 0 0]}).objs.size=s.heap.objs.size+1:=size_push' ..
 have wu:l≠s.heap.objs.size:=ZaO EA
 have oA:(s.heap.push {cls:=.type "list_iterator",data:=.fields #[.ref l,.int 0 0]}).objs.size≠s.heap.objs.size:=by rw[hS];exact Ze8 (Zgt _)
 have wL:(s.heap.push {cls:=.type "list_iterator",data:=.fields #[.ref l,.int 0 0]}).objs.size≠l:=by rw[hS];exact Ze8 (ZdU EA)
 have zI:s.heap.get? s.heap.objs.size=none:=ZfG (Zae _)
 have zS:s.heap.get? (s.heap.push {cls:=.type "list_iterator",data:=.fields #[.ref l,.int 0 0]}).objs.size=none:=ZfG (by rw[hS];exact Ze3 _)
 refine Zak ⟨Zeg Zfn _,?_⟩
 have zR:Kp s.heap ((s.heap.push {cls:=.type "list_iterator",data:=.fields #[.ref l,.int 0 0]}).push (seqObj "list" #[] 0)):=fun b o e=>OF _ (OF _ e)
 have gI:((s.heap.push {cls:=.type "list_iterator",data:=.fields #[.ref l,.int 0 0]}).push (seqObj "list" #[] 0)).get? s.heap.objs.size=some {cls:=.type "list_iterator",data:=.fields #[.ref l,.int 0 0]} :=
  OF _ (Zax _ rfl)
 have gS:((s.heap.push {cls:=.type "list_iterator",data:=.fields #[.ref l,.int 0 0]}).push (seqObj "list" #[] 0)).get? (s.heap.push {cls:=.type "list_iterator",data:=.fields #[.ref l,.int 0 0]}).objs.size=some (seqObj "list" #[] 0):=Zax _ rfl
 have lH:((s.heap.push {cls:=.type "list_iterator",data:=.fields #[.ref l,.int 0 0]}).push (seqObj "list" #[] 0)).IsList l vs.toArray:=As.at fun o e=>zR _ _ e
 have W:=Zhm (prog:=prog) (w:=w) (A:=A.in1) hh s.heap.objs.size l wu vs.toArray
 have hsz:vs.toArray.size=vs.length:=Zan ..
 have ne:∀b o,s.heap.get? b=some o->b∉[s.heap.objs.size]/\b≠(s.heap.push {cls:=.type "list_iterator",data:=.fields #[.ref l,.int 0 0]}).objs.size:=fun b o e=> ⟨fun m=> (by rw[ZaI.mp m,zI]at e;cases e),fun m=> (by rw[m,zS]at e;cases e)⟩
 refine Zda PySem.F.entry_min_loop ?_
 rw[ZbZ Zfn _]
 show wpAny _ A.in1 (seqItems? (.ref _) >>=_) _ _ _
 refine AN (Zb5 gS rfl ?_)
 show wpAny _ A.in1 (tryCatch (pyNext (.ref s.heap.objs.size)) _ >>=_) _ _ _
 cases md:vs with
 |nil=>
  refine AN (ZeX (W.done _ _ _ ⟨⟨_,gI,rfl,by rw[hsz,md];rfl⟩,lH⟩ fun h' tk aQ=> ?_))
  refine AN (ZdA ?_)
  exact Zak (h1 h' tk md fun b o q=>aQ b o (ne b o q).1 (zR b o q))
 |cons v0 r0=>
  refine AN (ZeX (W.item 0 _ _ _ (by rw[hsz,md];exact Zf2 _) ⟨⟨_,gI,rfl,rfl⟩,lH⟩ fun v h' qX hP iJ aQ=> ?_))
  have hv:v0=v:=by
   rw[md]at hP
   simpa using hP
  subst hv
  have Fw:=aQ _ _ (by simpa using oA) gS
  have r6:Kp s.heap h':=fun b o q=>aQ b o (ne b o q).1 (zR b o q)
  show wpAny _ A.in1 (updateSeq (s.heap.push {cls:=.type "list_iterator",data:=.fields #[.ref l,.int 0 0]}).objs.size (fun _=> #[v0,v0]) >>=_) _ _ _
  refine AN ?_
  refine ZgL Fw rfl ?_
  rw[sH]
  have fr:=W.frame (0+1) _ (h'.update (s.heap.push {cls:=.type "list_iterator",data:=.fields #[.ref l,.int 0 0]}).objs.size (Obj.mapSeq fun _=> #[v0,v0])) iJ fun b tf o e=> (ZbQ _ _ (fun h=>by
    simp only[Zao,Zbk,Zca]at tf
    rcases tf with q |q
    ·exact oA (h.trans q)
    ·exact wL (h.trans q))).trans e
  refine Zak ⟨Zeg Zfn _,X3 (lt:=lt) (vs:=vs) (h0:=s.heap) hh wu oA wL zI zS AO _ 1 _ v0 _ rfl (by rw[md];exact Nat.succ_le_succ (Za2 _)) fr.1 fr.2 (by rw[md];exact Zau) (fun b o q=> (ZbQ _ _ (ZdL (ne b o q).2)).trans (r6 b o q)) (Zdl _ Fw rfl) fun dj qW fF=> ?_⟩
  have z:=h2 v0 r0 dj qW md fF
  rw[md]
  exact z
end
def Wc :∀{r:List Value}{b:Value},jw lt b r∈b::r
 | [],b=>Zau
 |v::r,b=>by
  unfold jw
  rcases Zao.mp (Wc (lt:=lt) (r:=r) (b:=if lt v b=true then v else b)) with h |h
  ·rw[h]
   by_cases e:lt v b=true
   ·rw[Zaq e];exact Zap _ Zau
   ·rw[Zam e];exact Zau
  ·exact Zap _ (Zap _ h)
def WQ (key:Value->List Int):∀{r:List Value}{b:Value},∀v∈b::r,aO (key v) (key (jw (fun a b=>aO (key a) (key b)) b r))=false
 | [],b,v,hv=>by
  rw[ZaI.mp hv]
  cases h:aO (key b) (key (jw (fun a b=>aO (key a) (key b)) b [])) with
  |false=>rfl
  |true=>
   have:=YS _ _ h
   exact absurd (h.symm.trans this) .d
 |w::r,b,v,hv=>by
  have ih:=fun v hv=>WQ key (r:=r) (b:=if aO (key w) (key b)=true then w else b) v hv
  show aO (key v) (key (jw (fun a b=>aO (key a) (key b)) (if aO (key w) (key b)=true then w else b) r))=false
  have hd:=ih _ Zau
  by_cases e:aO (key w) (key b)=true
  ·rw[Zaq e]at hd ih |-
   rcases Zao.mp hv with rfl |hv
   ·exact Y6 _ _ _ hd (YS _ _ e)
   ·exact ih v hv
  ·rw[Zam e]at hd ih |-
   rcases Zao.mp hv with rfl |hv
   ·exact hd
   ·rcases Zao.mp hv with rfl |hv
    ·exact Y6 _ _ _ hd (by simpa using e)
    ·exact ih v (Zap _ hv)
end PyProof.Rows.jV
namespace L2
open PySem PySem.Spec PyProof.Rows PyProof.Rows.jV
def WK:∀a b:List Int,HT.lexLt a b=aO a b
 | [],[]=>rfl
 | [],_::_=>rfl
 |_::_,[]=>rfl
 |x::a,y::b=>by
  unfold aO
  rw[HT.DP,WK a b]
section
variable {X:Cx}
def K7 (K:Zht) (te:TE):TE:=fun σ H Q=>te σ H fun v H1=> ∃(a:Addr) (vs:List V) (ks:List (List Int)),v=.ref a/\ag K H1 a vs/\Paired (dG H1) vs ks/\(vs=[]->Q .af H1)/\
 ∀v k,v∈vs->k∈ks->dG H1 v k->(∀k'∈ks,aO k' k=false)->Q v H1
def Xi {x:Str}{te:TE}{p px kp rZ pos:Pos}(hc:X.calm=true) (hu:X.A.units+1<cLine) (hg:Gl X "min") (hm:X.mg "min" =none) (he:PE X (.Name x px) te)
  (dF:(backToKw pos (keywordEach [⟨some "default",.Constant .none 0 kp,rZ⟩] X.env)).filterMap (·.1)=[Str.ofString "default"]:=by rfl):
  PE X (.Call (.Name "min" p) [.Name x px] [⟨some "default",.Constant .none 0 kp,rZ⟩] pos) (K7 X.K te):=by
 intro pins s σ H Q I h
 refine Zdh (YD I hg hm PyProof.Rows.Boot.«min» ?_ .d .d)
 have pa:PA X [.Name x px] (pj te qY):=Za he Zb
 have pk:PK X [⟨some "default",.Constant .none 0 kp,rZ⟩] (pj (tC .af) qY):=Xk Yn TM
 refine PyProof.Rows.callWith_kw (aq (pa pos pins s σ H (fun us H1=>match us with
  | [v]=> ∃(a:Addr) (vs:List V) (ks:List (List Int)),v=.ref a/\ag X.K H1 a vs/\Paired (dG H1) vs ks/\(vs=[]->Q .af H1)/\∀v k,v∈vs->k∈ks->dG H1 v k->(∀k'∈ks,aO k' k=false)->Q v H1
  |_=>False) I h) fun us s1 ⟨dX,H1,I1,r1,q1⟩=> ?_)
 match dX,q1 with
 | [v],q1=>
  obtain⟨a,vs,ks,rfl,hq,pr,q1,q2⟩:=q1
  refine aq (pk pos pins s1 σ H1 (fun zs H2=>zs=[.af]/\H2=H1) I1 ⟨rfl,rfl⟩) fun ws s2 ⟨zs,H2,I2,rz,e1,e2⟩=> ?_
  subst e1 e2
  obtain⟨u,rfl,ru⟩:=ZfU r1
  obtain⟨z,rfl,Me⟩:=ZfU rz
  cases ru
  have ez:z=.none:=Me
  subst ez
  rw[dF]
  show wpAny _ _ (call (.builtin "min") [.ref a] [(Str.ofString "default",.none)]) _ _ _
  obtain⟨its,rv,pl,_⟩:=I2.list hq
  have key:∀{vs:List V}{ks:List (List Int)}{its:List Value},Paired (dG H2) vs ks->Vals vs its->∀u∈its,∃v∈vs,∃k∈ks,RelV v u/\dG H2 v k/\aaa s2.heap u k:=by
   intro vs ks its pr
   induction pr generalizing its with
   |nil=>intro rv;cases rv;intro u hu;cases hu
   |cons hh _ ih=>
    intro rv
    cases rv with
    |cons r1 r2=>
     intro u hu
     rcases Zao.mp hu with rfl |hu
     ·obtain⟨t,e,ht⟩:=id hh
      obtain⟨items,ri,⟨o,go,oc,n,od⟩,_⟩:=I2.tuple (ah.of ht)
      refine⟨_,Zau,_,Zau,r1,hh,?_⟩
      subst e
      cases r1
      exact⟨t,o,_,n,rfl,go,oc,od,by simpa using Jw ri⟩
     ·obtain⟨v,hv,k,hk,w⟩:=ih r2 u hu
      exact⟨v,Zap _ hv,k,Zap _ hk,w⟩
  have Oj:∀{vs:List V}{ks:List (List Int)}{its:List Value},Paired (dG H2) vs ks->Vals vs its->∀k∈ks,∃u∈its,fU s2.heap u=k:=by
   intro vs ks its pr
   induction pr generalizing its with
   |nil=>intro rv k hk;cases hk
   |cons hh _ ih=>
    intro rv
    cases rv with
    |cons r1 r2=>
     intro k hk
     rcases Zao.mp hk with rfl |hk
     ·obtain⟨t,e,ht⟩:=id hh
      obtain⟨items,ri,⟨o,go,oc,n,od⟩,_⟩:=I2.tuple (ah.of ht)
      refine⟨_,Zau,?_⟩
      subst e
      cases r1
      exact Y7 go od (by simpa using Jw ri)
     ·obtain⟨u,hu,e⟩:=ih r2 k hk
      exact⟨u,Zap _ hu,e⟩
  refine Zc0 (lt:=fun u v=>aO (fU s2.heap u) (fU s2.heap v)) (I2.ok.hd hc) pl.isList (fun s' u v Q' E' kp OP ON eW=> ?_) (fun h' tk e kp=> ?_) (fun v0 r h' tk e kp=> ?_)
  ·obtain⟨_,_,ku,_,_,_,tu,ou,iu,nu,rfl,gu,cu,du,ju⟩:=key pr rv u OP
   obtain⟨_,_,kv,_,_,_,tv,ov,iv,nv,rfl,gv,cv,dv,jv⟩:=key pr rv v ON
   have e1:fU s2.heap (.ref tu)=ku:=Y7 gu du ju
   have e2:fU s2.heap (.ref tv)=kv:=Y7 gv dv jv
   try dsimp only at eW
   rw[e1,e2,<-WK]at eW
   exact HT.DL ⟨_,kp _ _ gu,cu,nu,du⟩ ⟨_,kp _ _ gv,cv,nv,dv⟩ ju jv hu eW
  ·subst e
   cases rv
   exact⟨.af,H2,I2.kept kp,rfl,q1 rfl⟩
  ·have hm:=Wc (lt:=fun u v=>aO (fU s2.heap u) (fU s2.heap v)) (r:=r) (b:=v0)
   have hle:=WQ (fU s2.heap) (r:=r) (b:=v0)
   generalize jw (fun u v=>aO (fU s2.heap u) (fU s2.heap v)) v0 r=m at hm hle
   rw[<-e]at hm hle
   obtain⟨v,hv,k,hk,Mg,qh,tu,ou,iu,nu,e3,gu,cu,du,ju⟩:=key pr rv m hm
   have e1:fU s2.heap m=k:=by rw[e3];exact Y7 gu du ju
   refine⟨v,H2,I2.kept kp,Mg,q2 v k hv hk qh fun k' aQ=> ?_⟩
   obtain⟨u',jb,e4⟩:=Oj pr rv k' aQ
   have:=hle u' jb
   rw[e1,e4]at this
   exact this
end
end L2
namespace L2
open PySem PySem.Spec PyProof.Rows
def xG (K:Zht) (l1 l2:Addr):It:=
 ⟨fun i H=> ∃xs ys x y,ag K H l1 xs/\ag K H l2 ys/\xs[i]? =some x/\ys[i]? =some y,
  fun i H v H'=> ∃(T:Addr) (x y:V),v=.ref T/\H T=none/\H'=upd H T (.par [x,y])/\∀xs ys,ag K H l1 xs->ag K H l2 ys->xs[i]? =some x/\ys[i]? =some y,
  fun i H=> ∃xs ys,ag K H l1 xs/\ag K H l2 ys/\min xs.length ys.length=i⟩
def Zcj {P:Program}{w:World}{K:Zht}{elts:List Expr}{kk:Nat}{pos:Pos}(z TI TO i1 i2 l1 l2:Addr) (D:ZipApart z TI TO i1 i2 l1 l2):
  Turn P w K (.Tuple elts kk pos) (xG K l1 l2) [z,TI,TO,i1,i2] z (fun i h=>IsZip h z TI TO .none/\IsPair h TI (.ref i1) (.ref i2)/\(∃a b,IsPair h TO a b)/\h.IsListIter i1 l1 i/\h.IsListIter i2 l2 i) where
 mem:=by simp
 obj:=fun i h st b hb=>by
  obtain⟨a1,a2,⟨u,v,a3⟩,⟨o4,h4,_,d4⟩,⟨o5,h5,_,d5⟩⟩:=st
  simp only[Zao,Zbk,Zca]at hb
  rcases hb with rfl |rfl |rfl |rfl |rfl
  ·exact⟨_,a1,fun v z=>by cases z⟩
  ·exact⟨_,a2,fun v z=>by cases z⟩
  ·exact⟨_,a3,fun v z=>by cases z⟩
  ·exact⟨_,h4,fun v z=>by rw[d4]at z;cases z⟩
  ·exact⟨_,h5,fun v z=>by rw[d5]at z;cases z⟩
 keep:=fun i h h' st k=>by
  obtain⟨a1,a2,⟨u,v,a3⟩,a4,a5⟩:=st
  exact⟨k z (by simp) _ a1,k TI (by simp) _ a2,⟨u,v,k TO (by simp) _ a3⟩,a4.at fun o q=>k i1 (by simp) o q,a5.at fun o q=>k i2 (by simp) o q⟩
 item:=by
  intro X hP hw hK hc i pins s σ H E I hf st hg
  subst hP hw hK
  obtain⟨xs,ys,x,y,fX,cw,hx,hy⟩:=hg
  obtain⟨fw,jH,eQ,cq⟩:=I.list fX
  obtain⟨fV,fT,dH,aI⟩:=I.list cw
  obtain⟨u,hu,ru⟩:=jH.get hx
  obtain⟨v,hv,rv⟩:=fT.get hy
  have om:i<min fw.toArray.size fV.toArray.size:=by
   have e1:=(Zab.mp hu).1
   have e2:=(Zab.mp hv).1
   simp only[Zan]
   omega
  have W:=WalksT.zip2 (prog:=X.prog) (w:=X.w) (A:=X.A) (I.ok.hd hc) z TI TO i1 i2 l1 l2 D fw.toArray fV.toArray
  obtain⟨a1,a2,a3,a4,a5⟩:=st
  refine W.item i s _ _ om ⟨a1,a2,a3,a4,a5,eQ.isList,dH.isList⟩ fun T vals h' tk hP fP ow jf hk=> ⟨_,rfl,W.go elts kk pos i T _ _ _ jf fun dj dQ fF=> ?_⟩
  obtain⟨x2,y2,kI,bo,rfl⟩:=hP
  have l9:fw[i]? =some x2:=by simpa using kI
  have Eb:fV[i]? =some y2:=by simpa using bo
  rw[hu]at l9
  rw[hv]at Eb
  cases l9
  cases Eb
  have jn:H T=none:=I.ai.fresh fP
  have both:∀b o,b∉[z,TO,i1,i2]->s.heap.get? b=some o->dj.get? b=some o:=fun b o hb q=>fF b o hb (hk b o hb q)
  have sub:∀b,b∉[z,TI,TO,i1,i2]->b∉[z,TO,i1,i2]:=fun b hb hm=>hb (by
   simp only[Zao,Zbk,Zca]at hm |-
   rcases hm with h |h |h |h
   ·exact .inl h
   ·exact .inr (.inr (.inl h))
   ·exact .inr (.inr (.inr (.inl h)))
   ·exact .inr (.inr (.inr (.inr h))))
  have kO:T∉[z,TO,i1,i2]:=W.apart _ _ _ jf
  have oz:dj.IsTuple T #[u,v]:=ow.at fun o q=>fF T o kO q
  have neT:∀b o,s.heap.get? b=some o->b≠T:=fun b o q=>ZaO (ZaE (Zar q) fP)
  have dw:∀b o,H b=some o->b≠T:=fun b o q=>Zi q jn
  have cF:∀b o,H b=some o->b∉[z,TI,TO,i1,i2]:=fun b o q hm=>by
   have:=(hf b hm).1
   rw[this]at q;cases q
  refine⟨.ref T,upd H T (.par [x,y]),?_,rfl,⟨T,x,y,rfl,jn,rfl,fun as bs ha hb=>by rw[I.vR ha fX,I.vR hb cw];exact⟨hx,hy⟩⟩,⟨dQ.1,dQ.2.1,dQ.2.2.1,dQ.2.2.2.1,dQ.2.2.2.2.1⟩,fun b hb=> ?_⟩
  ·refine(show Inv X pins σ (upd H T (.par [x,y])) {s with heap:=dj,toks:=tk} from ?_)
   refine I.call (g':=s.gens) (d':=s.drawn) (t':=tk) (h':=dj) (ch:=[z,TI,TO,i1,i2]) ⟨fun b o q _ _ hx=>both b o (sub b hx) q,fun b o q _ _ hx=> ⟨o.slots,both b o (sub b hx) q⟩,fun b o q n hx=>by rw[Zg (neT b o q)];exact n,fun b o q hx=> ⟨o,both b o (sub b hx) q⟩,
    fun b ys q=>by rw[Zg (dw b _ q)];exact q,fun b o u q=>by rw[Zg (dw b _ q)];exact q,fun b ps q=> ⟨#[],by rw[Zg (dw b _ q),q];simp⟩⟩ (fun b o q=> ?_) I.bare fun b hb=> ?_
   ·by_cases hb:b=T
    ·subst hb
     rw[Ze]at q
     cases q
     exact⟨aZ,[u,v],.cons ru (.cons rv .nil),oz⟩
    ·rw[Zg hb]at q
     refine(I.ai b o q).cb (fun c ob bH q'=>both c ob ?_ q') (fun c q'=>by rw[Zg (dw c _ q')];exact q') fun c ys q'=>by rw[Zg (dw c _ q')];exact q'
     rcases bH with z' |z'
     ·rw[z'];exact sub _ (cF b o q)
     ·exact sub _ (cF c _ z')
   ·obtain⟨f0,f1,f2,f3,f4,f5⟩:=hf b hb
    exact⟨f3,f1,f4,f5⟩
  ·have cG:b≠T:=by
    obtain⟨f0,_⟩:=hf b hb
    have:∃o,s.heap.get? b=some o:=by
     obtain⟨u',v',Bw⟩:=a3
     obtain⟨o4,h4,_⟩:=a4
     obtain⟨o5,h5,_⟩:=a5
     simp only[Zao,Zbk,Zca]at hb
     rcases hb with rfl |rfl |rfl |rfl |rfl
     ·exact⟨_,a1⟩
     ·exact⟨_,a2⟩
     ·exact⟨_,Bw⟩
     ·exact⟨_,h4⟩
     ·exact⟨_,h5⟩
    obtain⟨o,ho⟩:=this
    exact neT b o ho
   rw[Zg cG]
   exact(hf b hb).1
 done:=by
  intro X hP hw hK hc i pins s σ H E I hf st hg
  subst hP hw hK
  obtain⟨xs,ys,fX,cw,hx⟩:=hg
  obtain⟨fw,jH,eQ,cq⟩:=I.list fX
  obtain⟨fV,fT,dH,aI⟩:=I.list cw
  have e1:=jH.length
  have e2:=fT.length
  have W:=WalksT.zip2 (prog:=X.prog) (w:=X.w) (A:=X.A) (I.ok.hd hc) z TI TO i1 i2 l1 l2 D fw.toArray fV.toArray
  have hn:i=min fw.toArray.size fV.toArray.size:=by simp only[Zan];omega
  obtain⟨a1,a2,a3,a4,a5⟩:=st
  rw[hn]at a4 a5
  have sub:∀b,b∉[z,TI,TO,i1,i2]->b∉[z,TO,i1,i2]:=fun b hb hm=>hb (by
   simp only[Zao,Zbk,Zca]at hm |-
   rcases hm with h |h |h |h
   ·exact .inl h
   ·exact .inr (.inr (.inl h))
   ·exact .inr (.inr (.inr (.inl h)))
   ·exact .inr (.inr (.inr (.inr h))))
  refine W.done s _ _ ⟨a1,a2,a3,a4,a5,eQ.isList,dH.isList⟩ fun h' tk hk=> ⟨rfl,?_⟩
  have cF:∀b o,H b=some o->b∉[z,TI,TO,i1,i2]:=fun b o q hm=>by
   have:=(hf b hm).1
   rw[this]at q;cases q
  refine I.call (g':=s.gens) (d':=s.drawn) (t':=tk) (h':=h') (ch:=[z,TI,TO,i1,i2]) ⟨fun b o q _ _ hx=>hk b o (sub b hx) q,fun b o q _ _ hx=> ⟨o.slots,hk b o (sub b hx) q⟩,fun b o q n hx=>n,fun b o q hx=> ⟨o,hk b o (sub b hx) q⟩,fun b ys q=>q,fun b o u q=>q,fun b ps q=> ⟨#[],by rw[q];simp⟩⟩ (fun b o q=> ?_) I.bare fun b hb=> ?_
  ·refine(I.ai b o q).cb (fun c ob bH q'=>hk c ob ?_ q') (fun _ q'=>q') fun _ _ q'=>q'
   rcases bH with z' |z'
   ·rw[z'];exact sub _ (cF b o q)
   ·exact sub _ (cF c _ z')
  ·obtain⟨f0,f1,f2,f3,f4,f5⟩:=hf b hb
   exact⟨f3,f1,f4,f5⟩
 self:=fun A i s Q E st h=>Ze0 st.1 h
section
variable {X:Cx}{elts:List Expr}{kk:Nat}{tp:Pos}
def Oy (K:Zht) (ta:TA):TI:=fun σ H R=>ta σ H fun vs H1=> ∃l1 l2,vs=[.ref l1,.ref l2]/\(∃xs ys,ag K H1 l1 xs/\ag K H1 l2 ys)/\R (xG K l1 l2) H1
def HV {a b:Expr}{ta:TA}{p pos:Pos}(hg:Gl X "zip") (hm:X.mg "zip" =none) (ha:PA X [a,b] ta) (hs:starEach [a,b] X.env=[(false,eval a X.env),(false,eval b X.env)]:=by rfl) (mi:starEach [b] X.env=[(false,eval b X.env)]:=by rfl):
  PI X (.Tuple elts kk tp) (.Call (.Name "zip" p) [a,b] [] pos) (Oy X.K ta):=by
 intro pins s σ H R I h
 refine Call_ (YD I hg hm PyProof.Rows.Boot.«zip» (Zb2 (aq (ha pos pins s σ H _ I h) fun us s1 ⟨vs,H1,I1,r1,q1⟩=> ?_) (by rw[hs,mi]) (by rw[mi];rfl)))
 obtain⟨l1,l2,e,⟨xs,ys,fX,cw⟩,q⟩:=q1
 subst e
 obtain⟨u,v,rfl,ru,rv⟩:=vals2 r1
 cases ru
 cases rv
 obtain⟨fw,jH,eQ,cq⟩:=I1.list fX
 obtain⟨fV,fT,dH,aI⟩:=I1.list cw
 have t1:l1<s1.heap.objs.size:=by obtain⟨o,ho,_⟩:=eQ.isList;exact Zar ho
 have t2:l2<s1.heap.objs.size:=by obtain⟨o,ho,_⟩:=dH.isList;exact Zar ho
 have D:=Ui s1.heap.objs.size l1 l2 t1 t2
 refine call_zip_2 eQ.isList dH.isList fun h' b1 b2 b3 b4 b5 b6 hk=>Ze0 b1 ?_
 have I2:Inv X pins σ H1 {s1 with heap:=h'} :=I1.kept (t':=s1.toks) hk
 refine⟨s1.heap.objs.size+4,[s1.heap.objs.size+4,s1.heap.objs.size+2,s1.heap.objs.size+3,s1.heap.objs.size,s1.heap.objs.size+1],_,_,H1,rfl,I2,
  Zcj _ _ _ _ _ l1 l2 D,⟨b1,b2,⟨_,_,b3⟩,b4,b5⟩,fun b hb=> ?_,q⟩
 have jm:s1.heap.objs.size<=b:=by
  simp only[Zao,Zbk,Zca]at hb
  rcases hb with z |z |z |z |z<;>rw[z]<;>first |exact Zae _ |exact ZfB _ _
 exact I1.mE jm (I1.ai.fresh jm)
end
def Uy {K:Zht}{l1 l2:Addr}{xs zs:List V}{g:TG}{tt:TT}{ti:TC}{ys:List V}{σ:St}{H:Hp}{Q:List V->St->Hp->Prop}(Pv:Nat->List V->St->Hp->Prop) (h0:Pv 0 ys σ H)
  (hl:∀i ys σ H,i<=min xs.length zs.length->Pv i ys σ H->ag K H l1 xs/\ag K H l2 zs)
  (hs:∀i x y T ys σ H,xs[i]? =some x->zs[i]? =some y->H T=none->Pv i ys σ H->g (.ref T) σ (upd H T (.par [x,y])) fun aV H2=>tt aV H2 fun b H3=>if b=true then ti ys aV H3 (Pv (i+1)) else Pv (i+1) ys aV H3)
  (hd:∀ys σ H,Pv (min xs.length zs.length) ys σ H->Q ys σ H):iq g tt ti (xG K l1 l2) ys σ H Q:=by
 refine⟨fun i m ys σ H=>m=min xs.length zs.length - i/\i<=min xs.length zs.length/\Pv i ys σ H,⟨min xs.length zs.length,by simp,Za2 _,h0⟩,?_⟩
 rintro i m ys σ H ⟨rfl,hi,p⟩
 obtain⟨q1,q2⟩:=hl i ys σ H hi p
 by_cases az:i<min xs.length zs.length
 ·have h1:i<xs.length:=.o
  have h2:i<zs.length:=.o
  refine .inr ⟨⟨xs,zs,xs[i],zs[i],q1,q2,by simp[h1],by simp[h2]⟩,Pv (i+1),fun cW aj H' p'=> ⟨min xs.length zs.length - (i+1),.o,rfl,az,p'⟩,fun x H' y=> ?_⟩
  obtain⟨T,a,b,e1,e2,e3,e4⟩:=y
  subst e1 e3
  obtain⟨f1,f2⟩:=e4 xs zs q1 q2
  exact hs i a b T ys σ H f1 f2 e2 p
 ·have e:i=min xs.length zs.length:=.o
  subst e
  exact .inl ⟨⟨xs,zs,q1,q2,rfl⟩,hd ys σ H p⟩
mutual
inductive Sh (H:Hp):V->PyData->Prop
 |af:Sh H .af .none
 |bl (b:Bool):Sh H (.bl b) (.bool b)
 |int (i:Int):Sh H (.int i) (.int i)
 |str (x:Str):Sh H (.str x) (.str x)
 |tup {a:Addr}{xs:List V}{ds:List PyData} :H a=some (.tup xs)->qF H xs ds->Sh H (.ref a) (.tuple ds)
 |lst {a:Addr}{xs:List V}{ds:List PyData} :H a=some (.lst xs)->qF H xs ds->Sh H (.ref a) (.list ds)
 |hW {a:Addr} :H a=some (.dK [])->Sh H (.ref a) (.dict [])
inductive qF (H:Hp):List V->List PyData->Prop
 |nil:qF H [] []
 |cons {v:V}{vs:List V}{d:PyData}{ds:List PyData} :Sh H v d->qF H vs ds->qF H (v::vs) (d::ds)
end
section
variable {X:Cx}{pins:List (Addr×Obj)}{σ:St}{H:Hp}{s:Shared}
mutual
def XI (I:Inv X pins σ H s):∀{v:V}{d:PyData}{u:Value},Sh H v d->RelV v u->∃as,Reads s.heap u d as/\((∃a,v=.ref a/\H a=some (.dK []))->sysModules∉as)
 |_,_,u,.af,r=>by
  have e:u=.none:=r
  subst e
  exact⟨[],.none,fun _ h=>nomatch h⟩
 |_,_,u,.bl b,r=>by
  have e:u=.bool b:=r
  subst e
  exact⟨[],.bool b,fun _ h=>nomatch h⟩
 |_,_,u,.int i,r=>by
  obtain⟨t,rfl⟩:=r
  exact⟨[],.int i t,fun _ h=>nomatch h⟩
 |_,_,u,.str x,r=>by
  obtain⟨t,rfl⟩:=r
  exact⟨[],.str x t,fun _ h=>nomatch h⟩
 |_,_,u,.tup (a:=a) h rs,r=>by
  have e:u=.ref a:=r
  subst e
  obtain⟨its,rv,⟨o,ho,hc,n,hd⟩,_⟩:=I.tuple (ah.of h)
  obtain⟨as,q⟩:=zp I rs rv
  exact⟨as,.tuple ho hc hd (by simpa using q),fun⟨b,e,hb⟩=>by cases e;rw[h]at hb;cases hb⟩
 |_,_,u,.lst (a:=a) h rs,r=>by
  have e:u=.ref a:=r
  subst e
  obtain⟨_,its,n,rv,ho⟩:=(show bw X.prog X.w H s.heap a (.lst _) from I.ai a _ h)
  obtain⟨as,q⟩:=zp I rs rv
  exact⟨a::as,.list ho rfl rfl (by simpa using q),fun⟨b,e,hb⟩=>by cases e;rw[h]at hb;cases hb⟩
 |_,_,u,.hW (a:=a) h,r=>by
  have e:u=.ref a:=r
  subst e
  obtain⟨_,hs,vs,kv,hm⟩:=(show bw X.prog X.w H s.heap a (.dK []) from I.ai a _ h)
  cases kv
  obtain⟨o,es,ep,ho,hc,hd,hk,hp,hn⟩:=hm
  have hz:es.toList=[]:=by
   have:=hp.length
   simp at this
   simpa using this
  refine⟨a::[]++[],.dict (kvs:=[]) ho hc.1 hd (by rw[hz];exact .nil) (by rw[hz];exact .nil),fun _ hm=> ?_⟩
  simp only[ZbP,ZaI]at hm
  rw[hm]at hs
  simp at hs
def zp (I:Inv X pins σ H s):∀{vs:List V}{ds:List PyData}{us:List Value},qF H vs ds->Vals vs us->∃as,ReadsAll s.heap us ds as
 |_,_,_,.nil,.nil=> ⟨[],.nil⟩
 |_,_,_,.cons h t,.cons r rs=>by
  obtain⟨as,q,_⟩:=XI I h r
  obtain⟨bs,qs⟩:=zp I t rs
  exact⟨as++bs,.cons q qs⟩
end
end
end L2
namespace L2
open PySem PySem.Spec PyProof.Rows
end L2
namespace L2
open PySem PySem.Spec PyProof.Rows SeqAt
end L2
namespace U
open PySem L2 PyProof.Rows
def ik (K:Zht) (H:Hp) (a:Addr) (ns:List Int):Prop:=(∃o,H a=some (.cJ o (.lst (ns.map V.int))))∨∃(o:Obj) (its:Array Value) (n:Nat),K.lookup a=some o/\o.cls=.type "list" /\o.dict=none/\o.data=.seq its n/\its.size<=sizeLine/\Vals (ns.map V.int) its.toList
def ik.sq {K:Zht}{H:Hp}{a:Addr}{ns:List Int}(h:ik K H a ns):ag K H a (ns.map V.int):=by
 rcases h with ⟨o,h⟩ |h
 ·exact .inl (.inr ⟨o,h⟩)
 ·exact .inr h
def ik.same {K:Zht}{H H':Hp}{a:Addr}{ns:List Int}(h:ik K H a ns) (s:ae H H'):ik K H' a ns:=by
 rcases h with ⟨o,h⟩ |h
 ·exact .inl ⟨o,s _ _ h⟩
 ·exact .inr h
def ik.x {K:Zht}{H H':Hp}{a p:Addr}{ns:List Int}{o:HO}(h:ik K H a ns) (s:au p H H') (hp:H p=some o) (hn:∀ob u,o≠.cJ ob u):ik K H' a ns:=by
 rcases h with ⟨ob,h⟩ |h
 ·exact .inl ⟨ob,s _ _ h fun z=>by rw[z,hp]at h;cases h;exact hn _ _ rfl⟩
 ·exact .inr h
end U
namespace U
open PySem L2 PyProof.Rows PySem.Spec
def ue (mg:Str->Option Value) (h:Heap):Prop:=∃bm ob,mg "__builtins__" =some (.ref bm)/\bm≠builtinsNs/\h.get? bm=some ob/\ob.cls=.type "module" /\ob.dict=some builtinsNs/\ob.data=.plain
def Zbb {P:Program}{w:World}{K:Zht}{k:Nat}{fa a:Addr}{Pts:List Addr}{fd:FuncData}{sp:Sp}{aJ:Shared}{vs:List Value}{ns:List Int}
  (KX:K.In aJ.heap) (sG:aJ.heap.Ns mainGlobals mg) (hb:aJ.heap.Ns builtinsNs mb) (cQ:∀x:Str,x≠ "__name__" ->mb x=bootBuiltins x) (PJ:aJ.heap.NoLimit) (hg:aJ.gens= #[])
  (ha:aJ.heap.get? a=some {cls:=.type "list",data:=.seq vs.toArray}) (hi:IntsAre vs ns) (hl:ns.length<=sizeLine) (hr:bW k callerA)
  (fP:∀Pt∈Pts,aJ.heap.get? Pt=some (PySem.W.tabObj #[])) (QN:∀Pt∈Pts,∃c,PySem.W.CodeHd aJ.heap c Pt) (QK:∀Pt∈Pts,K.lookup Pt=none) (qv:ue mg aJ.heap)
  (F:∀base:Heap,K.In base->base.Ns mainGlobals mg->ue mg base->aA P w K mg base aE k fa fd [x] sp) (Qq:∀(s:Shared) (u:Value),BindsTo s fd ⟨[u],[]⟩ [(x,u)])
  (eG:∀H:Hp,ik K H a ns->(∀Pt∈Pts,H Pt=some (.bY #[]))->sp [.ref a] H (fun v _=>v=.bl true) fun _ _ _=>False):
  codeAny (model P w) callerA (.call (.ref fa) ⟨[.ref a],[]⟩) (fun r s'=>r=.ok (.ret (.bool true))/\OldK aJ.heap s'.heap/\s'.os=aJ.os/\AllBare s'.gens) aJ:=by
 have rv:=Uk hi
 have Ob:=hi.length
 have tw:∀{Pt:Addr},Pt∈Pts->aJ.heap.get? Pt=some {cls:=.none,data:=.fields #[]} :=fun h=>fP _ h
 have Fi:a∉Pts:=fun z=>by have h:=tw z;rw[ha]at h;cases h
 have core:∀H:Hp,(∀b,b∉Pts->H b=none∨∃o xs,H b=some (.cJ o (.lst xs)))->ik K H a ns->(∀Pt∈Pts,H Pt=some (.bY #[]))->bM P w H aJ.heap->(∀b,H b≠none->b=a∨b∈Pts)->(H a≠none->K.lookup a=none)->
   codeAny (model P w) callerA (.call (.ref fa) ⟨[.ref a],[]⟩) (fun r s'=>r=.ok (.ret (.bool true))/\OldK aJ.heap s'.heap/\s'.os=aJ.os/\AllBare s'.gens) aJ:=by
  intro H hO hS hP ai hA hK
  have Bp:∀{b:Addr}{o:Obj},aJ.heap.get? b=some o->H b=none->(iK aJ.heap H).get? b=some o:=fun e n=>II e n
  have bJ:∀{b:Addr}{o:Obj},aJ.heap.get? b=some o->(∀vs n,o.data≠.seq vs n)->(∀ps,o.data≠.fields ps)->H b=none:=fun {b o} e d1 d2=>by
   cases q:H b with
   |none=>rfl
   |some u=>
    rcases hA b (by rw[q];simp) with e' |e'
    ·subst e'
     rw[ha]at e;cases e
     exact absurd rfl (d1 _ _)
    ·rw[tw e']at e;cases e
     exact absurd rfl (d2 _)
  have vG:∀{b:Addr}{m:Str->Option Value},aJ.heap.Ns b m->(iK aJ.heap H).Ns b m:=fun {b m} ⟨o,es,ep,e,d,r⟩=> ⟨o,es,ep,Bp e (bJ e (fun _ _ z=>by rw[d]at z;cases z) fun _ z=>by rw[d]at z;cases z),d,r⟩
  have Fn:K.In (iK aJ.heap H):=fun b o e=>Bp (KX b o e) (by
   cases q:H b with
   |none=>rfl
   |some u=>
    rcases hA b (by rw[q];simp) with e' |e'
    ·subst e'
     rw[hK (by rw[q];simp)]at e;cases e
    ·rw[QK _ e']at e;cases e)
  have hM:Mod K mg (iK aJ.heap H):=⟨Fn,vG sG,⟨mb,vG hb,cQ⟩,let ⟨mc,h1,h2⟩:=PJ;⟨mc,vG h1,h2⟩⟩
  have Qp:ue mg (iK aJ.heap H):=let ⟨bm,ob,b1,b2,b3,b4,b5,b6⟩:=qv;⟨bm,ob,b1,b2,Bp b3 (bJ b3 (fun _ _ z=>by rw[b6]at z;cases z) fun _ z=>by rw[b6]at z;cases z),b4,b5,b6⟩
  have e0:tY P w K mg (iK aJ.heap H) callerA [] aJ H:=⟨rfl,hM,fun b o e=>HL e,Nat.le_of_eq (UC _ _),trivial,fun b hb=>absurd (show b∈([]:List Addr) from hb) (by simp),ai,.of_eq hg⟩
  refine ZdQ ((F _ Fn (vG sG) Qp).run callerA [] aJ H ⟨[.ref a],[]⟩ [.ref a] [.ref a] _ _ hr e0 (Qq aJ (.ref a)) (.cons rfl .nil) (eG H hS hP)) fun r s' h=> ?_
  cases r with
  |error e=>exact False.elim h
  |ok fl=>
   cases fl with
   |next=>exact False.elim h
   |brk=>exact False.elim h
   |cont=>exact False.elim h
   |ret u=>
    obtain⟨v,H',os,bare,un,Et,r',q⟩:=h
    have q':v=.bl true:=q
    subst q'
    obtain rfl:u=Value.bool true:=r'
    have old:∀b o,aJ.heap.get? b=some o->asItWas aJ.heap s'.heap b o:=fun b o e=>by
     cases q:H b with
     |none=>exact .inl (un.keep b o e q (by intro z;exact absurd (show b∈([]:List Addr) from z) (by simp)) (by simp))
     |some u=>
      by_cases oq:b∈Pts
      ·obtain⟨more,z⟩:=un.dY b _ (hP b oq)
       have e2:s'.heap.get? b=some {cls:=.none,data:=.fields (#[]++more)} :=Et b _ z
       rw[tw oq]at e
       cases e
       obtain⟨c,hC⟩:=QN b oq
       exact .inr (.inl ⟨(hC.tab (fP b oq)).isCodeTable,rfl, #[],more,rfl,e2⟩)
      ·rcases hO b oq with z |⟨ob,xs,z⟩
       ·rw[q]at z;cases z
       ·have z2:=un.eJ b ob _ z
        obtain⟨e1,_⟩:=ai b _ z
        obtain⟨e2,_⟩:=Et b _ z2
        rw[e]at e1;cases e1
        exact .inl e2
    exact⟨rfl,⟨old,fun b o e=>un.there b o e (by simp)⟩,os,bare⟩
 cases hk:K.lookup a with
 |some o=>
  have e:=KX a o hk
  rw[ha]at e
  cases e
  refine core (fun b=>if b∈Pts then some (.bY #[]) else none) (fun b n=> .inl (Zam n)) (.inr ⟨_,vs.toArray,_,hk,rfl,rfl,rfl,by rw[Zan,Ob];exact hl,by simpa using rv⟩) (fun Pt h=>Zaq h) (fun b u z=> ?_) (fun b z=> ?_) fun z=>absurd (Zam Fi) z
  ·by_cases hb:b∈Pts
   ·have z':=(Zaq hb).symm.trans z
    cases z'
    exact tw hb
   ·have z':=(Zam hb).symm.trans z
    cases z'
  ·by_cases hb:b∈Pts
   ·exact .inr hb
   ·exact absurd (Zam hb) z
 |none=>
  refine core (fun b=>if b∈Pts then some (.bY #[]) else if b=a then some (.cJ {cls:=.type "list",data:=.seq vs.toArray} (.lst (ns.map V.int))) else none) (fun b n=> ?_) (.inl ⟨{cls:=.type "list",data:=.seq vs.toArray},(Zam Fi).trans (Zaq rfl)⟩) (fun Pt h=>Zaq h) (fun b u z=> ?_) (fun b z=> ?_) fun _=>hk
  ·by_cases hb:b=a
   ·exact .inr ⟨_,_,(Zam n).trans (Zaq hb)⟩
   ·exact .inl ((Zam n).trans (Zam hb))
  ·by_cases hP:b∈Pts
   ·have z':=(Zaq hP).symm.trans z
    cases z'
    exact tw hP
   ·by_cases hb:b=a
    ·have z':=((Zam hP).trans (Zaq hb)).symm.trans z
     cases z'
     subst hb
     exact⟨ha,by rw[Zat];exact hl,vs,_,rv,ha⟩
    ·have z':=((Zam hP).trans (Zam hb)).symm.trans z
     cases z'
  ·by_cases hP:b∈Pts
   ·exact .inr hP
   ·by_cases hb:b=a
    ·exact .inl hb
    ·exact absurd ((Zam hP).trans (Zam hb)) z
def Kt {l:PySem.W.OpenLaw}{n k:Nat}{q:Program}{loose:List Str}{XP:(Str->Option Value)->Heap->Prop}{YP:World->Heap->Prop}{d:DefRec}{K:Params->Zht}{sp:Zht->Sp}{x:Str}{Pts:List Addr}
    (hn:l.most=some n) (wq:n<=sizeLine) (AK:d.params.defaults=[]) (hr:bW k callerA)
    (hY:∀(w:World) (h:Heap),YP w h->(K w.params).In h) (Qy:∀(w:World) (h:Heap),YP w h->∀Pt∈Pts,h.get? Pt=some (PySem.W.tabObj #[]))
    (hC:∀(w:World) (h:Heap),(K w.params).In h->∀Pt∈Pts,∃c,PySem.W.CodeHd h c Pt) (QL:∀w:World,∀Pt∈Pts,(K w.params).lookup Pt=none)
    (F:∀(w:World) (mg:Str->Option Value) (fa:Addr) (h:Heap),(K w.params).In h->h.Ns mainGlobals mg->mg d.name=some (.ref fa)->
      ∃fd:FuncData,(∀(s:Shared) (u:Value),BindsTo s fd ⟨[u],[]⟩ [(x,u)])/\
       ∀base:Heap,(K w.params).In base->base.Ns mainGlobals mg->ue mg base->aA l.prog w (K w.params) mg base aE k fa fd [x] (sp (K w.params)))
    (eG:∀(K:Zht) (H:Hp) (a:Addr) (ns:List Int),ns.length<=n->ik K H a ns->(∀Pt∈Pts,H Pt=some (.bY #[]))->sp K [.ref a] H (fun v _=>v=.bl true) fun _ _ _=>False):
    PySem.W.WalkO q loose XP YP l.row.toRowW d [] (fun f vs=>PySem.call f vs):=by
  refine Ko.Tg hn AK fun w cK aJ mg mb fa o pm cd doc a vs ns G Y ho hd dh hmg Ap hints hlen hg=> ?_
  have KX:=hY w _ Y
  obtain⟨fd,hb,hF⟩:=F w mg fa _ KX G.T.g hmg
  exact Zbb KX G.T.g G.T.b G.T.builtins G.T.nolimit hg Ap hints (Zcd hlen wq) hr (Qy w _ Y) (hC w _ KX) (QL w) G.T.bmain hF hb (fun H hS hP=>eG (K w.params) H a ns hlen hS hP)
def bB (K:Zht) (x:Str) (st:Stmt):Prop:=∃f fd,PySem.W.nsIn K mainGlobals x=some (some (.ref f))/\aG K x x st f fd
def bP {K:Zht}{x:Str}{st:Stmt}{f:Addr}{oc:Value}{od an:Option Addr}{fm:Array (Option Value)}{kV doc pm ao ct:Value}(e1:PySem.W.nsIn K mainGlobals x=some (some (.ref f)))
  (e2:K.lookup f=some ⟨oc,od,.func (PySem.W.fnOf x x (fS st) (dB st) (ay st) .none kV doc pm an ao ct),fm⟩) (e3:PySem.W.codeIn K ao x=true) (e4:PySem.W.keepIn K (.ref f)=true):bB K x st:=⟨f,_,e1,GY e2 e3 e4⟩
section
variable {P:Program}{w:World}{K:Zht}{mg:Str->Option Value}{base:Heap}
abbrev uf (x:Str) (st:Stmt) (ps:List Str):Prop:=∀(kV doc pm:Value) (an:Option Addr) (ao ct:Value) (us:List Value),us.length=ps.length->bindArgs (PySem.W.fnOf x x (fS st) (dB st) (ay st) .none kV doc pm an ao ct) ⟨us,[]⟩=pure (ps.zip us)
def bB.to {h:Heap}{x:Str}{st:Stmt}{ps:List Str}{k:Nat}{sp:Sp}(d:bB K x st) (KX:K.In h) (G:h.Ns mainGlobals mg) (hb:uf x st ps) (ok:∀f fd,aG K x x st f fd->aA P w K mg base aE k f fd ps sp):Def P w K mg base k x ps sp:=by
 obtain⟨f,fd,e,F⟩:=d
 exact⟨f,fd,ok f fd F,Zdc KX G e,F.kp,F.binds hb⟩
def bB.fL {h:Heap}{x:Str}{st:Stmt}{ps:List Str}{k:Nat}{sp:Sp}(d:bB K x st) (KX:K.In h) (G:h.Ns mainGlobals mg) (hb:uf x st ps) (ok:∀f fd,aG K x x st f fd->aA P w K mg base (aC P w) k f fd ps sp):aY P w K mg base k x ps sp:=by
 obtain⟨f,fd,e,F⟩:=d
 exact⟨f,fd,ok f fd F,Zdc KX G e,F.kp,F.binds hb⟩
def vH (K:Zht) (x:Str):Bool:=match PySem.W.nsIn K mainGlobals x with |some none=>true |_=>false
def Zcz {h:Heap}(KX:K.In h) (G:h.Ns mainGlobals mg) (e:vH K x=true):mg x=none:=by
 unfold vH at e
 split at e
 ·rename_i q
  exact PySem.W.mg_none_of KX G q
 ·cases e
abbrev aal (x a:Str) (st:Stmt):Prop:=∀(kV doc pm:Value) (an:Option Addr) (ao ct u:Value),bindArgs (PySem.W.fnOf x x (fS st) (dB st) (ay st) .none kV doc pm an ao ct) ⟨[u],[]⟩=pure [(a,u)]
def b1 {x a:Str}{st:Stmt}(h:aal x a st):uf x st [a]:=fun kV doc pm an ao ct us hl=>match us,hl with | [u],_=>h kV doc pm an ao ct u
def b2 {x a b:Str}{st:Stmt}(h:∀(kV doc pm:Value) (an:Option Addr) (ao ct u v:Value),bindArgs (PySem.W.fnOf x x (fS st) (dB st) (ay st) .none kV doc pm an ao ct) ⟨[u,v],[]⟩=pure [(a,u),(b,v)]):uf x st [a,b]:=fun kV doc pm an ao ct us hl=>match us,hl with | [u,v],_=>h kV doc pm an ao ct u v
def b3 {x a b c:Str}{st:Stmt}(h:∀(kV doc pm:Value) (an:Option Addr) (ao ct u v w:Value),bindArgs (PySem.W.fnOf x x (fS st) (dB st) (ay st) .none kV doc pm an ao ct) ⟨[u,v,w],[]⟩=pure [(a,u),(b,v),(c,w)]):uf x st [a,b,c]:=fun kV doc pm an ao ct us hl=>match us,hl with | [u,v,w],_=>h kV doc pm an ao ct u v w
end
end U
namespace HS
open PySem PySem.SetTable
abbrev iQ (l:List Nat):Prop:=l.Pairwise (· < ·)
def GP {xs:Array Nat}(hr:iQ xs.toList) (hi:i<xs.size) (hk:k<xs.size) (h:i<k):xs[i]<xs[k]:=by
 have:=ZeY.mp hr i k (by simpa using hi) (by simpa using hk) h
 simpa using this
def GQ {xs:Array Nat}(hr:iQ xs.toList) (hi:i<xs.size) (hk:k<xs.size) (h:i<=k):xs[i]<=xs[k]:=by
 rcases Zhd h with h |h
 ·exact Zec (GP hr hi hk h)
 ·subst h;exact Zae _
def WV {xs:Array Nat}(hr:iQ xs.toList):∀(fuel lo hi:Nat),hi<=xs.size->lo<=hi->hi - lo<=fuel->(∀i (h:i<xs.size),i<lo->xs[i]<j)->(∀i (h:i<xs.size),hi<=i->j<=xs[i])->
  below.go xs j fuel lo hi<=xs.size/\(∀i (h:i<xs.size),i<below.go xs j fuel lo hi->xs[i]<j)/\(∀i (h:i<xs.size),below.go xs j fuel lo hi<=i->j<=xs[i])
 |0,lo,hi,h1,h2,h3,h4,h5=>by
  have e:lo=hi:=.o
  subst e
  exact⟨h1,h4,h5⟩
 |fuel+1,lo,hi,h1,h2,h3,h4,h5=>by
  unfold below.go
  by_cases az:lo<hi
  ·rw[Zaq az]
   dsimp only
   have hm:(lo+hi)/2<xs.size:=.o
   have e:xs.getD ((lo+hi)/2) j=xs[(lo+hi)/2]:=by
    unfold Array.getD
    rw[dif_pos hm]
    rfl
   rw[e]
   by_cases hc:xs[(lo+hi)/2]<j
   ·rw[Zaq hc]
    refine WV hr fuel _ hi h1 .o .o (fun i h bg=> ?_) h5
    exact Zee (GQ hr h hm .o) hc
   ·rw[Zam hc]
    refine WV hr fuel lo _ .o .o .o h4 (fun i h bg=> ?_)
    exact Zcd (Nat.le_of_not_lt hc) (GQ hr hm h bg)
  ·rw[Zam az]
   have e:lo=hi:=.o
   subst e
   exact⟨h1,h4,h5⟩
def Jz {xs:Array Nat}(hr:iQ xs.toList):below xs j<=xs.size/\(∀i (h:i<xs.size),i<below xs j->xs[i]<j)/\(∀i (h:i<xs.size),below xs j<=i->j<=xs[i]):=
 WV hr _ _ _ (Zae _) (Za2 _) .o (fun i h z=>absurd z (Zer _)) (fun i h z=>.o)
def Y9 {xs:Array Nat}(hr:iQ xs.toList) (h:xs[i]? =some j):below xs j=i:=by
 obtain⟨hi,e⟩:=Zbq.mp h
 obtain⟨h1,h2,h3⟩:=Jz (j:=j) hr
 rcases Zgd (below xs j) i with q |q |q
 ·have a:=h3 (below xs j) .o (Zae _)
  have b:=GP hr .o hi q
  omega
 ·exact q
 ·have:=h2 i hi q
  omega
def Up {t:SetTable}(hr:iQ t.place.toList) (h:t.place[i]? =some j):t.slot j=.live i:=by
 unfold slot
 rw[Y9 hr h]
 dsimp only
 rw[h,Zaq (by simp)]
def Za0 {t:SetTable}(hd:t.dummies= #[]) (h:j∉t.place.toList):t.slot j=.empty:=by
 unfold slot
 dsimp only
 have h1:¬(t.place[below t.place j]? ==some j)=true:=by
  intro z
  have z':=eq_of_beq z
  obtain⟨hi,e⟩:=Zbq.mp z'
  exact h (by rw[<-e];simp)
 have h2:¬has t.dummies j=true:=by
  rw[hd]
  unfold has
  simp
 rw[Zam h1,Zam h2]
def Vs {xs:Array Nat}(h:j∈xs.toList):∃i:Nat,xs[i]? =some j:=by
 obtain⟨i,hi,e⟩:=Zdb h
 exact⟨i,by rw[<-ZaS,Zal hi,e]⟩
def Ve {xs:Array Nat}{i j:Nat}(h:xs[i]? =some j):j∈xs.toList:=by
 rw[<-ZaS]at h
 exact Zbc h
def Ur {t:SetTable} :(t.put j).1.place.toList=t.place.toList.take (below t.place j)++j::t.place.toList.drop (below t.place j):=by
 unfold put
 exact toList_insertAt _ _ _
def Xp {t:SetTable}(hr:iQ t.place.toList) (h:j∉t.place.toList):iQ (t.put j).1.place.toList:=by
 rw[Ur]
 obtain⟨h1,h2,h3⟩:=Jz (j:=j) hr
 generalize below t.place j=p at *
 have a:∀x∈t.place.toList.take p,x<j:=fun x hx=>by
  obtain⟨i,hi,e⟩:=Zdb hx
  rw[ZaU]at hi
  rw[Zhn]at e
  rw[<-e]
  have:=h2 i (by simp at hi;omega) .o
  simpa using this
 have b:∀x∈t.place.toList.drop p,j<x:=fun x hx=>by
  obtain⟨i,hi,e⟩:=Zdb hx
  rw[ZbD]at hi
  rw[List.getElem_drop]at e
  have:=h3 (p+i) (by simp at hi;omega) .o
  have e':t.place[p+i]'(by simp at hi;omega)=x:=by simpa using e
  rw[e']at this
  rcases Zhd this with q |q
  ·exact q
  ·exact absurd (ZbH hx) (by rw[<-q];exact h)
 refine Zbr.mpr ?_
 refine⟨hr.sublist (ZdS ..),ZbU.mpr ⟨b,hr.sublist (ZdV ..)⟩,fun x hx y hy=> ?_⟩
 rcases Zao.mp hy with rfl |hy
 ·exact a x hx
 ·exact Zfv (a x hx) (b y hy)
abbrev tb (m:Nat):SetTable:= {mask:=m,place:= #[],dummies:= #[],finger:=0,led:=false,moves:=0,plain:=false}
def fc (m:Nat) (p:Probe):Probe:=(tb m).advance p
def Vd (t:SetTable) (p:Probe):t.advance p=fc t.mask p:=rfl
def it (m:Nat) (p:Probe):Nat->Probe
 |0=>p
 |k+1=>fc m (it m p k)
def YG (m:Nat) (p:Probe):∀k,it m p (k+1)=it m (fc m p) k
 |0=>rfl
 |k+1=>by
  show fc m (it m p (k+1))=fc m (it m (fc m p) k)
  rw[YG m p k]
def WN (m:Nat) (p:Probe) (a:Nat):∀b,it m p (a+b)=it m (it m p a) b
 |0=>rfl
 |b+1=>by
  show fc m (it m p (a+b))=fc m (it m (it m p a) b)
  rw[WN m p a b]
def UQ (m:Nat) (p:Probe):(fc m p).dummy=p.dummy:=by
 unfold fc advance
 split<;>rfl
def IJ (m:Nat) (p:Probe):∀k,(it m p k).dummy=p.dummy
 |0=>rfl
 |k+1=> (UQ m _).trans (IJ m p k)
def Ie {t:SetTable}(hr:iQ t.place.toList) (hd:t.dummies= #[]):∀(n fuel:Nat) (p:Probe),p.dummy=none->n<fuel->(∀k<n,(it t.mask p k).j∈t.place.toList)->(it t.mask p n).j∉t.place.toList->
  (probe.go t hashAt h fuel p=some (.empty (it t.mask p n).j none)/\∀k<n,∀i:Nat,t.place[i]? =some (it t.mask p k).j->hashAt i≠h)∨
  ∃k i:Nat,k<n/\t.place[i]? =some (it t.mask p k).j/\hashAt i=h/\probe.go t hashAt h fuel p=some (.candidate (it t.mask p k).j i (it t.mask p (k+1)))/\∀k'<k,∀i:Nat,t.place[i]? =some (it t.mask p k').j->hashAt i≠h
 |0,0,p,_,h1,_,_=>absurd h1 (ZbI _)
 |n+1,0,p,_,h1,_,_=>absurd h1 (Zer _)
 |0,fuel+1,p,hp,h1,h2,h3=>by
  refine .inl ⟨?_,fun k hk=>absurd hk (Zer _)⟩
  unfold probe.go
  have e:t.slot p.j=.empty:=Za0 hd h3
  rw[e]
  dsimp only
  rw[hp]
  rfl
 |n+1,fuel+1,p,hp,h1,h2,h3=>by
  obtain⟨i,hi⟩:=Vs (h2 0 (Zf2 _))
  have e:t.slot p.j=.live i:=Up hr hi
  unfold probe.go
  rw[e]
  dsimp only
  rw[Vd]
  by_cases hh:hashAt i=h
  ·rw[Zaq (by simp[hh])]
   exact .inr ⟨0,i,Zf2 _,hi,hh,rfl,fun k' aQ=>absurd aQ (Zer _)⟩
  ·rw[Zam (by simp[hh])]
   have uniq:∀i':Nat,t.place[i']? =some (it t.mask p 0).j->hashAt i'≠h:=fun i' bg=>by
    have q1:=Y9 hr bg
    have q2:=Y9 hr hi
    have:i'=i:=q1.symm.trans q2
    subst this
    exact hh
   rcases Ie (hashAt:=hashAt) (h:=h) hr hd n fuel (fc t.mask p) (by rw[UQ];exact hp) .o (fun k hk=>by rw[<-YG];exact h2 (k+1) .o) (by rw[<-YG];exact h3) with ⟨g1,g2⟩ |⟨k,i2,g1,g2,g3,g4,g5⟩
   ·rw[<-YG]at g1
    refine .inl ⟨g1,fun k hk=> ?_⟩
    cases k with
    |zero=>exact uniq
    |succ k=>rw[YG];exact g2 k .o
   ·rw[<-YG]at g2 g4
    rw[<-YG]at g4
    refine .inr ⟨k+1,i2,.o,g2,g3,g4,fun k' aQ=> ?_⟩
    cases k' with
    |zero=>exact uniq
    |succ k'=>rw[YG];exact g5 k' .o
abbrev fr (m i pt:Nat):Probe:= {j:=i,more:=runEnd m i - i,i,perturb:=pt,dummy:=none}
abbrev st (m:Nat) (h:Int):Probe:=fr m (bits h%(m+1)) (bits h)
def lp (m:Nat) (x:Nat×Nat):Nat×Nat:=leap m x.1 x.2
def cY (m:Nat) (x:Nat×Nat):Nat->Nat×Nat
 |0=>x
 |k+1=>lp m (cY m x k)
def WH (m:Nat) (x:Nat×Nat):∀k,cY m x (k+1)=cY m (lp m x) k
 |0=>rfl
 |k+1=>by
  show lp m (cY m x (k+1))=lp m (cY m (lp m x) k)
  rw[WH m x k]
def HG (m:Nat) (x:Nat×Nat) (a:Nat):∀b,cY m x (a+b)=cY m (cY m x a) b
 |0=>rfl
 |b+1=>by
  show lp m (cY m x (a+b))=lp m (cY m (cY m x a) b)
  rw[HG m x a b]
def TU (m i:Nat):runEnd m i - i<=9:=by
 unfold runEnd
 split<;>omega
def WM (m i pt:Nat):∀k,k<=runEnd m i - i->it m (fr m i pt) k= {j:=i+k,more:=runEnd m i - i - k,i:=i,perturb:=pt,dummy:=none}
 |0,_=>rfl
 |k+1,h=>by
  show fc m (it m (fr m i pt) k)=_
  rw[WM m i pt k .o]
  unfold fc advance
  dsimp only
  rw[Zaq .o]
  have e:runEnd m i - i - k - 1=runEnd m i - i - (k+1):=.o
  rw[e,Zgm]
def U9 (m i pt:Nat):it m (fr m i pt) (runEnd m i - i+1)=fr m (lp m (i,pt)).1 (lp m (i,pt)).2:=by
 show fc m (it m (fr m i pt) (runEnd m i - i))=_
 rw[WM m i pt _ (Zae _)]
 unfold fc advance
 dsimp only
 rw[Zam .o]
 rfl
def IK (m:Nat):∀(k:Nat) (x:Nat×Nat),∃d,d<=10*k/\it m (fr m x.1 x.2) d=fr m (cY m x k).1 (cY m x k).2
 |0,x=> ⟨0,.o,rfl⟩
 |k+1,x=>by
  obtain⟨d,h1,h2⟩:=IK m k (lp m x)
  refine⟨runEnd m x.1 - x.1+1+d,by have:=TU m x.1;omega,?_⟩
  rw[WN,U9 m x.1 x.2]
  rw[WH]
  exact h2
def GU (m:Nat) (x:Nat×Nat):∀k,(cY m x k).2=x.2/32^k
 |0=>by simp[cY]
 |k+1=>by
  show(cY m x k).2/32=_
  rw[GU m x k,Nat.div_div_eq_div_mul,Nat.pow_succ]
def Vq (m:Nat) (x:Nat×Nat) (h:x.1<m+1):∀k,(cY m x k).1<m+1
 |0=>h
 |k+1=>ZgQ _ (Zf2 _)
def nx (m i:Nat):Nat:=(i*5+1)%(m+1)
def ee (m:Nat):Nat->Nat
 |0=>0
 |k+1=>nx m (ee m k)
def vF (m:Nat):Nat->Nat->List Nat
 |0,_=> []
 |k+1,i=>i::vF m k (nx m i)
def GW (m:Nat):∀(k n:Nat) (f:Nat),f∈vF m k (ee m n)->∃u,n<=u/\u<n+k/\ee m u=f
 |0,n,f,h=>by cases h
 |k+1,n,f,h=>by
  rcases Zao.mp h with rfl |h
  ·exact⟨n,Zae _,.o,rfl⟩
  ·obtain⟨u,h1,h2,h3⟩:=GW m k (n+1) f h
   exact⟨u,.o,.o,h3⟩
def iR (m:Nat):Prop:=m=7∨m=31∨m=127∨m=511
def tL (m:Nat):Bool:=(List.range (m+1)).all fun f=> (vF m (m+1) 0).contains f
def SN:tL 7=true/\ee 7 8=0:=by decide+kernel
def SQ:tL 31=true/\ee 31 32=0:=by decide+kernel
def SR:tL 127=true/\ee 127 128=0:=by decide+kernel
def SO:tL 511=true/\ee 511 512=0:=by decide+kernel
def Hb (hm:iR m):tL m=true/\ee m (m+1)=0:=by
 rcases hm with rfl |rfl |rfl |rfl
 ·exact SN
 ·exact SQ
 ·exact SR
 ·exact SO
def GD (hm:iR m) (hf:f<m+1):∃u,u<m+1/\ee m u=f:=by
 have:=Zbj.mp (Hb hm).1 f (Zbt.mpr hf)
 obtain⟨u,_,h2,h3⟩:=GW m (m+1) 0 f (show f∈vF m (m+1) 0 by simpa using this)
 exact⟨u,.o,h3⟩
def zO (m:Nat):∀(k s:Nat),cY m (ee m s,0) k=(ee m (s+k),0)
 |0,s=>rfl
 |k+1,s=>by
  show lp m (cY m (ee m s,0) k)=_
  rw[zO m k s]
  unfold lp leap
  simp[ee,nx]
def IP {m a:Nat}(hm:iR m):∀k,ee m (m+1+k)=ee m k
 |0=> (Hb hm).2
 |k+1=>by
  show nx m (ee m (m+1+k))=nx m (ee m k)
  rw[IP (a:=a) hm k]
def full {m a f:Nat}(hm:iR m) (ha:a<m+1) (hf:f<m+1):∃k,k<m+1/\(cY m (a,0) k).1=f:=by
 obtain⟨s,hs,rfl⟩:=GD hm ha
 obtain⟨u,hu,rfl⟩:=GD hm hf
 by_cases h:s<=u
 ·exact⟨u - s,.o,by rw[zO];show ee m (s+(u - s))=_;congr 1;omega⟩
 ·refine⟨m+1+u - s,.o,?_⟩
  rw[zO]
  show ee m (s+(m+1+u - s))=_
  rw[show s+(m+1+u - s)=m+1+u by omega,IP (a:=0) hm]
def G8 (h:Int):bits h<2^64:=by
 unfold bits
 have h1:0<=h%(2^64:Int):=Zes _ .d
 have h2:h%(2^64:Int)<2^64:=ZdK _ .d
 omega
def UH (hm:iR m) (hi:i<m+1) (hp:pt<2^64) (hf:f<m+1):∃k,k<m+14/\(cY m (i,pt) k).1=f:=by
 have e:(cY m (i,pt) 13).2=0:=by
  rw[GU]
  exact Nat.div_eq_of_lt (ZaE hp .d)
 have l:=Vq m (i,pt) hi 13
 obtain⟨k,h1,h2⟩:=full hm l hf
 refine⟨13+k,.o,?_⟩
 rw[HG]
 have e2:cY m (i,pt) 13=((cY m (i,pt) 13).1,0):=by rw[<-e]
 rw[e2]
 exact h2
def cover (hm:iR m) (h:Int) (hf:f<m+1):∃n,n<10*turns m/\(it m (st m h) n).j=f:=by
 obtain⟨k,h1,h2⟩:=UH hm (ZgQ _ (Zf2 _)) (G8 h) hf (i:=bits h%(m+1))
 obtain⟨d,h3,h4⟩:=IK m k (bits h%(m+1),bits h)
 refine⟨d,by unfold turns;omega,?_⟩
 show(it m (fr m (bits h%(m+1)) (bits h)) d).j=f
 rw[h4]
 exact h2
def oW (m:Nat) (dR:Nat->Prop) (p:Probe) (j:Nat):Prop:=∃n,(it m p n).j=j/\∀k<n,dR (it m p k).j
def oW.mono (h:oW m dR p j) (w:∀x,dR x->Dp x):oW m Dp p j:=
 let ⟨n,a,b⟩:=h;⟨n,a,fun k hk=>w _ (b k hk)⟩
def Zbi {m f:Nat}{dR:Nat->Prop}(hm:iR m) (h:Int) (hf:f<m+1) (ho:¬dR f):∃n,n<10*turns m/\(∀k<n,dR (it m (st m h) k).j)/\¬dR (it m (st m h) n).j:=by
 obtain⟨n,h1,h2⟩:=cover hm h hf
 have key:∀n,n<10*turns m->¬dR (it m (st m h) n).j->∃n,n<10*turns m/\(∀k<n,dR (it m (st m h) k).j)/\¬dR (it m (st m h) n).j:=by
  intro n
  induction n using Nat.strongRecOn with
  |_ n ih=>
   intro g1 g2
   by_cases z:∀k<n,dR (it m (st m h) k).j
   ·exact⟨n,g1,z,g2⟩
   ·have:∃k,k<n/\¬dR (it m (st m h) k).j:=Zcc fun c=>z fun k hk=>Zcc fun o=>c ⟨k,hk,o⟩
    obtain⟨k,hk,o⟩:=this
    exact ih k hk .o o
 exact key n h1 (by rw[h2];exact ho)
def UD {owner:Array (Option Nat)} :∀(fuel k:Nat) (i pt:Nat),k<fuel->((owner.getD (cY m (i,pt) k).1 (some 0)).isNone=true)->
  ∃j,layClean.free m owner fuel i pt=some j/\(owner.getD j (some 0)).isNone=true/\oW m (fun x=> (owner.getD x (some 0)).isNone=false) (fr m i pt) j
 |0,k,i,pt,h,_=>absurd h (Zer _)
 |fuel+1,k,i,pt,h,ho=>by
  unfold layClean.free
  cases hq:(List.range (runEnd m i+1 - i)).find? fun k=> (owner.getD (i+k) (some 0)).isNone with
  |some d=>
   dsimp only
   have h1:=List.find?_some hq
   have cP:=List.mem_of_find?_eq_some hq
   rw[Zbt]at cP
   refine⟨i+d,rfl,h1,d,?_,fun k hk=> ?_⟩
   ·rw[WM m i pt d (by unfold runEnd at *;split at cP<;>split<;>omega)]
   ·rw[WM m i pt k (by unfold runEnd at *;split at cP<;>split<;>omega)]
    obtain⟨as,bs,e,dF⟩:=(List.find?_eq_some_iff_append.mp hq).2
    have EH:k∈as:=by
     have hp:(List.range (runEnd m i+1 - i)).Pairwise (· < ·):=Zfo
     have EF:k∈List.range (runEnd m i+1 - i):=Zbt.mpr .o
     rw[e]at hp EF
     rcases ZaL.mp EF with q |q
     ·exact q
     ·rcases Zao.mp q with q |q
      ·omega
      ·have:=(ZbU.mp (Zbr.mp hp).2.1).1 k q
       omega
    have:=dF k EH
    simpa using this
  |none=>
   dsimp only
   have dF:=List.find?_eq_none.mp hq
   have qk:∀d,d<=runEnd m i - i->(owner.getD (i+d) (some 0)).isNone=false:=fun d hd=>by
    have:=dF d (Zbt.mpr (by unfold runEnd at *;split at hd<;>split<;>omega))
    exact Zfs.mpr this
   cases k with
   |zero=>
    have:=qk 0 (Za2 _)
    rw[show(cY m (i,pt) 0).1=i+0 from rfl,this]at ho
    cases ho
   |succ k=>
    rw[WH]at ho
    obtain⟨j,g1,g2,n,g3,g4⟩:=UD (m:=m) (owner:=owner) fuel k (lp m (i,pt)).1 (lp m (i,pt)).2 .o ho
    refine⟨j,g1,g2,runEnd m i - i+1+n,?_,fun d hd=> ?_⟩
    ·rw[WN,U9]
     exact g3
    ·by_cases hd2:d<=runEnd m i - i
     ·rw[WM m i pt d hd2]
      exact qk d hd2
     ·obtain⟨c,rfl⟩:∃c,d=runEnd m i - i+1+c:=⟨d - (runEnd m i - i+1),.o⟩
      rw[WN,U9]
      exact g4 c .o
def Zd4 {p:Probe}(h:p.j+p.more<=m):(fc m p).j+(fc m p).more<=m:=by
 unfold fc advance
 split
 ·dsimp only;omega
 ·dsimp only[leap,runEnd]
  have:=ZgQ (p.i*5+1+p.perturb/32) (show 0<m+1 by omega)
  split<;>omega
def Ih {m:Nat}{p:Probe}(h:p.j+p.more<=m):∀k,(it m p k).j+(it m p k).more<=m
 |0=>h
 |k+1=>Zd4 (Ih h k)
def Gz (h:Int) (k:Nat):(it m (st m h) k).j<m+1:=by
 have:=Ih (m:=m) (p:=st m h) (by
  have:=ZgQ (bits h) (show 0<m+1 by omega)
  dsimp only[fr,runEnd]
  split<;>omega) k
 omega
structure T0 (t:SetTable) (es:Array (Int×Value)):Prop where
 sz:t.place.size=es.size
 nq:iQ t.place.toList
 wZ:t.dummies= #[]
 le:∀j∈t.place.toList,j<t.mask+1
 ld:∀z∈t.place.toList.zip es.toList,oW t.mask (·∈t.place.toList) (st t.mask z.2.1) z.1
def jX (m n:Nat):Prop:=(m=7/\n<=4)∨(m=31/\n<=18)∨(m=127/\n<=76)∨(m=511/\n<=306)
def jX.vI (h:jX m n):iR m:=by
 rcases h with ⟨h,_⟩ |⟨h,_⟩ |⟨h,_⟩ |⟨h,_⟩
 ·exact .inl h
 ·exact .inr (.inl h)
 ·exact .inr (.inr (.inl h))
 ·exact .inr (.inr (.inr h))
def jX.lt (h:jX m n):n+1<m:=by
 rcases h with ⟨h,_⟩ |⟨h,_⟩ |⟨h,_⟩ |⟨h,_⟩<;>omega
def jX.small (h:jX m n):n<=306:=by
 rcases h with ⟨h,_⟩ |⟨h,_⟩ |⟨h,_⟩ |⟨h,_⟩<;>omega
def Uq {l:List Nat}(h:iQ l):l.Nodup:=Zdo (fun h=>ZaO h) h
def T0.free {t:SetTable}{es:Array (Int×Value)}(T:T0 t es) (h:es.size<t.mask+1):∃f,f<t.mask+1/\f∉t.place.toList:=by
 refine Zcc fun c=> ?_
 have all:∀f,f<t.mask+1->f∈t.place.toList:=fun f hf=>Zcc fun n=>c ⟨f,hf,n⟩
 have p:(t.place.toList).Perm (List.range (t.mask+1)):=(Zd5 (Uq T.nq) Zea).mpr fun f=> ⟨fun hf=>Zbt.mpr (T.le f hf),fun hf=>all f (Zbt.mp hf)⟩
 have:=p.length_eq
 rw[Zcb,Zay,T.sz]at this
 omega
def T0.fits {t:SetTable}{es:Array (Int×Value)}(T:T0 t es) (h:es.size<=t.mask):t.fits es.size=true:=by
 unfold SetTable.fits SetTable.fill
 rw[T.wZ,T.sz]
 simp[h]
def VO {a:List α}{b:List β}(p:Nat) (x:α) (y:β) (h:a.length=b.length):(a.take p++x::a.drop p).zip (b.take p++y::b.drop p)=(a.zip b).take p++(x,y)::(a.zip b).drop p:=by
 rw[List.zip_append (by rw[ZaU,ZaU,h]),Zed]
 simp only[List.zip,List.take_zipWith,List.drop_zipWith]
def T0.put {t:SetTable}(T:T0 t es) {x:Value}(h1:∀k<n,(it t.mask (st t.mask h) k).j∈t.place.toList) (h2:(it t.mask (st t.mask h) n).j∉t.place.toList) (pl:Bool):
  T0 {(t.put (it t.mask (st t.mask h) n).j).1 with plain:=pl} (insertAt es (t.put (it t.mask (st t.mask h) n).j).2 (h,x)):=by
 have lt:=Gz (m:=t.mask) h n
 generalize hf:(it t.mask (st t.mask h) n).j=f at *
 have eQ:=Ur (t:=t) (j:=f)
 have e2:(t.put f).2=below t.place f:=rfl
 have em:(t.put f).1.mask=t.mask:=rfl
 have dR:∀y,y∈t.place.toList->y∈(t.put f).1.place.toList:=fun y hy=>by
  rw[eQ]
  rw[<-Zbw (below t.place f) t.place.toList]at hy
  rcases ZaL.mp hy with q |q
  ·exact Za7 _ q
  ·exact ZaD _ (Zap _ q)
 have lz:t.place.toList.length=es.toList.length:=by rw[Zay,Zay,T.sz]
 refine⟨?_,Xp T.nq h2,?_,fun j hj=> ?_,fun z hz=> ?_⟩
 ·have a:(t.put f).1.place.size=t.place.size+1:=by
   rw[<-Zay,eQ,Zas,ZbA,ZaU,ZbD,Zay]
   have:=(Jz (j:=f) T.nq).1
   omega
  have b:(insertAt es (t.put f).2 (h,x)).size=es.size+1:=by
   rw[<-Zay,(insertAt_perm es _ (h,x)).length_eq,Zay,Array.size_push]
  show(t.put f).1.place.size=_
  rw[a,b,T.sz]
 ·show(if has t.dummies f then _ else t.dummies)= #[]
  rw[T.wZ]
  simp[has]
 ·show j<t.mask+1
  have sP:j∈(t.put f).1.place.toList:=hj
  rw[eQ]at sP
  rcases ZaL.mp sP with q |q
  ·exact T.le j (Zce q)
  ·rcases Zao.mp q with q |q
   ·rw[q];exact lt
   ·exact T.le j (ZbH q)
 ·have bj:z∈(t.put f).1.place.toList.zip (insertAt es (t.put f).2 (h,x)).toList:=hz
  rw[eQ,toList_insertAt,e2,VO _ _ _ lz]at bj
  have old:∀z∈t.place.toList.zip es.toList,oW t.mask (·∈(t.put f).1.place.toList) (st t.mask z.2.1) z.1:=fun z hz=> (T.ld z hz).mono dR
  rcases ZaL.mp bj with q |q
  ·exact old z (Zce q)
  ·rcases Zao.mp q with q |q
   ·rw[q]
    exact⟨n,hf,fun k hk=>dR _ (h1 k hk)⟩
   ·exact old z (ZbH q)
structure j4 (m:Nat) (hs:List Int) (owner:Array (Option Nat)):Prop where
 sz:owner.size=m+1
 lt:∀(j k:Nat),owner[j]? =some (some k)->k<hs.length
 at_:∀(k:Nat) (h:Int),hs[k]? =some h->∃j:Nat,owner[j]? =some (some k)/\oW m (fun x=> ∃k,owner[x]? =some (some k)) (st m h) j
 inj:∀(j j' k:Nat),owner[j]? =some (some k)->owner[j']? =some (some k)->j=j'
def live (m:Nat) (owner:Array (Option Nat)):List (Nat×Nat):=(List.range (m+1)).filterMap fun j=> (owner.getD j none).map (j, ·)
def getD_none {owner:Array (Option Nat)} :owner.getD j none=some k↔owner[j]? =some (some k):=by
 rw[ZfS]
 cases owner[j]? with
 |none=>simp
 |some o=>cases o<;>simp
def Z9 {owner:Array (Option Nat)}(hs:owner.size=m+1)  :x∈live m owner↔owner[x.1]? =some (some x.2):=by
 unfold live
 rw[Zc4]
 constructor
 ·rintro⟨j,hj,e⟩
  obtain⟨k,hk,rfl⟩:=Zbs.mp e
  exact getD_none.mp hk
 ·intro h
  obtain⟨hl,_⟩:=Zbq.mp h
  exact⟨x.1,Zbt.mpr .o,by rw[getD_none.mpr h];rfl⟩
def WI (m:Nat) (owner:Array (Option Nat)):iQ ((live m owner).map (·.1)):=by
 refine Zdn.mpr ?_
 unfold live
 refine Zez.mpr (Zdo ?_ (Zfo (n:=m+1)))
 intro a b tj x hx y hy
 obtain⟨_,_,rfl⟩:=Zbs.mp hx
 obtain⟨_,_,rfl⟩:=Zbs.mp hy
 exact tj
def Uz {hs:List Int}(L:j4 m hs owner):((live m owner).map (·.2)).Perm (List.range hs.length):=by
 refine(Zd5 ?_ Zea).mpr fun k=> ?_
 ·refine ZbE.mpr (Zdn.mpr ?_)
  refine Zfd ?_ (Zdn.mp (WI m owner))
  intro a b ha hb tj e
  have h1:=(Z9 L.sz).mp ha
  have h2:=(Z9 L.sz).mp hb
  rw[e]at h1
  have:=L.inj _ _ _ h1 h2
  omega
 ·rw[Zbt]
  constructor
  ·intro h
   obtain⟨x,hx,rfl⟩:=ZbF.mp h
   exact L.lt _ _ ((Z9 L.sz).mp hx)
  ·intro h
   obtain⟨j,hj,_⟩:=L.at_ k _ (Zal h)
   exact ZbF.mpr ⟨(j,k),(Z9 L.sz).mpr hj,rfl⟩
def IM {hs:List Int}(L:j4 m hs owner):(live m owner).length=hs.length:=by
 have:=(Uz L).length_eq
 rw[Zat,Zcb]at this
 exact this
def j4.free {hs:List Int}(L:j4 m hs owner) (h:hs.length<m+1):∃f,f<m+1/\owner[f]? =some none:=by
 refine Zcc fun c=> ?_
 have all:∀f,f<m+1->∃k,owner[f]? =some (some k):=fun f hf=>by
  have ER:f<owner.size:=by rw[L.sz];exact hf
  cases e:owner[f] with
  |none=>exact absurd ⟨f,hf,by rw[ZbW ER,e]⟩ c
  |some k=>exact⟨k,by rw[ZbW ER,e]⟩
 have p:((live m owner).map (·.1)).Perm (List.range (m+1)):=(Zd5 (Uq (WI m owner)) Zea).mpr fun f=>by
  rw[Zbt,ZbF]
  constructor
  ·rintro⟨x,hx,rfl⟩
   obtain⟨hl,_⟩:=Zbq.mp ((Z9 L.sz).mp hx)
   rw[L.sz]at hl
   exact hl
  ·intro hf
   obtain⟨k,hk⟩:=all f hf
   exact⟨(f,k),(Z9 L.sz).mpr hk,rfl⟩
 have:=p.length_eq
 rw[Zat,IM L,Zcb]at this
 omega
def getD_some {owner:Array (Option Nat)} :(owner.getD j (some 0)).isNone=true↔owner[j]? =some none:=by
 rw[ZfS]
 cases owner[j]? with
 |none=>simp
 |some o=>cases o<;>simp
def j4.step {hs:List Int}{owner:Array (Option Nat)}(hm:iR m) (L:j4 m hs owner) (hl:hs.length<m+1) (h:Int):
  ∃j,layClean.free m owner (turns m) (bits h%(m+1)) (bits h)=some j/\j4 m (hs++[h]) (owner.setIfInBounds j (some hs.length)):=by
 obtain⟨f,hf,hn⟩:=L.free hl
 obtain⟨k,hk,e⟩:=UH hm (ZgQ (bits h) (show 0<m+1 by omega)) (G8 h) hf
 obtain⟨j,g1,g2,g3⟩:=UD (m:=m) (owner:=owner) (turns m) k (bits h%(m+1)) (bits h) (by unfold turns;omega) (by rw[e];exact getD_some.mpr hn)
 have kS:=getD_some.mp g2
 obtain⟨jl,_⟩:=Zbq.mp kS
 have xg:(owner.setIfInBounds j (some hs.length))[j]? =some (some hs.length):=by simp[jl]
 have oN:∀{i:Nat},i≠j->(owner.setIfInBounds j (some hs.length))[i]? =owner[i]? :=fun {i} hi=>by
  rw[Array.getElem?_setIfInBounds]
  rw[Zam (ZdL hi)]
 have Ym:∀{i k:Nat},owner[i]? =some (some k)->i≠j:=fun {i k} hi z=>by rw[z,kS]at hi;cases hi
 have dR:∀x:Nat,(∃k:Nat,owner[x]? =some (some k))->∃k:Nat,(owner.setIfInBounds j (some hs.length))[x]? =some (some k):=fun x hx=>by
  obtain⟨k,hk⟩:=hx
  exact⟨k,by rw[oN (Ym hk)];exact hk⟩
 refine⟨j,g1,⟨by rw[Zgc];exact L.sz,fun i k hi=> ?_,fun k h' aQ=> ?_,fun i i' k hi bg=> ?_⟩⟩
 ·rw[Zas]
  by_cases cI:i=j
  ·rw[cI,xg]at hi
   cases hi
   simp
  ·rw[oN cI]at hi
   have:=L.lt _ _ hi
   simp;omega
 ·by_cases PX:k<hs.length
  ·rw[Zdt PX]at aQ
   obtain⟨i,hi,ld⟩:=L.at_ k h' aQ
   exact⟨i,by rw[oN (Ym hi)];exact hi,ld.mono dR⟩
  ·rw[Zdd .o]at aQ
   have ek:k=hs.length:=by
    have:=(Zab.mp aQ).1
    simp at this
    omega
   subst ek
   simp at aQ
   subst aQ
   obtain⟨n,en,dF⟩:=g3
   refine⟨j,xg,n,en,fun d hd=> ?_⟩
   have hx:=dF d hd
   have az:(it m (fr m (bits h%(m+1)) (bits h)) d).j<owner.size:=by rw[L.sz];exact Gz h d
   show ∃k:Nat,(owner.setIfInBounds j (some hs.length))[(it m (fr m (bits h%(m+1)) (bits h)) d).j]? =some (some k)
   generalize (it m (fr m (bits h%(m+1)) (bits h)) d).j=x at *
   have e:=ZbW az
   cases e2:owner[x] with
   |none=>
    rw[e2]at e
    rw[getD_some.mpr e]at hx
    cases hx
   |some k=>
    rw[e2]at e
    exact dR x ⟨k,e⟩
 ·by_cases cI:i=j
  ·by_cases sS:i'=j
   ·rw[cI,sS]
   ·rw[cI,xg]at hi
    rw[oN sS]at bg
    cases hi
    exact absurd (L.lt _ _ bg) (ZbI _)
  ·by_cases sS:i'=j
   ·rw[sS,xg]at bg
    rw[oN cI]at hi
    cases bg
    exact absurd (L.lt _ _ hi) (ZbI _)
   ·rw[oN cI]at hi
    rw[oN sS]at bg
    exact L.inj _ _ _ hi bg
def rW (m:Nat) (acc:Option (Array (Option Nat)×Nat)) (h:Int):Option (Array (Option Nat)×Nat):=do
 let (owner,k) <-acc
 let j <-layClean.free m owner (turns m) (bits h%(m+1)) (bits h)
 pure (owner.setIfInBounds j (some k),k+1)
def ZaH (m:Nat) (hs:Array Int):layClean m hs=(hs.toList.foldl (rW m) (some (Array.replicate (m+1) none,0))).map (·.1):=by
 unfold layClean
 rw[<-Array.foldl_toList]
 rfl
def UE (hm:iR m):∀(rest hs:List Int) (owner:Array (Option Nat)),j4 m hs owner->hs.length+rest.length<=m+1->
  ∃Dm,rest.foldl (rW m) (some (owner,hs.length))=some (Dm,(hs++rest).length)/\j4 m (hs++rest) Dm
 | [],hs,owner,L,_=> ⟨owner,by rw[ZbP];rfl,by rw[ZbP];exact L⟩
 |h::rest,hs,owner,L,hl=>by
  rw[ZbA]at hl
  obtain⟨j,g1,g2⟩:=L.step hm .o h
  obtain⟨o',g3,g4⟩:=UE hm rest (hs++[h]) _ g2 (by rw[Zas,Zdx];omega)
  refine⟨o',?_,by rw[<-List.append_cons]at g4;exact g4⟩
  rw[ZeM]
  have e:rW m (some (owner,hs.length)) h=some (owner.setIfInBounds j (some hs.length),(hs++[h]).length):=by
   unfold rW
   simp[g1]
  rw[e,g3,<-List.append_cons]
def JO {es:Array (Int×Value)} :∀{L:List (Nat×Nat)},(∀x∈L,x.2<es.size)->(L.map (·.2)).filterMap (fun k=>es[k]?)=L.map fun x=> (es[x.2]?).getD (0,.none)
 | [],_=>rfl
 |x::L,h=>by
  have hx:=h x Zau
  rw[ZbJ,ZdW,ZbJ,ZbW hx]
  dsimp only
  rw[JO fun y hy=>h y (Zap _ hy)]
  rfl
def ZcK (hm:iR m) (es:Array (Int×Value)) (hl:es.size<=m+1) (fi mo:Nat) (le pl:Bool):
  ∃t order,laid m fi mo le pl (es.map (·.1))=some (t,order)/\t.mask=m/\T0 t (order.filterMap (es[·]?))/\(order.filterMap (es[·]?)).toList.Perm es.toList:=by
 have L0:j4 m [] (Array.replicate (m+1) none):=by
  refine⟨Array.size_replicate ..,fun j k h=> ?_,fun k h hk=>by simp at hk,fun j j' k h=> ?_⟩<;>
  ·rw[Array.getElem?_replicate]at h
   split at h<;>cases h
 obtain⟨owner,e1,L⟩:=UE hm (es.map (·.1)).toList [] _ L0 (by simp;exact hl)
 rw[Zdy]at e1 L
 have hsz:((es.map (·.1)).toList).length=es.size:=by simp
 have e2:layClean m (es.map (·.1))=some owner:=by
  rw[ZaH]
  have wY:List.foldl (rW m) (some (Array.replicate (m+1) none,0)) (es.map (·.1)).toList=_:=e1
  rw[wY]
  rfl
 have az:∀x∈live m owner,x.2<es.size:=fun x hx=>by
  have:=L.lt _ _ ((Z9 L.sz).mp hx)
  rw[hsz]at this
  exact this
 have RN:(((live m owner).map (·.2)).toArray.filterMap (es[·]?)).toList=(live m owner).map fun x=> (es[x.2]?).getD (0,.none):=by
  rw[ZgA]
  exact JO az
 have perm:(((live m owner).map (·.2)).toArray.filterMap (es[·]?)).toList.Perm es.toList:=by
  rw[ZgA]
  have p:=(Uz L).filterMap (fun i=>es[i]?)
  rw[hsz,filterMap_getElem?_range]at p
  exact p
 refine⟨{mask:=m,place:=((live m owner).map (·.1)).toArray,dummies:= #[],finger:=fi,led:=le,moves:=mo,plain:=pl},((live m owner).map (·.2)).toArray,?_,rfl,?_,perm⟩
 ·unfold laid
  rw[e2]
  rfl
 ·refine⟨?_,WI m owner,rfl,fun j hj=> ?_,fun z hz=> ?_⟩
  ·have:=perm.length_eq
   rw[Zay,Zay]at this
   rw[this]
   show((live m owner).map (·.1)).toArray.size=_
   rw[Zan,Zat,IM L,hsz]
  ·obtain⟨x,hx,rfl⟩:=ZbF.mp (show j∈(live m owner).map (·.1) from hj)
   obtain⟨hq,_⟩:=Zbq.mp ((Z9 L.sz).mp hx)
   rw[L.sz]at hq
   exact hq
  ·have bj:z∈((live m owner).map (·.1)).zip (((live m owner).map (·.2)).toArray.filterMap (es[·]?)).toList:=hz
   rw[RN,List.zip_map',ZbF]at bj
   obtain⟨x,hx,rfl⟩:=bj
   have zY:=(Z9 L.sz).mp hx
   have zZ:=az x hx
   have eh:(es.map (·.1)).toList[x.2]? =some (es[x.2].1):=by simp[zZ]
   obtain⟨j,g1,g2⟩:=L.at_ _ _ eh
   have ej:=L.inj _ _ _ g1 zY
   subst ej
   dsimp only
   rw[ZbW zZ,ZeA]
   refine g2.mono fun y hy=> ?_
   obtain⟨k,hk⟩:=hy
   exact ZbF.mpr ⟨(y,k),(Z9 L.sz).mpr hk,rfl⟩
def grow (h:jX m n) (hn:n+1<=306):((n+1)*5>=m*3/\jX (sizeAbove (grown (n+1)) - 1) (n+1)/\sizeAbove (grown (n+1))<=512)∨(¬(n+1)*5>=m*3/\jX m (n+1)):=by
 rcases h with ⟨rfl,h⟩ |⟨rfl,h⟩ |⟨rfl,h⟩ |⟨rfl,h⟩
 ·by_cases q:n=4
  ·subst q
   exact .inl ⟨.d,.inr (.inl ⟨.d,.d⟩),.d⟩
  ·exact .inr ⟨.o,.inl ⟨rfl,.o⟩⟩
 ·by_cases q:n=18
  ·subst q
   exact .inl ⟨.d,.inr (.inr (.inl ⟨.d,.d⟩)),.d⟩
  ·exact .inr ⟨.o,.inr (.inl ⟨rfl,.o⟩)⟩
 ·by_cases q:n=76
  ·subst q
   exact .inl ⟨.d,.inr (.inr (.inr ⟨.d,.d⟩)),.d⟩
  ·exact .inr ⟨.o,.inr (.inr (.inl ⟨rfl,.o⟩))⟩
 ·exact .inr ⟨.o,.inr (.inr (.inr ⟨rfl,.o⟩))⟩
section
variable {prog:Program}{w:World}{K:Type} [DecidableEq K]
structure HK (knd:HeapKind prog w K):Prop where
 S7:∀{A:Around}{E:Value->Shared->Prop}{s:Shared}{k:K}{a:Addr}{Q:Bool->Shared->Prop},knd.is s.heap k a->(∀b,Q b s)->wpAny (model prog w) A (hashByValue 8 (.ref a)) Q E s
 notCls:∀{A:Around}{E:Value->Shared->Prop}{s:Shared}{k:K}{a:Addr}{Q:Bool->Shared->Prop},knd.is s.heap k a->Q false s->wpAny (model prog w) A (ofAClassStatement 8 (.ref a)) Q E s
 Ol:∀{h h':Heap}{k:K}{a d:Addr}{o:Obj}{es ep t},knd.is h k a->h.get? d=some o->o.data=.set es ep t->Heap.SameBut d h h'->knd.is h' k a
variable {knd:HeapKind prog w K}{A:Around}{E:Value->Shared->Prop}{s:Shared}
def iT (knd:HeapKind prog w K) (h:Heap) (k:K) (e:Int×Value):Prop:=∃a,e.2=.ref a/\knd.is h k a/\e.1=knd.hash k
def VN (hk:HK knd) (hx:knd.is s.heap k x):∀{ys:List Value}{Q:Bool->Shared->Prop},(∀y∈ys,∃k' b,y=.ref b/\knd.is s.heap k' b)->Q false s->wpAny (model prog w) A (searchCouldBeSeen (.ref x) ys) Q E s:=by
 intro ys Q hy hq
 unfold searchCouldBeSeen
 refine AN ?_
 refine Zfz _ (fun rest r s'=>r.1=none/\s'=s/\∀y∈rest,∃k' b,y=.ref b/\knd.is s.heap k' b) _ ?_ ?_ _ _ ⟨rfl,rfl,hy⟩
 ·rintro v rest r s' ⟨hr,rfl,dF⟩
  obtain⟨k',b,rfl,hb⟩:=dF v Zau
  have Fb:∀y∈rest,∃k' b,y=Value.ref b/\knd.is s'.heap k' b:=fun y hy=>dF y (Zap _ hy)
  dsimp only
  split
  ·exact Zak ⟨rfl,rfl,Fb⟩
  ·refine AN (knd.quiet hx ?_)
   simp only[ZfO,Zbo,Zdp]
   refine AN (knd.quiet hb ?_)
   simp only[ZfO,Zbo,Zdp]
   refine AN (hk.notCls hx ?_)
   simp only[Zbo,Zdp]
   refine AN (hk.notCls hb ?_)
   simp only[Zbo,Zdp]
   exact Zak ⟨rfl,rfl,Fb⟩
 ·rintro⟨r1,r2⟩ s' ⟨hr,rfl,_⟩
  simp only at hr
  subst hr
  exact Zak hq
def Vf {t:SetTable}{es:Array (Int×Value)}(T:T0 t es) {i:Nat}{e:Int×Value}(h:es[i]? =some e):∃j,t.place[i]? =some j/\(j,e)∈t.place.toList.zip es.toList:=by
 obtain⟨hi,_⟩:=Zbq.mp h
 have hp:i<t.place.size:=by rw[T.sz];exact hi
 refine⟨t.place[i],ZbW hp,Zbc (i:=i) ?_⟩
 rw[Zf6]
 exact⟨by rw[ZaS];exact ZbW hp,by rw[ZaS];exact h⟩
def Tr {t:SetTable}{es:Array (Int×Value)}(T:T0 t es) {i j:Nat}(h:t.place[i]? =some j):∃e,es[i]? =some e:=by
 obtain⟨hi,_⟩:=Zbq.mp h
 exact⟨es[i]'(by rw[<-T.sz];exact hi),ZbW _⟩
def Za5 {t:SetTable}{es:Array (Int×Value)}(T:T0 t es) {hashAt:Nat->Int}{h:Int}{p:Probe}{met:Option Met}{n:Nat}(hp:p.dummy=none) (hn:n<10*turns t.mask) (h1:∀k<n,(it t.mask p k).j∈t.place.toList) (h2:(it t.mask p n).j∉t.place.toList)
  (wj:t.probe hashAt h p=met) (hH:∀i:Nat,hashAt i=(es[i]?.map (·.1)).getD 0):
  (met=some (.empty (it t.mask p n).j none)/\∀k<n,∀(i:Nat) (e:Int×Value),t.place[i]? =some (it t.mask p k).j->es[i]? =some e->e.1≠h)∨
  ∃(k i:Nat) (e:Int×Value),k<n/\t.place[i]? =some (it t.mask p k).j/\es[i]? =some e/\e.1=h/\met=some (.candidate (it t.mask p k).j i (it t.mask p (k+1)))/\∀k'<k,∀(i:Nat) (e:Int×Value),t.place[i]? =some (it t.mask p k').j->es[i]? =some e->e.1≠h:=by
 have conv:∀{i:Nat}{e:Int×Value},es[i]? =some e->hashAt i=e.1:=fun {i e} he=>by rw[hH,he];rfl
 rcases Ie (hashAt:=hashAt) (h:=h) T.nq T.wZ n (10*turns t.mask) p hp hn h1 h2 with ⟨g1,g2⟩ |⟨k,i,g1,g2,g3,g4,g5⟩
 ·exact .inl ⟨wj.symm.trans g1,fun k hk i e hi he=>by rw[<-conv he];exact g2 k hk i hi⟩
 ·obtain⟨e,he⟩:=Tr T g2
  exact .inr ⟨k,i,e,g1,g2,he,by rw[<-conv he];exact g3,wj.symm.trans g4,fun k' aQ i e hi he=>by rw[<-conv he];exact g5 k' aQ i hi⟩
def Uj (hk:HK knd) {S x:Addr}{k:K}{o:Obj}{es:Array (Int×Value)}{ep:Nat}{t:SetTable}{n:Nat}{Q:SetFound->Shared->Prop}
  (hroom:knd.room A) (hx:knd.is s.heap k x) (ho:s.heap.get? S=some o) (hd:o.data=.set es ep t) (T:T0 t es) (hm:t.mask%2=1) (hf:es.size<=t.mask)
  (qu:∀e∈es.toList,∃k',iT knd s.heap k' e)
  (hn:n<10*turns t.mask) (h1:∀i<n,(it t.mask (st t.mask (knd.hash k)) i).j∈t.place.toList) (h2:(it t.mask (st t.mask (knd.hash k)) n).j∉t.place.toList)
  (AW:(∃e∈es.toList,iT knd s.heap k e)->Q (.there none) s) (tF:(¬∃e∈es.toList,iT knd s.heap k e)->Q (.free (it t.mask (st t.mask (knd.hash k)) n).j false) s):
  ∀(d fuel m0:Nat) (uI:Option Probe),m0+d=n->d<fuel->uI.getD (t.probeStart (knd.hash k))=it t.mask (st t.mask (knd.hash k)) m0->
   (∀i'<m0,∀(i:Nat) (e:Int×Value),t.place[i]? =some (it t.mask (st t.mask (knd.hash k)) i').j->es[i]? =some e->¬iT knd s.heap k e)->
   wpAny (model prog w) A (setSearchFrom S (.ref x) (knd.hash k) true fuel uI) Q E s
 |d,0,m0,uI,_,EM,_,_=>absurd EM (Zer _)
 |d,fuel+1,m0,uI,EU,EM,kL,hold=>by
  have mz:=T.fits hf
  unfold setSearchFrom
  refine AN (Zet ho hd mz ?_)
  dsimp only
  have hg:t.gaveWay=false:=by unfold SetTable.gaveWay;rw[hm];rfl
  rw[hg]
  simp only[Zbo,Zdp]
  rw[kL]
  generalize wj:t.probe _ (knd.hash k) _=met
  have Qf:(it t.mask (st t.mask (knd.hash k)) m0).dummy=none:=IJ _ _ _
  have lV:∀i,it t.mask (it t.mask (st t.mask (knd.hash k)) m0) i=it t.mask (st t.mask (knd.hash k)) (m0+i):=fun i=> (WN _ _ _ _).symm
  rcases Za5 (es:=es) T Qf (n:=d) .o (fun i hi=>by rw[lV];exact h1 _ .o) (by rw[lV,EU];exact h2) wj (fun i=>rfl) with ⟨rfl,g2⟩ |⟨c,i,e,g1,g2,g3,g4,rfl,g5⟩
  ·dsimp only
   rw[lV,EU]
   refine Zak (tF ?_)
   rintro⟨e,he,el⟩
   obtain⟨i,hi,rfl⟩:=Zdb he
   have bg:es[i]? =some es.toList[i]:=by rw[<-ZaS];exact Zal hi
   obtain⟨j,hj,hz⟩:=Vf T bg
   obtain⟨a,ea,oh,eh⟩:=id el
   obtain⟨nn,gX,qk⟩:=T.ld _ hz
   dsimp only at gX qk
   rw[eh]at gX qk
   have az:nn<n:=by
    rcases Zgd nn n with q |q |q
    ·exact q
    ·rw[q]at gX
     exact absurd (by rw[gX];exact Ve hj) h2
    ·exact absurd (qk n q) h2
   by_cases PB:nn<m0
   ·exact hold nn PB i _ (by rw[gX];exact hj) bg el
   ·obtain⟨c,rfl⟩:∃c,nn=m0+c:=⟨nn - m0,.o⟩
    exact g2 c .o i _ (by rw[lV,gX];exact hj) bg eh
  ·have AE:e∈es.toList:=by rw[<-ZaS]at g3;exact Zbc g3
   obtain⟨k2,b,eb,og,FN⟩:=qu e AE
   rw[lV]at g2
   have O6:∀y∈List.map (fun x=>x.snd) (Array.filter (fun x=>x.fst==knd.hash k) es).toList,∃k' b,y=Value.ref b/\knd.is s.heap k' b:=fun y hy=>by
    obtain⟨z,hz,rfl⟩:=ZbF.mp hy
    have bj:z∈es.toList:=by
     rw[Array.toList_filter]at hz
     exact(ZbM.mp hz).1
    obtain⟨k3,b3,e3,h3,_⟩:=qu z bj
    exact⟨k3,b3,e3,h3⟩
   have El:t.slot (it t.mask (it t.mask (st t.mask (knd.hash k)) m0) c).j=.live i:=Up T.nq (by rw[lV];exact g2)
   have wc:¬k2=k->wpAny (model prog w) A (setSearchFrom S (.ref x) (knd.hash k) true fuel (some (it t.mask (it t.mask (st t.mask (knd.hash k)) m0) (c+1)))) Q E s:=fun cG=>by
    refine Uj hk hroom hx ho hd T hm hf qu hn h1 h2 AW tF (d - c - 1) fuel (m0+c+1) _ .o .o (by rw[lV];rfl) fun i' bg i2 e2 fE wH Bg=> ?_
    by_cases q1:i'<m0
    ·exact hold i' q1 i2 e2 fE wH Bg
    ·by_cases q2:i'<m0+c
     ·obtain⟨c',rfl⟩:∃c',i'=m0+c':=⟨i' - m0,.o⟩
      obtain⟨_,_,_,RM⟩:=Bg
      exact g5 c' .o i2 e2 (by rw[lV];exact fE) wH RM
     ·have e0:i'=m0+c:=.o
      subst e0
      have ei:i2=i:=(Y9 T.nq fE).symm.trans (Y9 T.nq g2)
      subst ei
      rw[g3]at wH
      cases wH
      obtain⟨b',FY,Ay,_⟩:=Bg
      rw[eb]at FY
      cases FY
      exact cG (knd.inj og Ay)
   dsimp only
   cases hl:t.led with
   |false=>
    simp only[Zf7,ZeL]
    refine AN (VN hk hx O6 ?_)
    simp only[Zbo,Zdp]
    rw[g3]
    dsimp only
    refine AN (ZbT ?_)
    rw[eb]
    refine knd.eqBool hroom og hx ?_
    refine AN (Zet ho hd mz ?_)
    by_cases hq:k2=k
    ·rw[ZaT hq]
     simp only[Zhe,ZeL]
     refine Zak (AW ⟨e,AE,b,eb,by rw[<-hq];exact og,by rw[<-hq];exact FN⟩)
    ·rw[ZaK hq]
     simp only[Zel,Zbo,Zdp]
     have Ag:t.sameMemory t.moves t.mask=some true:=by unfold SetTable.sameMemory;simp
     rw[Ag]
     dsimp only
     rw[Zaq rfl,El]
     dsimp only
     rw[g3]
     dsimp only
     rw[eb]
     refine AN (wpAny_isSame_ref_self ?_)
     refine AN (Zak ?_)
     rw[Zaq rfl]
     dsimp only
     exact wc hq
   |true=>
    simp only[ZfO,Zbo,Zdp]
    rw[g3]
    dsimp only
    refine AN (ZbT ?_)
    rw[eb]
    refine knd.eqBool hroom og hx ?_
    refine AN (Zet ho hd mz ?_)
    by_cases hq:k2=k
    ·rw[ZaT hq]
     simp only[Zhe,ZeL]
     refine Zak (AW ⟨e,AE,b,eb,by rw[<-hq];exact og,by rw[<-hq];exact FN⟩)
    ·rw[ZaK hq]
     simp only[Zel,Zbo,Zdp]
     have Ag:t.sameMemory t.moves t.mask=some true:=by unfold SetTable.sameMemory;simp
     rw[Ag]
     dsimp only
     rw[Zaq rfl,El]
     dsimp only
     rw[g3]
     dsimp only
     rw[eb]
     refine AN (wpAny_isSame_ref_self ?_)
     refine AN (Zak ?_)
     rw[Zaq rfl]
     dsimp only
     exact wc hq
end
section
variable {prog:Program}{w:World}{K:Type} [DecidableEq K] {knd:HeapKind prog w K}{A:Around}{E:Value->Shared->Prop}{s:Shared}
structure aac (knd:HeapKind prog w K) (h:Heap) (S:Addr) (ks:List K) (o:Obj) (es:Array (Int×Value)) (ep:Nat) (t:SetTable):Prop where
 ho:h.get? S=some o
 ex:o.ExactSet
 hd:o.data=.set es ep t
 T:T0 t es
 room:jX t.mask es.size
 el:∀e∈es.toList,∃k∈ks,iT knd h k e
 all:∀k∈ks,∃e∈es.toList,iT knd h k e
 sz:es.size=ks.length
def j6 (knd:HeapKind prog w K) (h:Heap) (S:Addr) (ks:List K):Prop:=∃o es ep t,aac knd h S ks o es ep t
def Jh (hk:HK knd) {h h':Heap}{o:Obj}{es ep t} (ho:h.get? S=some o) (hd:o.data=.set es ep t) (hs:Heap.SameBut S h h') (x:iT knd h k e):iT knd h' k e:=by
 obtain⟨a,e1,e2,e3⟩:=x
 exact⟨a,e1,hk.Ol e2 ho hd hs,e3⟩
def Zc3 {o:Obj}{es:Array (Int×Value)}{t:SetTable}(ho:s.heap.get? S=some o) (hd:o.data=.set es ep t) (hf:t.fits es.size=true) (hm:iR (sizeAbove wanted - 1)) (hw:sizeAbove wanted<=512) (hl:es.size<=sizeAbove wanted - 1)
  (h:∀hJ t',t'.mask=sizeAbove wanted - 1->T0 t' hJ->hJ.toList.Perm es.toList->Q () {s with heap:=s.heap.update S (Obj.putSet hJ t')}):wpAny (model prog w) A (setRelay S wanted) Q E s:=by
 unfold setRelay
 refine AN (Zet ho hd hf ?_)
 dsimp only
 rw[Zam (by rw[ZaP];omega)]
 obtain⟨t',order,e,em,T',pm⟩:=ZcK hm es .o t.finger (t.movedTo (sizeAbove wanted - 1)) t.led t.plain
 have er:t.relaid (es.map (·.1)) wanted=some (t',order):=e
 rw[er]
 refine AN ?_
 have hz:(order.filterMap (es[·]?)).size=es.size:=by rw[<-Zay,pm.length_eq,Zay]
 refine(show wpAny _ _ (if ((order.filterMap (es[·]?)).size !=es.size)=true then _ else pure _) _ _ s from ?_)
 rw[Zam (by rw[hz];simp)]
 refine Zak ?_
 dsimp only
 refine wpAny_storeSet_of ho hd (h _ _ em T' pm) (by rw[hz,ZaP];omega)
def Hk {h:Heap}{o:Obj}(ho:h.get? S=some o) (hd:o.data=.set es ep t) (hJ:Array (Int×Value)) (t':SetTable):(h.update S (Obj.putSet hJ t')).get? S=some {o with data:=.set hJ (ep+1) t'} :=by
 have:=Zdl (Obj.putSet hJ t') ho (by rw[putSet_of hJ t' hd];rfl)
 rw[putSet_of hJ t' hd]at this
 exact this
def T3 (hk:HK knd) {ks:List K}(hroom:knd.room A) (hx:knd.is s.heap k x) (H:j6 knd s.heap S ks) (hn:ks.length+1<=306)
  (h:∀h' b,Heap.SameBut S s.heap h'->j6 knd h' S (if k∈ks then ks else ks++[k])->Q b {s with heap:=h'}):
  wpAny (model prog w) A (setAddHashed S (.ref x) (knd.hash k)) Q E s:=by
 obtain⟨o,es,ep,t,H⟩:=H
 have mz:=H.T.fits (Zec (Zeu H.room.lt))
 unfold setAddHashed setAddHashedIn
 refine ZbT (AN (Zet H.ho H.hd mz ?_))
 dsimp only
 have hb:byScan (.ref x) es=false:=rfl
 rw[hb]
 simp only[Zbo,Zdp]
 obtain⟨f,hf,wC⟩:=H.T.free (by have:=H.room.lt;omega)
 obtain⟨n,mn,wq,Ey⟩:=Zbi (dR:=(·∈t.place.toList)) H.room.vI (knd.hash k) hf wC
 have odd:t.mask%2=1:=by rcases H.room.vI with q |q |q |q<;>rw[q]
 unfold setSearch
 refine AN ?_
 refine Uj hk hroom hx H.ho H.hd H.T odd (by have:=H.room.lt;omega) (fun e he=>let ⟨k',_,el⟩:=H.el e he;⟨k',el⟩) mn wq Ey (fun OT=> ?_) (fun fZ=> ?_) n 100000 0 none .o ?_ rfl (fun i' bg=>absurd bg (Zer _))
 ·dsimp only
  refine Zak ?_
  have cP:k∈ks:=by
   obtain⟨e,he,a,ea,oh,_⟩:=OT
   obtain⟨k',aQ,a',FZ,P0,_⟩:=H.el e he
   rw[ea]at FZ
   cases FZ
   rw[knd.inj oh P0]
   exact aQ
  have:=h s.heap false (Heap.SameBut.refl _ _) (by rw[Zaq cP];exact⟨o,es,ep,t,H⟩)
  exact this
 ·dsimp only
  have cP:k∉ks:=fun m=>fZ (H.all k m)
  refine AN (Zet H.ho H.hd mz ?_)
  dsimp only
  generalize Qb:(it t.mask (st t.mask (knd.hash k)) n).j=f'
  have Tp:=fun pl=>H.T.put (x:=.ref x) wq Ey pl
  rw[Qb]at Tp
  have oI:(insertAt es (t.put f').2 (knd.hash k,.ref x)).size=es.size+1:=by rw[<-Zay,(insertAt_perm es _ _).length_eq,Zay,Array.size_push]
  have Be:∀e,e∈(insertAt es (t.put f').2 (knd.hash k,Value.ref x)).toList↔e∈es.toList∨e=(knd.hash k,Value.ref x):=fun e=>by
   rw[(insertAt_perm es _ _).mem_iff,ZbK,ZaL,ZaI]
  have qu:∀e∈(insertAt es (t.put f').2 (knd.hash k,Value.ref x)).toList,∃k'∈ks++[k],iT knd s.heap k' e:=fun e he=>by
   rcases (Be e).mp he with q |q
   ·obtain⟨k',h1,h2⟩:=H.el e q
    exact⟨k',Za7 _ h1,h2⟩
   ·exact⟨k,by simp,x,by rw[q],hx,by rw[q]⟩
  have Fc:∀k'∈ks++[k],∃e∈(insertAt es (t.put f').2 (knd.hash k,Value.ref x)).toList,iT knd s.heap k' e:=fun k' aQ=>by
   rcases ZaL.mp aQ with q |q
   ·obtain⟨e,h1,h2⟩:=H.all k' q
    exact⟨e,(Be e).mpr (.inl h1),h2⟩
   ·rw[ZaI.mp q]
    exact⟨_,(Be _).mpr (.inr rfl),x,rfl,hx,rfl⟩
  have EE:(insertAt es (t.put f').2 (knd.hash k,Value.ref x)).size=(ks++[k]).length:=by rw[oI,Zas,Zdx,H.sz]
  have h':=fun h' b=>h h' b
  rw[Zam cP]at h'
  generalize aaC:insertAt es (t.put f').2 (knd.hash k,Value.ref x)=qy at *
  have tail:∀t1,(∃pl,t1= {(t.put f').1 with plain:=pl})->wpAny (model prog w) A (storeSet S qy t1 >>=fun _=>if (!false&&t1.tooFull)=true then (setRelay S (grown (es.size+1)) >>=fun _=>pure true) else pure true) Q E s:=by
   rintro t1 ⟨pl,rfl⟩
   have T1:=Tp pl
   have g1:=Hk H.ho H.hd qy {(t.put f').1 with plain:=pl}
   have sb:=Zdj s.heap S (Obj.putSet qy {(t.put f').1 with plain:=pl})
   refine AN (wpAny_storeSet_of H.ho H.hd ?_ (by rw[oI,ZaP];have:=H.room.small;omega))
   have fill:({(t.put f').1 with plain:=pl} :SetTable).tooFull=decide ((es.size+1)*5>=t.mask*3):=by
    unfold SetTable.tooFull SetTable.fill
    have a:({(t.put f').1 with plain:=pl} :SetTable).place.size=es.size+1:=by rw[T1.sz,oI]
    have b:=T1.wZ
    rw[b,a]
    rfl
   rw[fill]
   rcases grow H.room (by rw[H.sz];exact hn) with ⟨q1,q2,q3⟩ |⟨q1,q2⟩
   ·rw[ZaT q1]
    simp only[Zf7,Zhe,ZeL]
    refine AN (Zc3 g1 rfl (T1.fits (by rw[oI];exact Zec H.room.lt)) q2.vI q3 (by have:=q2.lt;rw[oI];omega) fun wV t2 RI T2 zv=>Zak (h' _ true (sb.trans (Zdj _ S _)) ?_))
    have aZ:wV.size=qy.size:=by rw[<-Zay,zv.length_eq,Zay]
    have pK:=sb.trans (Zdj _ S (Obj.putSet wV t2))
    exact⟨_,wV,ep+1+1,t2,Hk g1 rfl wV t2,H.ex,rfl,T2,by rw[RI,aZ,oI];exact q2,fun e he=>let ⟨k',a,b⟩:=qu e (zv.mem_iff.mp he);⟨k',a,Jh hk H.ho H.hd pK b⟩,fun k' aQ=>let ⟨e,a,b⟩:=Fc k' aQ;⟨e,zv.mem_iff.mpr a,Jh hk H.ho H.hd pK b⟩,by rw[aZ,EE]⟩
   ·rw[ZaK q1]
    simp only[Zf7,Zel,Zbo,Zdp]
    refine Zak (h' _ true sb ?_)
    exact⟨_,qy,ep+1,_,g1,H.ex,rfl,T1,by rw[oI];exact q2,fun e he=>let ⟨k',a,b⟩:=qu e he;⟨k',a,Jh hk H.ho H.hd sb b⟩,fun k' aQ=>let ⟨e,a,b⟩:=Fc k' aQ;⟨e,a,Jh hk H.ho H.hd sb b⟩,EE⟩
  split
  ·refine AN (hk.S7 hx fun b=> ?_)
   cases b with
   |true=>exact tail _ ⟨(t.put f').1.plain,rfl⟩
   |false=>exact tail _ ⟨false,rfl⟩
  ·refine AN (Zak ?_)
   exact tail _ ⟨(t.put f').1.plain,rfl⟩
 ·have:10*turns t.mask<=5260:=by
   unfold turns
   rcases H.room.vI with q |q |q |q<;>rw[q]<;>decide
  omega
end
end HS
namespace HS
open PySem PySem.SetTable PySem.Spec
def Zd3 (n:Nat) (h:carriedByValue v=true):∃b,hashByValue n v=pure b:=by
 cases n<;>cases v<;>first |exact⟨_,rfl⟩ |(simp[carriedByValue]at h)
def X8 (n:Nat) (h:carriedByValue v=true):ofAClassStatement n v=pure false:=by
 cases n<;>cases v<;>first |rfl |(simp[carriedByValue]at h) |(unfold ofAClassStatement;rfl)
section
variable {prog:Program}{w:World}{K:Type} [DecidableEq K] {knd:KeyKind prog w K}{A:Around}{E:Value->Shared->Prop}{s:Shared}
def ZaV (hk:IsTupleKey knd s.heap ks a) (h:∀b,Q b s):wpAny (model prog w) A (hashByValue 8 (.ref a)) Q E s:=by
 have hT:=hk.typeIs
 obtain⟨o,items,n,ho,_,hd,hi⟩:=hk
 unfold hashByValue
 refine AN (wpAny_specialOf hT F.slot_tuple_hash.lookup ?_)
 refine(show wpAny _ _ (seqItems? (.ref a) >>=_) _ _ s from AN (Zb5 ho hd ?_))
 refine AN ?_
 show wpAny _ _ (forIn items _ _) _ _ s
 rw[<-Zhf]
 refine Zfz _ (fun rest r s'=>r.1=none/\s'=s/\∀v∈rest,carriedByValue v=true) _ ?_ ?_ _ _ ⟨rfl,rfl,hi.byValue⟩
 ·rintro v rest r s' ⟨hr,rfl,dF⟩
  obtain⟨b,e⟩:=Zd3 7 (dF v Zau)
  rw[e]
  refine AN (Zak ?_)
  cases b with
  |true=>
   simp only[ZfO,Zbo,Zdp]
   exact Zak ⟨rfl,rfl,fun u jb=>dF u (Zap _ jb)⟩
  |false=>
   simp only[Zf7,ZeL]
   exact Zak (Zak (h false))
 ·rintro⟨r1,r2⟩ s' ⟨hr,rfl,_⟩
  simp only at hr
  subst hr
  exact Zak (h true)
def U4 (hk:IsTupleKey knd s.heap ks a) (h:Q false s):wpAny (model prog w) A (ofAClassStatement 8 (.ref a)) Q E s:=by
 have hT:=hk.typeIs
 obtain⟨o,items,n,ho,_,hd,hi⟩:=hk
 unfold ofAClassStatement
 refine AN (Zfa hT ?_)
 dsimp only
 rw[Zaq .d]
 refine AN (Zak ?_)
 simp only[ZfO,Zbo,Zdp]
 refine AN (Zb5 ho hd ?_)
 dsimp only
 refine AN ?_
 rw[<-Zhf]
 refine Zfz _ (fun rest r s'=>r.1=none/\s'=s/\∀v∈rest,carriedByValue v=true) _ ?_ ?_ _ _ ⟨rfl,rfl,hi.byValue⟩
 ·rintro v rest r s' ⟨hr,rfl,dF⟩
  rw[X8 7 (dF v Zau)]
  refine AN (Zak ?_)
  simp only[Zbo,Zdp]
  exact Zak ⟨rfl,rfl,fun u jb=>dF u (Zap _ jb)⟩
 ·rintro⟨r1,r2⟩ s' ⟨hr,rfl,_⟩
  simp only at hr
  subst hr
  exact Zak h
def Zd2 (knd:KeyKind prog w K):HK (tupleKind knd):=by
 refine⟨fun hk h=>ZaV hk h,fun hk h=>U4 hk h,?_⟩
 intro h h' k a d o es ep t x ho hd hs
 obtain⟨o',items,n,dc,hc,jj,hi⟩:=x
 have cG:a≠d:=by
  rintro rfl
  obtain rfl:o'=o:=ZaQ (dc.symm.trans ho)
  rw[hd]at jj
  exact nomatch jj
 exact⟨o',items,n,(hs.2 a cG).trans dc,hc,jj,hi⟩
end
section
variable {K:Type} [DecidableEq K]
def met (val:Nat->K):Nat->List K
 |0=> []
 |n+1=>if val n∈met val n then met val n else met val n++[val n]
def JG (val:Nat->K) (n:Nat):met val (n+1)=if val n∈met val n then met val n else met val n++[val n]:=rfl
def U5 (val:Nat->K):∀n,(met val n).length<=n
 |0=>Zae _
 |n+1=>by
  rw[JG]
  have:=U5 val n
  split
  ·omega
  ·rw[Zas,Zdx];omega
def HH (val:Nat->K):∀n k,k∈met val n↔k∈(List.range n).map val
 |0,k=>by simp[met]
 |n+1,k=>by
  rw[Zeq,ZbC,ZaL,<-HH val n k,JG]
  split
  ·rename_i h
   simp only[ZbJ,ZgE,ZaI]
   exact⟨.inl,fun z=>z.elim id fun e=>by rw[e];exact h⟩
  ·simp
def DI (val:Nat->K):∀n,((met val n).length=n↔((List.range n).map val).Nodup)
 |0=>by simp[met]
 |n+1=>by
  have ih:=DI val n
  have le:=U5 val n
  have mm:=HH val n (val n)
  rw[Zeq,ZbC]
  have nd:((List.range n).map val++List.map val [n]).Nodup↔((List.range n).map val).Nodup/\¬val n∈(List.range n).map val:=by
   rw[Zge]
   constructor
   ·rintro⟨h1,_,h3⟩
    exact⟨h1,fun m=>h3 _ m (val n) (by simp) rfl⟩
   ·rintro⟨h1,h2⟩
    refine⟨h1,by simp,fun a ha b hb q=>h2 ?_⟩
    have cT:b=val n:=by simpa using hb
    rw[<-cT,<-q];exact ha
  rw[nd,<-ih,<-mm,JG]
  split
  ·rename_i h
   constructor
   ·intro z;omega
   ·rintro⟨_,z⟩;exact absurd h z
  ·rename_i h
   rw[Zas,Zdx]
   constructor
   ·intro z;exact⟨.o,h⟩
   ·rintro⟨z,_⟩;omega
variable {prog:Program}{w:World}{kk:KeyKind prog w K}{A:Around}{E:Value->Shared->Prop}{s:Shared}{R:Result->Shared->Prop}{I:Addr}{fp wr:List Addr}{G:Array GenState->Array GenState->Prop}{n:Nat}{P:Nat->Value->Prop}{St:Nat->Shared->Prop}
def tU (h:Heap) (b:Addr):Prop:=∃o,h.get? b=some o/\o.cls≠.type "tuple"
def JK {h h':Heap}{ws:List Addr}{ks:List K}{a:Addr}(hw:∀b∈ws,tU h b) (wy:∀b o,b∉ws->h.get? b=some o->h'.get? b=some o) (x:IsTupleKey kk h ks a):IsTupleKey kk h' ks a:=by
 obtain⟨o',items,n,dc,hc,jj,hi⟩:=x
 have cG:a∉ws:=fun m=>by
  obtain⟨o,ho,hn⟩:=hw a m
  rw[dc]at ho
  cases ho
  exact hn hc
 exact⟨o',items,n,wy _ _ cG dc,hc,jj,hi⟩
def Iv {h h':Heap}{ws:List Addr}{S:Addr}{ks:List (List K)}(hw:∀b∈ws,tU h b) (hS:S∉ws) (wy:∀b o,b∉ws->h.get? b=some o->h'.get? b=some o) (x:j6 (tupleKind kk) h S ks):j6 (tupleKind kk) h' S ks:=by
 obtain⟨o,es,ep,t,X⟩:=x
 have ke:∀{k:List K}{e:Int×Value},iT (tupleKind kk) h k e->iT (tupleKind kk) h' k e:=fun⟨a,e1,e2,e3⟩=> ⟨a,e1,JK hw wy e2,e3⟩
 exact⟨o,es,ep,t,wy _ _ hS X.ho,X.ex,X.hd,X.T,X.room,fun e he=>let ⟨k,a,b⟩:=X.el e he;⟨k,a,ke b⟩,fun k hk=>let ⟨e,a,b⟩:=X.all k hk;⟨e,a,ke b⟩,X.sz⟩
def Zcn (x:j6 (tupleKind kk) h S ks):tU h S:=by
 obtain⟨o,es,ep,t,X⟩:=x
 exact⟨o,X.ho,by rw[X.ex.1];decide⟩
def N8 (hroom:A.in1.units<cLine) (W:WalksS prog w A.in1 I fp wr G n P St) (S:Addr) (Fh:S∉fp) (val:Nat->List K) (hb:n<=305) (hI:∀i s,St i s->∀b∈wr,tU s.heap b):
  ∀(k i:Nat) (s:Shared),n - i=k->i<=n->St i s->j6 (tupleKind kk) s.heap S (met val i)->(∀i v,P i v->∃a,v=.ref a/\IsTupleKey kk s.heap (val i) a)->
   (∀s',Moved (S::wr) G s s'->j6 (tupleKind kk) s'.heap S (met val n)->R (.ok (.ret .none)) s')->
   codeAny (model prog w) A (.builtin "set.update.loop" ⟨[.ref S,.ref I],[]⟩) R s:=by
 have Fg:S∉wr:=fun h=>Fh (W.sub _ h)
 have mf:∀b∈wr,b∈S::wr:=fun b hb=>Zap _ hb
 intro k
 induction k with
 |zero=>
  intro i s aQ hi iJ hS wM hR
  have sR:i=n:=.o
  subst sR
  refine Zda ZeZ ?_
  rw[ZbZ ZdR _]
  show wpAny _ A.in1 (pyNext (.ref I) >>=_) _ _ s
  refine AN (W.done s _ _ iJ fun s' hm=> ?_)
  show wpAny _ A.in1 (ret Value.none) _ _ s'
  exact Zak (hR s' (hm.mono mf) (Iv (hI _ _ iJ) Fg (fun b o hb e=>hm.heap b o hb e) hS))
 |succ k ih=>
  intro i s aQ hi iJ hS wM hR
  have az:i<n:=.o
  refine Zda ZeZ ?_
  rw[ZbZ ZdR _]
  show wpAny _ A.in1 (pyNext (.ref I) >>=_) _ _ s
  refine AN (W.item i s _ _ az iJ fun v s' hP O4 hm=> ?_)
  have kp:∀b o,b∉wr->s.heap.get? b=some o->s'.heap.get? b=some o:=fun b o hb e=>hm.heap b o hb e
  have eY:=Iv (hI _ _ iJ) Fg kp hS
  have Fm:∀i v,P i v->∃a,v=.ref a/\IsTupleKey kk s'.heap (val i) a:=fun i v hv=>let ⟨a,e,x⟩:=wM i v hv;⟨a,e,JK (hI _ _ iJ) kp x⟩
  obtain⟨a,rfl,oh⟩:=Fm i v hP
  show wpAny _ A.in1 (holding [Value.ref a] (setAdd S (.ref a)) >>=_) _ _ s'
  refine AN (ZbT ?_)
  unfold setAdd
  refine ZbT ?_
  refine AN ((tupleKind kk).pyHash hroom oh ?_)
  refine T3 (s:= {s' with toks:=s'.toks+(tupleKind kk).draws (val i)}) (Zd2 kk) hroom oh eY (by have:=U5 val i;omega) fun h' b sb QC=> ?_
  have L5:∀b o,b∉[S]->s'.heap.get? b=some o->h'.get? b=some o:=fun b o hb e=>by
   rw[sb.2 b (fun z=>hb (by rw[z];exact ZaI.mpr rfl))];exact e
  have nS:∀b∈[S],tU s'.heap b:=fun b hb=>by rw[ZaI.mp hb];exact Zcn eY
  refine Zak ⟨Zeg ZdR _,ih (i+1) _ .o az (W.frame _ s' _ _ O4 (ZfB _ _) fun b hb o e=> ?_) (by rw[JG];exact QC) (fun i v hv=>let ⟨a,e,x⟩:=Fm i v hv;⟨a,e,JK nS L5 x⟩) fun fM PD QE=> ?_⟩
  ·rw[sb.2 b (fun h:b=S=>Fh (by rw[<-h];exact hb))];exact e
  ·refine hR fM (Moved.trans W.gtrans ((hm.mono mf).then_heap (ZfB _ _) fun b o hb e=> ?_) PD) QE
   rw[sb.2 b (fun h:b=S=>hb (by rw[h];exact Zau))];exact e
end
section
variable {K:Type} [DecidableEq K] {prog:Program}{w:World}{kk:KeyKind prog w K}{A:Around}{E:Value->Shared->Prop}{s:Shared}
abbrev kC (led:Bool):Obj:= {cls:=.type "set",dict:=none,data:=.set #[] 0 (.fresh 0 0 led)}
def ZcT {h:Heap}(led:Bool) (g:h.get? S=some (kC led)):j6 (tupleKind kk) h S []:=by
 refine⟨_, #[],0,_,g,⟨rfl,rfl,rfl⟩,rfl,⟨rfl,.nil,rfl,fun j hj=> ?_,fun z hz=> ?_⟩,.inl ⟨rfl,Za2 _⟩,fun e he=> ?_,fun k hk=> ?_,rfl⟩
 ·exact absurd hj (by simp[SetTable.fresh])
 ·exact absurd hz (by simp[SetTable.fresh])
 ·exact absurd he (by simp)
 ·exact absurd hk (by simp)
set_option maxHeartbeats 8000000 in
def S6 {l:Addr}{items:Array Value}{val:Nat->List K}{Q:Value->Shared->Prop}
  (hh:A.handled=none) (hu:A.in1.in1.in1.units<cLine) (hl:s.heap.IsList l items) (hi:∀i v,items[i]? =some v->∃a,v=.ref a/\IsTupleKey kk s.heap (val i) a) (hb:items.size<=305)
  (h:∀(h':Heap) (tk:Nat),j6 (tupleKind kk) h' s.heap.objs.size (met val items.size)->(∀b o,b<s.heap.objs.size->s.heap.get? b=some o->h'.get? b=some o)->Q (.ref s.heap.objs.size) {s with heap:=h',toks:=tk}):
  wpAny (model prog w) A (call (.type "set") [.ref l]) Q E s:=by
 have cS:=F.called_set
 obtain⟨c0,tl0,aat⟩:=cS.mro
 have aau:=cS.made;have aap:=cS.sub
 refine ZgO (ZgG (show wpAny _ _ (callAny (.type "set") _) _ _ _ from ?_))
 refine Zak ⟨Code.quiet_builtin _ (by decide+kernel),Zda F.entry_type_call ?_⟩
 rw[Around.under_plain (weight_type_call_type "set" [.ref l] []) rfl]
 have k1:=cS.notType;have k2:=cS.canCreate;have k3:=F.typeCall_set_1 (.ref l)
 repeat (any_goals (first |assumption |wp_step))
 refine ZdQ (code_set_new_1 (.ref l) (E:=E) (Q₁:=fun ob aJ=> ∃led:Bool,ob=.ref s.heap.objs.size/\aJ= {s with heap:=s.heap.push (kC led)}) fun led=> ⟨led,rfl,rfl⟩) fun Md aJ A1=> ?_
 cases Md with
 |error e=>exact A1
 |ok Ro=>
  cases Ro with
  |ret ob=>
   obtain⟨led,rfl,rfl⟩:=A1
   have gS:(s.heap.push (kC led)).get? s.heap.objs.size=some (kC led):=Zax _ rfl
   have tS:Shared.TypeIs {s with heap:=s.heap.push (kC led)} (.ref s.heap.objs.size) "set" :=⟨_,gS,rfl⟩
   have li0:=cS.init.lookup;have bi0:=cS.init.bind (.ref s.heap.objs.size)
   repeat (any_goals (first |assumption |wp_step))
   refine ZdQ (ZfK (R:=wants (fun r pz=>r=.none/\∃h' tk,pz= {s with heap:=h',toks:=tk}/\j6 (tupleKind kk) h' s.heap.objs.size (met val items.size)/\(∀b o,b<s.heap.objs.size->s.heap.get? b=some o->h'.get? b=some o)) E) cS.init.plain F.entry_set_init (check_set_init_1 tS ?_)) fun Mc pz A0=> ?_
   ·obtain⟨⟨lc,ld,lt,ls⟩,wk,dE,nl,sX⟩:=hl
    simp only at dE sX
    subst dE;subst sX
    have Pl:=OF (kC led) wk
    have yP:=F.sub_list_set;have iw:=F.sub_list_frozenset
    have ne0:(Value.type "list" ==Value.type "dict")=false:=.d
    have oa:(s.heap.push (kC led)).IsList l items:=⟨_,Pl,rfl,nl,rfl⟩
    unfold Builtin.«set.__init__» noKeywords Builtin.Frozenset.updateFrom
    generalize QG:pyIter=PI
    wp_walk
    subst QG
    refine ZeR oa (AN (wpAny_runValue ?_))
    have DN:l<s.heap.objs.size:=Zar wk
    have P4:A.in1.in1.in1.handled=none:=by simp[hh]
    have nI:l≠(s.heap.push (kC led)).objs.size:=by rw[Zdq];exact ZaO (ZdU DN)
    have Sf:s.heap.objs.size∉[(s.heap.push (kC led)).objs.size,l]:=by
     rw[Zdq]
     simp only[Zao,ZaI,Zbk,Zca,not_or]
     exact⟨ZaO (Zgt _),Ze8 DN⟩
    refine N8 (kk:=kk) ?hroom ((Zhm P4 _ l nI items).toS) s.heap.objs.size Sf val hb ?hI (items.size - 0) 0 _ .o (Za2 _) ⟨⟨_,Zax _ rfl,rfl,rfl⟩,(oa.push _)⟩ ?QD ?wM ?hR
    case hroom=>exact hu
    case hI=>
     rintro i s1 ⟨⟨o1,e1,e2,_⟩,_⟩ b hb
     rw[ZaI.mp hb]
     exact⟨o1,e1,by rw[e2];decide⟩
    case QD=>exact ZcT led (OF _ gS)
    case wM=>
     intro i v hv
     obtain⟨a,e,x⟩:=hi i v hv
     refine⟨a,e,JK (ws:=[]) (fun b hb=>absurd hb (by simp)) (fun b o _ eb=>OF _ (OF _ eb)) x⟩
    case hR=>
     rintro⟨h',g',d',qX,zA⟩ hm eY
     obtain rfl:g'=s.gens:=hm.gens
     obtain rfl:d'=s.drawn:=hm.drawn
     obtain rfl:zA=s.os:=hm.os
     show wpAny _ _ _ _ _ _
     refine Zak (show wpAny _ _ (ret Value.none) _ _ _ from Zak ⟨rfl,h',qX,rfl,eY,fun b o hb e=> ?_⟩)
     refine hm.heap b o ?_ (OF _ (OF _ e))
     simp only[Zao,ZaI,Zbk,Zca,not_or]
     exact⟨ZaO hb,by rw[Zdq];exact ZaO (ZdU hb)⟩
   ·cases Mc with
    |error e=>exact A0
    |ok Rn=>
     cases Rn with
     |ret r=>
      obtain⟨rfl,h',tk,rfl,eY,aQ⟩:=A0
      repeat (any_goals (first |assumption |wp_step))
      exact h _ _ eY aQ
     |_=>exact A0.elim
  |_=>exact A1.elim
end
end HS
namespace L2
open PySem PySem.Spec PyProof.Rows
def i6 (ks:List (List Int)):Nat:=(HS.met (fun i=>ks.getD i []) ks.length).length
def V3 (ks:List (List Int)):i6 ks=ks.length↔ks.Nodup:=by
 unfold i6
 rw[HS.DI]
 have e:(List.range ks.length).map (fun i=>ks.getD i [])=ks:=by
  refine ZfA (by simp) fun i h1 h2=> ?_
  rw[Zgu,Zhg,ZbL,Zal h2,ZeA]
 rw[e]
def items_int :∀{ks:List Int}{us:List Value},Vals (ks.map V.int) us->ItemsAre (intKind prog w) ks us
 | [],_,.nil=> .nil
 |k::ks,_,.cons r rs=>by
  obtain⟨t,rfl⟩:=r
  exact .cons (intKind_is _ _ _ _) (items_int rs)
section
variable {X:Cx}
def KI {s:Shared}(I:Inv X pins σ H s) (h:dG H v k) (r:RelV v u):∃a,u=.ref a/\IsTupleKey (intKind X.prog X.w) s.heap k a:=by
 obtain⟨t,rfl,ht⟩:=h
 cases r
 obtain⟨us,rv,⟨o,ho,hc,n,hd⟩,_⟩:=I.tuple (ah.of ht)
 exact⟨t,rfl,o,us.toArray,n,ho,hc,hd,by simpa using items_int rv⟩
def K8 (K:Zht) (te:TE):TE:=fun σ H Q=>te σ H fun v H1=> ∃(l:Addr) (ts:List V) (ks:List (List Int)),v=.ref l/\ag K H1 l ts/\Paired (dG H1) ts ks/\ts.length<=305/\Q (.int (i6 ks)) H1
def Zcu {e:Expr}{te:TE}{p p2 pos rR:Pos}(hc:X.calm=true) (hu:X.A.units+4<cLine) (hg:Gl X "len") (hm:X.mg "len" =none) (AB:Gl X "set") (sJ:X.mg "set" =none) (he:PE X e te)
  (Em:starEach [.Call (.Name "set" p2) [e] [] rR] X.env=[(false,eval (.Call (.Name "set" p2) [e] [] rR) X.env)]:=by rfl) (mi:starEach [e] X.env=[(false,eval e X.env)]:=by rfl):
  PE X (.Call (.Name "len" p) [.Call (.Name "set" p2) [e] [] rR] [] pos) (K8 X.K te):=by
 intro pins s σ H Q I h
 refine Zdh (YD I hg hm ZeU ?_)
 refine Zfu ?_ Em rfl
 rw[Em]
 show wpAny _ _ (spliced ((false,eval (.Call (.Name "set" p2) [e] [] rR) X.env)::backTo pos (starEach [] X.env))) _ _ s
 refine ZfZ ?_
 refine Zdh (YD I AB sJ boot_set ?_)
 have h2:pj te qY σ H fun vs H1=> ∃v,vs=[v]/\∃(l:Addr) (ts:List V) (ks:List (List Int)),v=.ref l/\ag X.K H1 l ts/\Paired (dG H1) ts ks/\ts.length<=305/\Q (.int (i6 ks)) H1:=by
  have e0:(fun(v:V) (H1:Hp)=> ∃v':V,[v]=[v']/\∃(l:Addr) (ts:List V) (ks:List (List Int)),v'=.ref l/\ag X.K H1 l ts/\Paired (dG H1) ts ks/\ts.length<=305/\Q (.int (i6 ks)) H1)=(fun(v:V) (H1:Hp)=> ∃(l:Addr) (ts:List V) (ks:List (List Int)),v=.ref l/\ag X.K H1 l ts/\Paired (dG H1) ts ks/\ts.length<=305/\Q (.int (i6 ks)) H1):=by
   funext v H1
   refine propext ⟨fun⟨v',z,q⟩=> ?_,fun q=> ⟨v,rfl,q⟩⟩
   cases z
   exact q
  show te σ H (fun(v:V) (H1:Hp)=> ∃v':V,[v]=[v']/\∃(l:Addr) (ts:List V) (ks:List (List Int)),v'=.ref l/\ag X.K H1 l ts/\Paired (dG H1) ts ks/\ts.length<=305/\Q (.int (i6 ks)) H1)
  rw[e0]
  exact h
 refine Zb2 (aq (Za he Zb mi rR pins s σ H _ I h2) fun us s1 ⟨vs,H1,I1,r1,q1⟩=> ?_) mi rfl
 obtain⟨v,rfl,l,ts,ks,rfl,hl,pr,hn,q⟩:=q1
 obtain⟨u,rfl,ru⟩:=ZfU r1
 cases ru
 obtain⟨its,rv,pl,hz⟩:=I1.list hl
 have ll:=rv.length
 have lk:=Zcf pr
 refine HS.S6 (kk:=intKind X.prog X.w) (val:=fun i=>ks.getD i []) (items:=its.toArray) (I1.ok.hd hc) (by show X.A.units+1+1+1<cLine;omega) pl.isList (fun i u jb=> ?_) (by rw[Zan];omega) fun h' tk hS hk=> ?_
 ·have Eg:its[i]? =some u:=by simpa using jb
  have hi:i<ts.length:=by rw[ll];exact(Zab.mp Eg).1
  obtain⟨u',e1,r2⟩:=rv.get (Zal hi)
  rw[Eg]at e1
  cases e1
  obtain⟨k,hk,tp⟩:=Jm pr (Zal hi)
  obtain⟨a,e,x⟩:=KI I1 tp r2
  refine⟨a,e,?_⟩
  show IsTupleKey _ _ (ks.getD i []) a
  rw[ZbL,hk]
  exact x
 ·have I2:Inv X pins σ H1 {s1 with heap:=h',toks:=tk} :=I1.kept fun b o eb=>hk b o (Zar eb) eb
  refine Zf9 ?_
  obtain⟨o,es,ep,t,SH⟩:=hS
  have sm:=SH.room.small
  refine call_len_set SH.ho SH.ex SH.hd (SH.T.fits (Zec (Zeu SH.room.lt))) .o ?_
  have ez:(es.size:Int)=(i6 ks:Int):=by
   rw[SH.sz]
   unfold i6
   rw[Zan,<-ll,lk]
  exact⟨.int (i6 ks),H1,I2.tok _,⟨_,by rw[<-ez]⟩,q⟩
end
end L2
namespace L2
open PySem PySem.Spec PyProof.Rows SeqAt
end L2
namespace L2
open PySem PySem.Spec PyProof.Rows
def tW (K:Zht) (t:Addr):It:=
 ⟨fun i H=> ∃xs x,ag K H t xs/\xs[i]? =some x,fun i H x H'=> ∃(T:Addr) (y:V),x=.ref T/\H T=none/\H'=upd H T (.par [.int (i:Int),y])/\∀xs,ag K H t xs->xs[i]? =some y,fun i H=> ∃xs,ag K H t xs/\xs.length=i⟩
def ZaZ {P:Program}{w:World}{K:Zht}{elts:List Expr}{kk:Nat}{pos:Pos}(t e j:Addr) (kM:e≠j) (sh:t≠e) (sf:t≠j):
  Turn P w K (.Tuple elts kk pos) (tW K t) [e,j] e (fun i h=> (∃old,IsEnum h e j i old)/\h.IsListIter j t i) where
 mem:=by simp
 obj:=fun i h st b hb=>by
  obtain⟨⟨old,he⟩,o,ho,hc,hd⟩:=st
  rcases Zao.mp hb with rfl |hb
  ·exact⟨_,he,fun v z=>by cases z⟩
  ·rw[ZaI.mp hb]
   exact⟨o,ho,fun v z=>by rw[hd]at z;cases z⟩
 keep:=fun i h h' st k=> ⟨let ⟨old,he⟩:=st.1;⟨old,k e (by simp) _ he⟩,st.2.at fun o q=>k j (by simp) o q⟩
 item:=by
  intro X hP hw hK hc i pins s σ H E I hf st hg
  subst hP hw hK
  obtain⟨xs,x,hq,hx⟩:=hg
  obtain⟨its,rv,p,hz⟩:=I.list hq
  obtain⟨u,hu,ru⟩:=rv.get hx
  have hl:=rv.length
  have om:i<its.toArray.size:=by
   have:=(Zab.mp hu).1
   simpa using this
  have W:=Zfq (prog:=X.prog) (w:=X.w) (A:=X.A) (Draws.list (A:=X.A.in1) (show X.A.in1.handled=none from I.ok.hd hc) j t sf its.toArray) e kM (by simp[kM,sh.symm]) (by simp)
  have hT:s.heap.IsList t its.toArray:=p.isList
  refine W.item i s _ _ om ⟨st.1,st.2,hT⟩ fun T vals h' tk hP fP ow jf hk=> ⟨_,rfl,W.go elts kk pos i T _ _ _ jf fun dj dQ fF=> ?_⟩
  obtain⟨mV,x2,kI,rfl⟩:=hP
  have l9:its[i]? =some x2:=by simpa using kI
  rw[hu]at l9
  cases l9
  have jn:H T=none:=I.ai.fresh fP
  have both:∀b o,b∉[e,j]->s.heap.get? b=some o->dj.get? b=some o:=fun b o hb q=>fF b o hb (hk b o hb q)
  have kO:T∉[e,j]:=W.apart _ _ _ jf
  have oz:dj.IsTuple T #[.int i mV,u]:=ow.at fun o q=>fF T o kO q
  have neT:∀b o,s.heap.get? b=some o->b≠T:=fun b o q=>ZaO (ZaE (Zar q) fP)
  have dw:∀b o,H b=some o->b≠T:=fun b o q=>Zi q jn
  have cF:∀b o,H b=some o->b∉[e,j]:=fun b o q z=>by
   have:=(hf b z).1
   rw[this]at q;cases q
  refine⟨.ref T,upd H T (.par [.int (i:Int),x]),?_,rfl,⟨T,x,rfl,jn,rfl,fun ys hy=>by rw[I.vR hy hq];exact hx⟩,⟨dQ.1,dQ.2.1⟩,fun b hb=> ?_⟩
  ·refine(show Inv X pins σ (upd H T (.par [.int (i:Int),x])) {s with heap:=dj,toks:=tk} from ?_)
   refine I.call (g':=s.gens) (d':=s.drawn) (t':=tk) (h':=dj) (ch:=[e,j]) ⟨fun b o q _ _ hx=>both b o hx q,fun b o q _ _ hx=> ⟨o.slots,both b o hx q⟩,fun b o q n hx=>by rw[Zg (neT b o q)];exact n,fun b o q hx=> ⟨o,both b o hx q⟩,
    fun b ys q=>by rw[Zg (dw b _ q)];exact q,fun b o u q=>by rw[Zg (dw b _ q)];exact q,fun b ps q=> ⟨#[],by rw[Zg (dw b _ q),q];simp⟩⟩ (fun b v q=> ?_) I.bare fun b hb=> ?_
   ·by_cases hb:b=T
    ·subst hb
     rw[Ze]at q
     cases q
     exact⟨aZ,[.int i mV,u],.cons ⟨mV,rfl⟩ (.cons ru .nil),oz⟩
    ·rw[Zg hb]at q
     refine(I.ai b v q).cb (fun c z bH q'=>both c z ?_ q') (fun c q'=>by rw[Zg (dw c _ q')];exact q') fun c ys q'=>by rw[Zg (dw c _ q')];exact q'
     rcases bH with z' |z'
     ·rw[z'];exact cF b v q
     ·exact cF c _ z'
   ·obtain⟨f0,f1,f2,f3,f4,f5⟩:=hf b hb
    exact⟨f3,f1,f4,f5⟩
  ·rw[Zg (fun z=>kO (by rw[<-z];exact hb))]
   exact(hf b hb).1
 done:=by
  intro X hP hw hK hc i pins s σ H E I hf st hg
  subst hP hw hK
  obtain⟨xs,hq,hx⟩:=hg
  obtain⟨its,rv,p,hz⟩:=I.list hq
  have hl:=rv.length
  have W:=Zfq (prog:=X.prog) (w:=X.w) (A:=X.A) (Draws.list (A:=X.A.in1) (show X.A.in1.handled=none from I.ok.hd hc) j t sf its.toArray) e kM (by simp[kM,sh.symm]) (by simp)
  have hn:i=its.toArray.size:=by rw[Zan];omega
  have hT:s.heap.IsList t its.toArray:=p.isList
  rw[hn]at st
  refine W.done s _ _ ⟨st.1,st.2,hT⟩ fun h' tk hk=> ⟨rfl,?_⟩
  have cF:∀b o,H b=some o->b∉[e,j]:=fun b o q z=>by
   have:=(hf b z).1
   rw[this]at q;cases q
  refine I.call (g':=s.gens) (d':=s.drawn) (t':=tk) (h':=h') (ch:=[e,j]) ⟨fun b o q _ _ hx=>hk b o hx q,fun b o q _ _ hx=> ⟨o.slots,hk b o hx q⟩,fun b o q n hx=>n,fun b o q hx=> ⟨o,hk b o hx q⟩,fun b ys q=>q,fun b o u q=>q,fun b ps q=> ⟨#[],by rw[q];simp⟩⟩ (fun b v q=> ?_) I.bare fun b hb=> ?_
  ·refine(I.ai b v q).cb (fun c z bH q'=>hk c z ?_ q') (fun _ q'=>q') fun _ _ q'=>q'
   rcases bH with z' |z'
   ·rw[z'];exact cF b v q
   ·exact cF c _ z'
  ·obtain⟨f0,f1,f2,f3,f4,f5⟩:=hf b hb
   exact⟨f3,f1,f4,f5⟩
 self:=fun A i s Q E st h=>let ⟨old,he⟩:=st.1;Zfr he h
section
variable {X:Cx}{elts:List Expr}{kk:Nat}{tp:Pos}
def OB (K:Zht) (ta:TA):TI:=fun σ H R=>ta σ H fun vs H1=> ∃t,vs=[.ref t]/\(∃xs,ag K H1 t xs)/\R (tW K t) H1
def XB {a:Expr}{ta:TA}{p pos:Pos}(hg:Gl X "enumerate") (hm:X.mg "enumerate" =none) (ha:PA X [a] ta) (hs:starEach [a] X.env=[(false,eval a X.env)]:=by rfl):PI X (.Tuple elts kk tp) (.Call (.Name "enumerate" p) [a] [] pos) (OB X.K ta):=by
 intro pins s σ H R I h
 refine Call_ (YD I hg hm boot_enumerate (Zb2 (aq (ha pos pins s σ H _ I h) fun us s1 ⟨vs,H1,I1,r1,q1⟩=> ?_) hs rfl))
 obtain⟨t,e,⟨xs,hq⟩,q⟩:=q1
 subst e
 obtain⟨u,rfl,ru⟩:=ZfU r1
 cases ru
 obtain⟨its,rv,pl,hz⟩:=I1.list hq
 have hT:s1.heap.IsList t its.toArray:=pl.isList
 have ht:t<s1.heap.objs.size:=by obtain⟨o,ho,_⟩:=hT;exact Zar ho
 refine call_enumerate_list hT fun h' he hj aI hk=>Zfr he ?_
 have I2:Inv X pins σ H1 {s1 with heap:=h'} :=I1.kept (t':=s1.toks) hk
 refine⟨s1.heap.objs.size+1,[s1.heap.objs.size+1,s1.heap.objs.size],_,_,H1,rfl,I2,ZaZ t _ _ (Nat.succ_ne_self _) (ZaO (ZdU ht)) (ZaO ht),⟨⟨_,he⟩,hj⟩,fun b hb=> ?_,q⟩
 have jm:s1.heap.objs.size<=b:=by
  rcases Zao.mp hb with z |z
  ·rw[z];exact Ze3 _
  ·rw[ZaI.mp z];exact Zae _
 exact I1.mE jm (I1.ai.fresh jm)
end
def ZcU {K:Zht}{a:Addr}{xs:List V}{g:TG}{tb:TS}{D:Ends}{σ:St}{H:Hp}(Pv:Nat->St->Hp->Prop) (h0:Pv 0 σ H) (hl:∀i σ H,i<=xs.length->Pv i σ H->ag K H a xs)
  (hs:∀i x T σ H,xs[i]? =some x->H T=none->Pv i σ H->g (.ref T) σ (upd H T (.par [.int (i:Int),x])) fun aV H2=>tb {D with nx:=Pv (i+1),ct:=Pv (i+1),bk:=D.nx} aV H2) (hd:∀σ H,Pv xs.length σ H->D.nx σ H):
  ∃W:Nat->Nat->St->Hp->Prop,(∃m,W 0 m σ H)/\∀i m σ H,W i m σ H->
   ((tW K a).stop i H/\D.nx σ H)∨((tW K a).go i H/\∃N:St->Hp->Prop,(∀aj H',N aj H'->∃m',m'<m/\W (i+1) m' aj H')/\∀x H',(tW K a).mU i H x H'->g x σ H' fun aV H2=>tb {D with nx:=N,ct:=N,bk:=D.nx} aV H2):=by
 refine⟨fun i m σ H=>m=xs.length - i/\i<=xs.length/\Pv i σ H,⟨xs.length,by simp,Za2 _,h0⟩,?_⟩
 rintro i m σ H ⟨rfl,hi,p⟩
 have q:=hl i σ H hi p
 by_cases az:i<xs.length
 ·refine .inr ⟨⟨xs,xs[i],q,by simp[az]⟩,Pv (i+1),fun aj H' p'=> ⟨xs.length - (i+1),.o,rfl,az,p'⟩,fun x H' y=> ?_⟩
  obtain⟨T,z,e1,e2,e3,e4⟩:=y
  subst e1 e3
  exact hs i z T σ H (e4 xs q) e2 p
 ·have e:i=xs.length:=.o
  subst e
  exact .inl ⟨⟨xs,q,rfl⟩,hd σ H p⟩
end L2
namespace L2
open PySem PySem.Spec PyProof.Rows SeqAt
end L2
namespace L2
open PySem PySem.Spec PyProof.Rows
section
variable {prog:Program}{w:World}{A:Around}{E:Value->Shared->Prop}{s:Shared}
def Ud {Q:List Value->Shared->Prop}{r:Addr}{a b c:Int}{t u v:Tok}{n:Nat}(hh:A.handled=none) (hr:IsRange s.heap r a b c t u v) (Af:Builtin.Range.small a b c=true)
  (hn:Builtin.Range.rangeSize a b c=n) (hlen:n<=2^24)
  (hQ:∀(h':Heap) (tk:Nat) (acc:Array Value),(∀b o,s.heap.get? b=some o->h'.get? b=some o)->ItemsOf (fun i v=> ∃t,v=.int (a+i*c) t) acc n->Q acc.toList {s with heap:=h',toks:=tk}):wpAny (model prog w) A (collect (.ref r)) Q E s:=by
 unfold collect
 refine AN (wpAny_runValue (Zda F.entry_proto_collect ?_))
 rw[ZbZ F.plain_proto_collect _]
 show wpAny _ A.in1 (newList [] >>=fun l=>again (.builtin "list.__iadd__" ⟨[l,.ref r],[]⟩)) _ _ s
 refine AN (ZbS ?_)
 refine Zak ⟨Zeg F.plain_list_iadd _,Zda F.entry_list_iadd ?_⟩
 rw[ZbZ F.plain_list_iadd _]
 have QB:(s.heap.push {cls:=.type "list",data:=.seq ([]:List Value).toArray}).get? s.heap.objs.size=some {cls:=.type "list",data:=.seq ([]:List Value).toArray} :=Zax _ rfl
 show wpAny _ A.in1 (Builtin.List.listExtendWith (.ref s.heap.objs.size) (.ref r) (.ref s.heap.objs.size)) _ _ _
 refine Zbu (wpAny_extend_range (A:=A) (R:=fun r s'=> ∃(h':Heap) (tk:Nat) (acc:Array Value) (c':Nat),r=.ok (.ret (.ref s.heap.objs.size))/\s'= {s with heap:=h',toks:=tk}/\(∀b o,s.heap.get? b=some o->h'.get? b=some o)/\h'.get? s.heap.objs.size=some {cls:=.type "list",dict:=none,data:=.seq acc c',slots:= #[]}/\ItemsOf (fun i v=> ∃t,v=.int (a+i*c) t) acc n)
  (s:= {s with heap:=s.heap.push {cls:=.type "list",data:=.seq ([]:List Value).toArray} }) hh (OF _ hr) Af hn hlen s.heap.objs.size (.ref s.heap.objs.size) 0 QB fun h' tk To c' hk eY gJ=> ⟨h',tk,To,c',rfl,rfl,fun b o e=>hk b o (ZaO (Zar e)) (OF _ e),eY,gJ⟩) (fun fin s' h=> ?_) (fun e s' h=> ?_)
 ·cases fin with
  |done f=>
   obtain⟨h',tk,acc,c',e,rfl,hk,eY,gJ⟩:=h
   cases e
   show wpAny _ A (load s.heap.objs.size >>=_) _ _ _
   refine AN (wpAny_load eY ?_)
   exact Zak (hQ h' tk acc hk gJ)
  |again c'=>
   refine⟨h.1,ZdQ h.2 fun r fM hr=> ?_⟩
   obtain⟨h',tk,acc,c',rfl,rfl,hk,eY,gJ⟩:=hr
   show wpAny _ A (load s.heap.objs.size >>=_) _ _ _
   refine AN (wpAny_load eY ?_)
   exact Zak (hQ h' tk acc hk gJ)
 ·obtain⟨_,_,_,_,e,_⟩:=h
  cases e
def J9 {Q:Value->Shared->Prop}{r:Addr}{a b c:Int}{t u v:Tok}{n:Nat}(hh:A.handled=none) (hr:IsRange s.heap r a b c t u v) (Af:Builtin.Range.small a b c=true)
  (hn:Builtin.Range.rangeSize a b c=n) (hlen:n<=2^24)
  (hQ:∀(h':Heap) (tk:Nat) (acc:Array Value),(∀b o,s.heap.get? b=some o->h'.get? b=some o)->ItemsOf (fun i v=> ∃t,v=.int (a+i*c) t) acc n->Q (.ref h'.objs.size) {s with heap:=h'.push {cls:=.type "tuple",data:=.seq acc},toks:=tk}):
  wpAny (model prog w) A (call (.type "tuple") [.ref r]) Q E s:=by
 refine callType_codes (Q₁:=fun obj aJ=>aJ.TypeIs obj "tuple" /\Q obj aJ) ZgW (F.typeCall_tuple_1 _) F.entry_object_init ?_ fun obj aJ gF=> ?_
 ·refine ZgG ?_
  show wpAny _ A.in1.in1 (do checkBuiltinCall "tuple.__new__" ⟨[.type "tuple",.ref r],[]⟩;again (.builtin "tuple.__new__" ⟨[.type "tuple",.ref r],[]⟩)) _ _ s
  refine AN (Zgi (F.newCall_tuple_1 _) (Zak ⟨Zeg F.plain_tuple_new _,Zda F.entry_tuple_new ?_⟩))
  rw[ZbZ F.plain_tuple_new _]
  have mf:=sub_tuple_self
  have aaB:=init_tuple_lookup
  have hmh:=madeHere_tuple
  have QA:s.TypeIs (.ref r) "range" :=⟨_,hr,rfl⟩
  wp_walk using wpAny_typeOf QA,Ud (A:=A.in1.in1) hh hr Af hn hlen
  intro h' tk acc hk gJ
  show wpAny _ _ (Builtin.Tuple.tupleExact acc.toList.toArray >>=fun v=>ret v) _ _ _
  unfold Builtin.Tuple.tupleExact
  refine AN (ZbS ?_ (by show acc.toList.toArray.size<=sizeLine;simp only[Array.toArray_toList];rw[gJ.1,ZaP];exact hlen))
  refine Zak ?_
  have e:acc.toList.toArray=acc:=by simp
  rw[e]
  exact⟨⟨_,Zax _ rfl,rfl⟩,hQ h' tk acc hk gJ⟩
 ·exact⟨gF.1,F.args_object_init_2 obj _,object_init_meets ZgW.init.lookup ZgW.made .d prog w A.in1 _ aJ ⟨gF.1,rfl,gF.2⟩⟩
end
section
variable {X:Cx}
def WT (hc:X.calm=true:=by rfl):dW X (.type "tuple") (fun xs H Q=> ∃(p:Addr) (j:Int),xs=[.ref p]/\H p=some (.fN 0 j)/\0<=j/\j<=1000/\∀q,H q=none->Q (.ref q) (upd H q (.tup (upTo j.toNat)))):=by
 intro pins s σ H xs us Q I r h
 obtain⟨p,j,rfl,hp,h0,h1,q⟩:=h
 obtain⟨u,rfl,ru⟩:=ZfU r
 cases ru
 obtain⟨t,u,v,e⟩:=(show bw X.prog X.w H s.heap p (.fN 0 j) from I.ai p _ hp)
 refine J9 (n:=j.toNat) (I.ok.hd hc) e (small_one .o .o .o .o) (by rw[Zg3];split<;>omega) .o fun h' tk acc hk gJ=> ?_
 have r2:=JL gJ
 have hlen:(upTo j.toNat).length<=sizeLine:=by unfold upTo;rw[Zat,Zcb,ZaP];omega
 have I1:Inv X pins σ H {s with heap:=h',toks:=tk} :=I.kept hk
 have ea:acc=acc.toList.toArray:=by simp
 have I2:Inv X pins σ (upd H h'.objs.size (.tup (upTo j.toNat))) {s with heap:=h'.push {cls:=.type "tuple",data:=.seq acc},toks:=tk} :=by
  rw[ea]
  exact I1.laid (t':=tk) (fun b o e=>OF _ e) (Zae _) (show bw X.prog X.w _ _ _ (.tup (upTo j.toNat)) from ⟨hlen,acc.toList,r2,IsTup.new _ _,_,Zax _ rfl,rfl⟩)
 exact⟨.ref h'.objs.size,_,I2,rfl,q _ (I1.ai.fresh (Zae _))⟩
end
def kZ (X:Cx) (N':List Str) (scope:Scope) (C:Addr) (s2:Shared) (H2:Hp) (fp:List Addr) (XE:Value->Shared->Prop):Cx:= {aS X N' scope C s2 H2 fp with xe:=XE}
def Vj {XE:Value->Shared->Prop}(I:Inv X pins σ H s):Inv {X with xe:=XE} pins σ H s:=
 ⟨⟨I.ok.mod,I.ok.kind,I.ok.glob,I.ok.blt,I.ok.above,I.ok.inj,I.ok.has,I.ok.kX,I.ok.hd,I.ok.frames,I.ok.mZ,I.ok.kW,I.ok.bs,I.ok.jy,I.ok.lO,I.ok.kU,I.ok.eI,I.ok.gL⟩,
  I.os,I.bare,I.base,I.loc,I.cell,I.free,I.gk,I.pin,I.ai,I.len⟩
section
variable {M:Model}{A:Around}{E:Value->Shared->Prop}{s:Shared}{base:Heap}{e:Addr}{cls a0 fl:Value}
def Zbf {fr:Option Addr}(kb:base.StaysIn s.heap) (ff:s.heap.FunFrames base l) (tr:s.heap.TracedAtW base e cls a0 fl)
  (q:∀h',base.StaysIn h'->h'.FunFrames base l->h'.TracedAtW base e cls a0 (fr.elim .none fun f=>rawInt f)->(∀b o,s.heap.get? b=some o->(∀vs,o.data≠.fields vs)->h'.get? b=some o)->Q () {s with heap:=h'}):wpAny M A (setFlight (.ref e) fr) Q E s:=by
 obtain⟨oe,vs,T,oT,ts,ge,gc,gd,g1,gn,oD,gT,jr,g3⟩:=tr
 have sz:3<ts.size:=(Zbq.mp g3).1
 generalize hu:(fr.elim Value.none fun f=>rawInt f)=u at q
 have kr:∀b,b≠T->(s.heap.update T (Obj.mapFields (·.setIfInBounds 3 u))).get? b=s.heap.get? b:=fun b z=>ZbQ s.heap _ (ZdL z)
 have nT:∀b o,s.heap.get? b=some o->(∀vs,o.data≠.fields vs)->b≠T:=fun b o hb nf z=>by
  rw[z,gT]at hb
  cases hb
  exact nf ts jr
 unfold setFlight
 refine AN (ZbR ge gd g1 ?_)
 rw[Zaq (by simp),hu]
 refine ZeW gT jr sz (q _ (fun b o hb=> (kr b fun z=> ?_).trans (kb b o hb)) (ff.of_keeps fun b o hb nf=> ⟨o,(kr b (nT b o hb nf)).trans hb,rfl⟩) ?_ fun b o hb nf=> (kr b (nT b o hb nf)).trans hb)
 ·rw[z,gn]at hb
  cases hb
 ·exact⟨oe,vs,T,_,_,(kr e (ZdL oD)).trans ge,gc,gd,g1,gn,oD,Zdl _ gT (Zfx (Zef jr _)),Zef jr _,by simp[sz]⟩
def X7 {env:Env}(fr:A.frames=some (env::outer)) (ff:s.heap.FunFrames base (env::outer)) (ef:env.frame=some L) (tr:s.heap.TracedAtW base e cls a0 fl) (kb:base.StaysIn s.heap) (en:base.get? e=none)
  (q:∀h',Heap.NotedW base (env::outer) e cls a0 (rawInt L) s.heap h'->Q () {s with heap:=h'}):wpAny M A (noteFrame (.ref e) env) Q E s:=by
 by_cases z:fl=rawInt L
 ·subst z
  exact wpAny_noteFrame_againW ef tr (q s.heap ⟨kb,ff,tr,fun b o hb _=> ⟨o.slots,hb⟩⟩)
 ·obtain⟨oe,vs,T,oT,ts,ge,⟨rfl,g0⟩,gd,g1,gn,oD,gT,jr,g3⟩:=tr
  have kr:∀b,b≠T->(s.heap.update T (Obj.mapFields (·.setIfInBounds 3 Value.none))).get? b=s.heap.get? b:=fun b z=>ZbQ s.heap _ (ZdL z)
  have nT:∀b o,s.heap.get? b=some o->(∀vs,o.data≠.fields vs)->b≠T:=fun b o hb nf z=>by
   rw[z,gT]at hb
   cases hb
   exact nf ts jr
  unfold noteFrame
  simp only[ef]
  refine AN (ZbR ge gd g1 ?_)
  rw[Zaq (by simp)]
  refine AN (ZbR gT jr g3 ?_)
  rw[Zam (by simpa using z)]
  refine AN (ZeW gT jr (Zbq.mp g3).1 ?_)
  refine wpAny_entryW fr (ff.of_keeps fun b o hb nf=> ⟨o,(kr b (nT b o hb nf)).trans hb,rfl⟩) ef ((kr e (ZdL oD)).trans ge) (fun b o hb=> (kr b fun z=> ?_).trans (kb b o hb)) en gd (Zbq.mp g1).1 g0
   fun h' ⟨x1,x2,x3,x4⟩=>q h' ⟨x1,x2,x3,fun b o hb nf=>x4 b o ((kr b (nT b o hb nf)).trans hb) nf⟩
  rw[z,gn]at hb
  cases hb
def WP {h h' bq:Heap}(sb:Heap.SameBut C h h') (hb:∀b,base.get? b=none->bq.get? b=none):∀{l:List Env},C∉aR l->h.FunFrames base l->h'.FunFrames bq l
 | [],_,_=>trivial
 |env::r,nc,⟨k,⟨L,o,ef,n,ho,nd⟩,rest⟩=>by
  have hm:aR (env::r)=L::aR r:=Zdm (f:=fun(x:Env)=>x.frame) ef
  rw[hm]at nc
  exact⟨k,⟨L,o,ef,hb L n,(sb.2 L fun z=>nc (by rw[z];exact Zau)).trans ho,nd⟩,WP sb hb (fun z=>nc (Zap _ z)) rest⟩
end
def TZ {h0 h1 h' B:Heap}(u:Un fs [] H0 H1 h0 h1) (fz:∀b∈fs,H0 b=none) (bK:∀b o,h0.get? b=some o->b∉fs->∃v,B.get? b=some v) (k1:B.StaysIn h1) (k2:B.StaysIn h')
  (up:∀b∈fs,∀o,h1.get? b=some o->∃sl,h'.get? b=some {o with slots:=sl}):Un fs [] H0 H1 h0 h':=by
 have kp:∀b o u,h1.get? b=some o->B.get? b=some u->h'.get? b=some o:=fun b o u h hu=>by
  have e1:=k1 b u hu
  rw[h]at e1
  cases e1
  exact k2 b _ hu
 refine⟨fun b o h n hf hx=> ?_,fun b o h n hf hx=> ?_,u.free,fun b o h hx=> ?_,u.eK,u.eJ,u.dY⟩
 ·obtain⟨v,hv⟩:=bK b o h hf
  exact kp b o v (u.keep b o h n hf hx) hv
 ·obtain⟨sl,q⟩:=u.slot b o h n hf hx
  obtain⟨pH,q'⟩:=up b hf _ q
  exact⟨pH,q'⟩
 ·by_cases hf:b∈fs
  ·obtain⟨sl,q⟩:=u.slot b o h (fz b hf) hf hx
   obtain⟨pH,q'⟩:=up b hf _ q
   exact⟨_,q'⟩
  ·obtain⟨v,hv⟩:=bK b o h hf
   exact⟨v,k2 b v hv⟩
section
variable {P:Program}{w:World}{K:Zht}{mg:Str->Option Value}{base:Heap}{N:List Str}{qual:Str}{scope:Scope}{f:Addr}{cd:Value}{A:Around}{outer:List Env}{s:Shared}{H:Hp}{E:XK}
abbrev Gi (P:Program) (w:World) (K:Zht) (mg:Str->Option Value) (base:Heap) (N:List Str) (qual:Str) (scope:Scope) (f:Addr) (cd:Value) (A:Around) (outer:List Env) (s:Shared) (H:Hp) (E:XK) (RE:Env) (C:Addr):Value->Shared->Prop:=
 notedBy (model P w) (A.deeper (envOfC qual scope s.heap.objs.size f cd)) RE fun x s'=> ∃m,s'.heap.Ns C m/\∀h',Heap.SameBut C s'.heap h'->∀oM:Env,oM.locals=C->wpAny (model P w) (A.deeper (envOfC qual scope s.heap.objs.size f cd)) (PySem.passOn "comprehension.variables-let-go" x oM:Sem Value) (fun _ _=>False) (aF (aC P w) P w K mg base N qual scope f cd A outer s H E).xe {s' with heap:=h'}
def MS {N':List Str}{sc:Scope}{C:Addr}{s2:Shared}{H2:Hp}{fp:List Addr}{pins:List (Addr×Obj)}{σ:St}(I2:Inv (aF (aC P w) P w K mg base N qual scope f cd A outer s H E) pins σ H2 s2) (hf:∀b∈fp,cC (aF (aC P w) P w K mg base N qual scope f cd A outer s H E) pins H2 b) (hC:s2.heap.objs.size<=C):
  Passes (aC P w) (kZ (aF (aC P w) P w K mg base N qual scope f cd A outer s H E) N' sc C s2 H2 fp (Gi P w K mg base N qual scope f cd A outer s H E (aS (aF (aC P w) P w K mg base N qual scope f cd A outer s H E) N' sc C s2 H2 fp).env C)) E:=by
 intro pl Cj H1 s1 ev s3 J h
 obtain⟨e,Cc,H',rfl,F,hE⟩:=h
 obtain⟨B,a0,fl,bK,fH⟩:=F.wU
 generalize hX:envOfC qual scope s.heap.objs.size f cd=env at *
 have ef:env.frame=some s.heap.objs.size:=by rw[<-hX];rfl
 have u1:Un (aR (env::outer)) fp H2 H1 s2.heap s1.heap:=by rw[<-hX];exact J.base
 have u3:Un (aR (env::outer)) [] H1 H' s1.heap s3.heap:=by rw[<-hX];exact F.un
 have IX:Inv (aF (aC P w) P w K mg base N qual scope f cd A outer s H E) pins σ H' s3:=by
  refine I2.Bn (ch:=fp) (F.os.trans J.os) ?_ F.ai F.bare fun b hb=> ?_
  ·have u:=u1.trans (u3.mono (fun _ z=>z) fun b z=>absurd z (by simp))
   rw[<-hX]at u
   exact u
  ·obtain⟨f0,f1,f2,f3,f4,f5⟩:=hf b hb
   exact⟨f3,f1,f4,f5⟩
 have nC:C∉aR (env::outer):=fun z=>by
  rw[<-hX]at z
  obtain⟨_,o,ho,_⟩:=I2.stack.mem z
  exact absurd (ZaE (Zar ho) hC) (ZbI _)
 have FF:H1 C=none:=J.free
 obtain⟨m,zE,_⟩:=J.loc
 have zE:s1.heap.Ns C m:=zE
 obtain⟨oC,es,ep,gC,dC,rC⟩:=zE
 have FE:H' C=none:=u3.free C oC gC FF (by simp)
 have Q9:=u3.keep C oC gC FF nC (by simp)
 have SW:=bK C oC gC (by show C∉aR ((aF (aC P w) P w K mg base N qual scope f cd A outer s H E).stack);rw[show(aF (aC P w) P w K mg base N qual scope f cd A outer s H E).stack=env::outer by rw[<-hX];rfl];exact nC)
 obtain⟨uC,bC⟩:=SW
 have Fz:(A.deeper env).frames=some (env::outer):=by have:=I2.ok.frames;rw[<-hX];exact this
 have fl:Heap.FlyingW B (env::outer) e (.ref Cc) a0 s3.heap:=by rw[<-hX];exact fl
 have RF:noteFrame (.ref e) (aS (aF (aC P w) P w K mg base N qual scope f cd A outer s H E) N' sc C s2 H2 fp).env=noteFrame (.ref e) env:=by rw[<-hX];rfl
 show wpAny (model P w) (A.deeper (envOfC qual scope s.heap.objs.size f cd)) (noteFrame (.ref e) (aS (aF (aC P w) P w K mg base N qual scope f cd A outer s H E) N' sc C s2 H2 fp).env) _ _ s3
 rw[RF,hX]
 refine wpAny_looks_onW Fz ef fl fun h1 hh up1=> ?_
 obtain⟨bV,mn,Qc,kK⟩:=hh
 have Rb:h1.get? C=some oC:=by
  have e1:=fl.1 C uC bC
  rw[Q9]at e1
  cases e1
  exact bV C _ bC
 refine⟨m,⟨oC,es,ep,Rb,dC,rC⟩,fun h2 sb oM _=> ?_⟩
 have bN:∀b,B.get? b=none->(PySem.W.hideAll B [C]).get? b=none:=fun b z=>by
  cases hq:(PySem.W.hideAll B [C]).get? b with
  |none=>rfl
  |some o=>rw[Zeb _ hq]at z;cases z
 have bS:∀b o,(PySem.W.hideAll B [C]).get? b=some o->b≠C/\B.get? b=some o:=fun b o z=>by
  refine⟨fun y=> ?_,Zeb _ z⟩
  rw[y,ZfF [C] (by simp)]at z
  cases z
 have bG:∀b u,B.get? b=some u->b≠C->(PySem.W.hideAll B [C]).get? b=some u:=fun b u z y=>Ze2 [C] z (by simpa using y)
 have fo:∀b,B.get? b=none->b≠C:=fun b z y=>by rw[y,bC]at z;cases z
 have k2:(PySem.W.hideAll B [C]).StaysIn h2:=fun b o z=>by
  obtain⟨y1,y2⟩:=bS b o z
  exact(sb.2 b y1).trans (bV b o y2)
 have k3:(PySem.W.hideAll B [C]).StaysIn s3.heap:=fun b o z=>fl.1 b o (bS b o z).2
 have t2:h2.TracedAtW (PySem.W.hideAll B [C]) e (.ref Cc) a0 (rawInt s.heap.objs.size):=by
  obtain⟨oe,vs,T,oT,ts,ge,gc,gd,g1,gn,oD,gT,jr,g3⟩:=kK
  exact⟨oe,vs,T,oT,ts,(sb.2 e (fo e mn)).trans ge,gc,gd,g1,bN T gn,oD,(sb.2 T (fo T gn)).trans gT,jr,g3⟩
 have Rw:h2.FunFrames (PySem.W.hideAll B [C]) (env::outer):=WP sb bN nC Qc
 have go:wpAny (model P w) (A.deeper env) (setFlight (.ref e) oM.frame) (fun _ s'=> (aF (aC P w) P w K mg base N qual scope f cd A outer s H E).xe (.ref e) s') (aF (aC P w) P w K mg base N qual scope f cd A outer s H E).xe {s3 with heap:=h2} :=by
  refine Zbf (s:= {s3 with heap:=h2}) k2 Rw t2 fun h4 k4 Rv t4 uu=> ?_
  show wpAny (model P w) (A.deeper (envOfC qual scope s.heap.objs.size f cd)) (leaving (envOfC qual scope s.heap.objs.size f cd) (.ref e)) _ _ _
  rw[hX]
  unfold leaving
  refine AN (X7 (s:= {s3 with heap:=h4}) Fz Rv ef t4 k4 (bN e mn) fun h5 ⟨k5,Ru,t5,ur⟩=> ?_)
  refine wpAny_setFlight_noneW (s:= {s3 with heap:=h5}) k5 Ru t5 fun h6 k6 Rt t6 xQ=> ?_
  have qr:aR (env::outer)=s.heap.objs.size::aR outer:=Zdm (f:=fun(x:Env)=>x.frame) ef
  have Gh:∀b o,s.heap.get? b=some o->b∉aR outer->∃v,(PySem.W.hideAll B [C]).get? b=some v:=fun b o hb hn=>by
   obtain⟨o2,e2⟩:=I2.base.there b o hb (by simp[aF])
   have lt:b<s.heap.objs.size:=Zar hb
   have nD:b∉fp:=fun z=>by
    rcases (hf b z).2.2.2.1 with y |y
    ·exact absurd (show b∈([]:List Addr) from y) (by simp)
    ·exact absurd (ZaE lt y) (ZbI _)
   obtain⟨o1,e1⟩:=u1.there b o2 e2 nD
   obtain⟨u,hu⟩:=bK b o1 e1 (by
    show b∉aR ((aF (aC P w) P w K mg base N qual scope f cd A outer s H E).stack)
    rw[show(aF (aC P w) P w K mg base N qual scope f cd A outer s H E).stack=env::outer by rw[<-hX];rfl,qr]
    intro z
    rcases Zao.mp z with y |y
    ·exact absurd lt (by rw[y];exact ZbI _)
    ·exact hn y)
   exact⟨u,bG b u hu fun y=>absurd (ZaE (Zar e2) hC) (by rw[y];exact ZbI _)⟩
  refine⟨e,Cc,H',rfl,⟨IX.os,F.bare,TZ IX.base I2.ok.gL (B:=PySem.W.hideAll B [C]) (fun b o hb hn=> ?_) k3 k6 (fun b hb o ho=> ?_),YT F.ai (fun b o hb=> ?_) k3 k6,PySem.W.hideAll B [C],a0,⟨k6,bN e mn,Rt.2.2,t6⟩,fun b o hb hn=> ?_,fun b o hb=> ?_⟩,hE⟩
  ·exact Gh b o hb hn
  ·have cT:b∈aR (env::outer):=by rw[qr];exact Zap _ hb
   have bc:b≠C:=fun z=>nC (by rw[<-z];exact cT)
   obtain⟨_,o3,ql,nf⟩:=fl.2.2.1.mem cT
   rw[ho]at ql
   cases ql
   obtain⟨yP,q1⟩:=up1 b o ho nf
   have q2:=(sb.2 b bc).trans q1
   have q4:=uu b _ q2 nf
   obtain⟨LK,q5⟩:=ur b _ q4 nf
   exact⟨LK,xQ b _ q5 nf⟩
  ·obtain⟨u,hu⟩:=fH b o hb
   exact⟨u,bG b u hu (Zi hb FE)⟩
  ·exact Gh b o hb hn
  ·obtain⟨u,hu⟩:=fH b o hb
   exact⟨u,bG b u hu (Zi hb FE)⟩
 obtain⟨oe,vs,T,oT,ts,ge,gc,gd,g1,gn,oD,gT,jr,g3⟩:=t2
 unfold PySem.passOn
 refine AN (ZbR (s:= {s3 with heap:=h2}) ge gd g1 ?_)
 rw[Zam (by simp)]
 first
  |exact AN (Zak (AN (Zbu go (fun _ _ q=>ZgY q) fun _ _ z=>z)))
  |exact AN (Zbu go (fun _ _ q=>ZgY q) fun _ _ z=>z)
end
def Lk (wi:TI) (ts:Nat) (br:List Nat) (g:TG) (tt:TT):TE:=fun σ H _=>wi σ H fun J H1=>J.go 0 H1/\∀x H',J.mU 0 H1 x H'->g x (jx ts br σ) H' fun aV H2=>tt aV H2 fun _ _=>False
section
variable {P:Program}{w:World}{K:Zht}{mg:Str->Option Value}{base:Heap}{N:List Str}{qual:Str}{scope:Scope}{f:Addr}{cd:Value}{A:Around}{outer:List Env}{s0:Shared}{H0:Hp}{E:XK}
def Xy {elt tg iter:Expr}{ifs:List Expr}{rest:List Comprehension}{sc:Scope}{pos:Pos}{wi:TI}{g:TG}{tt:TT}(N':List Str) (ts:Nat) (br:List Nat) (hi:PI (aF (aC P w) P w K mg base N qual scope f cd A outer s0 H0 E) tg iter wi)
  (pg:∀C s2 H2 fp XE,PG (kZ (aF (aC P w) P w K mg base N qual scope f cd A outer s0 H0 E) N' sc C s2 H2 fp XE) tg g)
  (pt:∀C s2 H2 fp XE,Passes (aC P w) (kZ (aF (aC P w) P w K mg base N qual scope f cd A outer s0 H0 E) N' sc C s2 H2 fp XE) E->lj (kZ (aF (aC P w) P w K mg base N qual scope f cd A outer s0 H0 E) N' sc C s2 H2 fp XE) ifs tt)
  (ok:qB (aF (aC P w) P w K mg base N qual scope f cd A outer s0 H0 E).env.scope sc (aF (aC P w) P w K mg base N qual scope f cd A outer s0 H0 E).N N' ts br=true:=by rfl) (h2:∀g',(Comprehension.mk tg iter ifs 0::rest)[0+1]? =some g'->g'.is_async=0:=by(intro g' h;cases h<;>rfl))
  (hs:∀x,foldedSetIterable iter (aF (aC P w) P w K mg base N qual scope f cd A outer s0 H0 E).env x=pure x:=by intro _;rfl):
  PE (aF (aC P w) P w K mg base N qual scope f cd A outer s0 H0 E) (.ListComp elt (⟨tg,iter,ifs,0⟩::rest) sc pos) (Lk wi ts br g tt):=by
 intro pins s' σ H' Q I' h
 have S:=JP ok
 rw[Zg6]
 refine Zeo (use:=none) rfl hs (Ya fun y hy e=>I'.ok.has _ (S.free y hy e)) S.kind S.names (aq (hi pins s' σ H' _ I' h) fun v s1 h1=>aq h1 fun kG s iL=> ?_)
 obtain⟨it,fp,tn,J,H,e,I,T,st,hf,q2⟩:=iL
 subst e
 refine ZbS (ZfI S.gQ (by intro y hy;simp at hy) (fun gF nZ mh=> ?_) S.kind)
 dsimp only at nZ mh |-
 generalize kP:s.heap.push {cls:=.type "list",dict:=none,data:=.seq ([]:List Value).toArray} =h0 at nZ mh |-
 have hC:h0.objs.size=s.heap.objs.size+1:=by rw[<-kP,Zdq]
 have oB:s.heap.objs.size<=h0.objs.size:=by rw[hC];exact Ze3 _
 have fo:∀b o,s.heap.get? b=some o->b≠h0.objs.size:=fun b o e=>ZaO (ZaE (Zar e) oB)
 have old:∀b o,s.heap.get? b=some o->gF.get? b=some o:=fun b o e=>mh.extBut b o (fo b o e) (OF _ (kP▸OF _ e))
 have ho:∀b∈fp,∃o,s.heap.get? b=some o:=fun b hb=>let ⟨o,e,_⟩:=T.obj _ _ st b hb;⟨o,e⟩
 have av:tn 0 gF:=T.keep _ _ _ st fun b _ o e=>old b o e
 have ps:=MS (N':=N') (sc:=sc) I hf oB
 generalize Qz:Gi P w K mg base N qual scope f cd A outer s0 H0 E (aS (aF (aC P w) P w K mg base N qual scope f cd A outer s0 H0 E) N' sc h0.objs.size s H fp).env h0.objs.size=XE at ps
 have I1:Inv (kZ (aF (aC P w) P w K mg base N qual scope f cd A outer s0 H0 E) N' sc h0.objs.size s H fp XE) [] (jx ts br σ) H {s with heap:=gF,toks:=s.toks+([]:List (Str×Value)).length} :=Vj (Hx S I hf ho oB nZ old)
 have A8:∀b∈fp,cC (kZ (aF (aC P w) P w K mg base N qual scope f cd A outer s0 H0 E) N' sc h0.objs.size s H fp XE) [] H b:=fun b hb=>by
  obtain⟨f0,f1,f2,f3,f4,f5⟩:=hf b hb
  refine⟨f0,(I1.ok.kW b hb).1,I1.ok.kU b hb,.inl hb,(I1.ok.kW b hb).2,fun p hp=>absurd (show p∈([]:List (Addr×Obj)) from hp) (by simp)⟩
 obtain⟨go,step⟩:=q2
 refine Jx rfl T av ?_
 refine codeAny_loop rfl (fun n s'=>s'= {s with heap:=gF,toks:=s.toks+([]:List (Str×Value)).length}) (fun n s3 e3=> ?_) 0 rfl
 subst e3
 show wpAny _ _ ((compTurn (.ListComp elt (⟨tg,iter,ifs,0⟩::rest) sc pos) 0 (.ref it) (.ref s.heap.objs.size) (aS (aF (aC P w) P w K mg base N qual scope f cd A outer s0 H0 E) N' sc h0.objs.size s H fp).env).onRaise (fun x=>do noteFrame x (aS (aF (aC P w) P w K mg base N qual scope f cd A outer s0 H0 E) N' sc h0.objs.size s H fp).env;theTreesLotGoes x)) _ _ _
 refine wpAny_noted (Zbu (E:=XE) ?_ (fun _ _ q=>q) fun x s4 z=>by rw[<-Qz]at z;exact z)
 rw[Wd elt tg iter ifs _ sc pos 0 (.ref it) _ _ rfl h2]
 refine AN (Zey (AN ?_))
 refine Zbu (T.item (kZ (aF (aC P w) P w K mg base N qual scope f cd A outer s0 H0 E) N' sc h0.objs.size s H fp XE) rfl rfl rfl rfl 0 _ _ _ _ XE I1 A8 av go) (fun r s4 ⟨u,hr,h4⟩=> ?_) fun _ _ z=>z
 subst hr
 refine AN (Zbu h4 (fun _ s5 ⟨x,H5,I5,r5,y5,dr,wQ⟩=> ?_) fun _ _ z=>z)
 refine AN (Zbu (pg _ _ _ _ XE _ s5 _ H5 x u _ I5 r5 (step x H5 y5)) (fun _ s6 ⟨mS,H6,I6,q6⟩=> ?_) fun _ _ z=>z)
 refine AN (Zbu (pt _ _ _ _ XE ps _ s6 mS H6 _ I6 q6) (fun b s7 ⟨H7,I7,q7⟩=>q7.elim) fun _ _ z=>z)
end
end L2
namespace U
open PySem L2 PyProof.Rows
def top (i:Nat):Stmt:=PySem.Challenge.pw_unlikesteps_k71_corners_put_to.main.body.getD i (.Pass ⟨0,0,0,0⟩)
structure Gs (mg:Str->Option Value):Prop where
 isinstance:mg "isinstance" =none
 int:mg "int" =none
 bool:mg "bool" =none
 tuple:mg "tuple" =none
 list:mg "list" =none
 len:mg "len" =none
 all:mg "all" =none
 set:mg "set" =none
 range:mg "range" =none
 max:mg "max" =none
 min:mg "min" =none
 enumerate:mg "enumerate" =none
 zip:mg "zip" =none
 sorted:mg "sorted" =none
 dict:mg "dict" =none
 longest:∃t,mg "LONGEST_SIDE" =some (.int 12 t)
 last:∃t,mg "LAST_CORNER" =some (.int 3 t)
section
def Zq {H:Hp}{p:Addr}{o:HO}(h:H p=none):ae H (upd H p o):=fun b u hb=>by rw[Zg (Zi hb h)];exact hb
def aH {H:Hp}{t:Addr}{o:HO}(h:H t=none):∃H',upd H t o=H'/\ae H H'/\H' t=some o:=⟨_,rfl,Zq h,Ze⟩
def XN (s:ae H H1) (n:H a=none):ae H (upd H1 a o):=fun b u e=>by
 rw[Zg fun z=>by rw[z,n]at e;cases e]
 exact s _ _ e
def Yb {D:Ends}(h:D.nx σ H):Cs D σ H:=h
def Zl {t u:TS}{D:Ends}{σ:L2.St}{H:Hp}(h:t {D with nx:=u D} σ H):iW t u D σ H:=h
def ZB {te:TE}{g:TG}{D:Ends}{σ:L2.St}{H:Hp}(h:te σ H fun v H1=>g v σ H1 D.nx):uE te g D σ H:=h
def Zt {i:Nat}{v:V}{σ:L2.St}{H:Hp}{Q:L2.St->Hp->Prop}(h:Q (σ.set i (some v)) H):cg i v σ H Q:=h
end
section
variable {P:Program}{w:World}{K:Zht}{mg:Str->Option Value}{base:Heap}
abbrev yV:Stmt:=top 19
def yh (K:Zht):Sp:=fun vs H Q _=> ∃x,vs=[x]/\bR K H x/\Q (.bl (whole x)) H
def LQ:bh ["thing"] ["thing"] (ay yV):=ZN (by decide+kernel)
def ZdB (F:aG K "is_whole" "is_whole" yV f fd) (G:Gs mg):aA P w K mg base aE 1 f fd ["thing"] (yh K):=by
 refine F.ok LQ (fun vs H Q E h=> ?_) (fun ao A outer s H vs Q E hr h=> ?_)
 ·obtain⟨x,rfl,_⟩:=h
  rfl
 ·obtain⟨x,rfl,⟨T,t⟩,q⟩:=h
  refine⟨_,Zj (Zw (YB (Zp (ZD (c:= "int")) rfl G.isinstance Zbx (Za (pv 0) (Za (ZJ (v:=.ty "int") rfl G.int boot_int rfl) Zb)))
   (Yz (TL (Zp (ZD (c:= "bool")) rfl G.isinstance Zbx (Za (pv 0) (Za (ZJ (v:=.ty "bool") rfl G.bool boot_bool rfl) Zb))))))),?_⟩
  refine⟨x,rfl,x,_,_,rfl,t,V1 t,_,rfl,?_⟩
  rw[ZaM]at q
  cases e:zW x with
  |false=>rw[e]at q;exact aP q
  |true=>rw[e]at q;exact aX ⟨x,rfl,x,_,_,rfl,t,XT t,_,rfl,q⟩
abbrev yT:Stmt:=top 20
def pB (K:Zht):Sp:=fun vs H Q _=> ∃x a b,vs=[x,.int a,.int b]/\bR K H x/\Q (.bl (bz x a b)) H
def LP:bh ["thing", "least", "most"] ["thing", "least", "most"] (ay yT):=ZN (by decide+kernel)
def Zcw (F:aG K "is_whole_within" "is_whole_within" yT f fd) (D1:Def P w K mg base 1 "is_whole" ["thing"] (yh K)):aA P w K mg base aE 2 f fd ["thing", "least", "most"] (pB K):=by
 refine F.ok LP (fun vs H Q E h=> ?_) (fun ao A outer s H vs Q E hr h=> ?_)
 ·obtain⟨x,a,b,rfl,_⟩:=h
  rfl
 ·obtain⟨x,a,b,rfl,t,q⟩:=h
  refine⟨_,Zj (Zw (YB (Zh D1 hr (Za (pv 0) Zb)) (Yz (Xx GA GA (pv 1) (pv 0) (pv 2))))),?_⟩
  refine⟨x,rfl,x,rfl,t,_,rfl,?_⟩
  cases x with
  |int i=>
   refine aX ⟨_,rfl,_,rfl,_,_,rfl,rfl,_,rfl,?_⟩
   have e:bz (.int i) a b=(decide (a<=i)&&decide (i<=b)):=rfl
   rw[e]at q
   cases e1:decide (a<=i) with
   |false=>rw[e1]at q;exact aP q
   |true=>rw[e1]at q;exact aX ⟨_,rfl,_,_,rfl,rfl,q⟩
  |_=>exact aP q
abbrev yW:Stmt:=top 22
def uM (K:Zht):Sp:=fun vs H Q _=> ∃x n,vs=[x,.int n]/\bR K H x/\Q (.bl (match bA H x with |some xs=>decide ((xs.length:Int)=n) |none=>false)) H
def LR:bh ["thing", "many"] ["thing", "many"] (ay yW):=ZN (by decide+kernel)
def ZdC (F:aG K "is_tuple_of" "is_tuple_of" yW f fd) (G:Gs mg):aA P w K mg base aE 1 f fd ["thing", "many"] (uM K):=by
 refine F.ok LR (fun vs H Q E h=> ?_) (fun ao A outer s H vs Q E hr h=> ?_)
 ·obtain⟨x,n,rfl,_⟩:=h
  rfl
 ·obtain⟨x,n,rfl,⟨T,t⟩,q⟩:=h
  refine⟨_,Zj (Zw (YB (Zp (ZD (c:= "tuple")) rfl G.isinstance Zbx (Za (pv 0) (Za (ZJ (v:=.ty "tuple") rfl G.tuple Zev rfl) Zb)))
   (Yz (Z5 Y4 (Zp ZG rfl G.len ZeU (Za (pv 0) Zb)) (pv 1) (bO _))))),?_⟩
  refine⟨x,rfl,x,_,_,rfl,t,ZcL t,_,rfl,?_⟩
  cases e:bA H x with
  |none=>rw[e]at q;exact aP q
  |some xs=>
   rw[e]at q
   obtain⟨a,rfl,ha⟩:=Zu e
   refine aX ⟨_,rfl,a,xs,rfl,.inr (ah.of ha),_,rfl,rfl,?_⟩
   have z:decide (V.int (xs.length:Int)=V.int n)=decide ((xs.length:Int)=n):=by simp
   rw[z]
   exact q
abbrev zj:Stmt:=top 23
def nP:Option (List V)->Bool
 |some [a,b]=>bz a 1 12&&bz b 1 12
 |_=>false
def fe (K:Zht) (H:Hp) (x:V):Prop:=bR K H x/\∀xs,bA H x=some xs->∀y∈xs,bR K H y
def uS (K:Zht):Sp:=fun vs H Q _=> ∃x,vs=[x]/\fe K H x/\∀H',ae H H'->Q (.bl (nP (bA H x))) H'
def LY:bh ["thing"] ["thing"] (ay zj):=ZN (by decide+kernel)
def X9 (F:aG K "is_board" "is_board" zj f fd) (G:Gs mg) (D1:Def P w K mg base 1 "is_tuple_of" ["thing", "many"] (uM K)) (D2:Def P w K mg base 2 "is_whole_within" ["thing", "least", "most"] (pB K)):
  aA P w K mg base aE 3 f fd ["thing"] (uS K):=by
 obtain⟨tk,hL⟩:=G.longest
 refine F.ok LY (fun vs H Q E h=> ?_) (fun ao A outer s H vs Q E hr h=> ?_)
 ·obtain⟨x,rfl,_⟩:=h
  rfl
 ·obtain⟨x,rfl,⟨t,hi⟩,q⟩:=h
  refine⟨_,Zj (Zw (YB (Zh D1 (hr.mono .d) (Za (pv 0) (Za Zd Zb)))
   (Yz (Zp JT rfl G.all boot_all (Za (Yc ["side"] 1 [] (BJ (pv 0)) (fun C s H fp=>pb 0) (fun C s H fp=>Z8)
    (fun C s H fp D=>ZI rfl (Zh D2 (hr.mono .d) (Za (pv 0) (Za Zd (Za (Yi (v:=.int 12) rfl hL ⟨_,rfl⟩) Zb)))))) Zb))))),?_⟩
  refine⟨x,rfl,x,2,rfl,t,_,rfl,?_⟩
  cases e:bA H x with
  |none=>rw[e]at q;exact aP (q H (ae.refl H))
  |some xs=>
   rw[e]at q
   obtain⟨a,rfl,ha⟩:=Zu e
   show if decide ((xs.length:Int)=2)=true then _ else _
   by_cases h2:xs.length=2
   ·rw[ZaT (show(xs.length:Int)=2 by omega)]
    refine aX ⟨_,rfl,a,rfl,⟨xs,ah.of ha⟩,?_⟩
    refine WC (xs:=xs) (fun i ys σ H2=>ys=(xs.take i).map (fun y=>V.bl (bz y 1 12))/\H2=H/\∃v,σ=[v]) ⟨rfl,rfl,none,rfl⟩ (fun i ys σ H2 _ ⟨_,e2,_⟩=>by rw[e2];exact ah.of ha) ?_ ?_
    ·rintro i y ys σ H2 hy ⟨rfl,rfl,v,rfl⟩
     have my:y∈xs:=Zbc hy
     refine⟨y,rfl,y,1,12,rfl,hi xs e y my,?_,?_⟩
     ·rw[Zat,ZaP,ZaU];omega
     ·refine⟨?_,rfl,_,rfl⟩
      rw[ZbO,hy,ZbC]
      rfl
    ·rintro ys σ H2 ⟨rfl,rfl,v,rfl⟩ p hp
     rw[Zb1]
     refine⟨p,xs.map (fun y=>bz y 1 12),rfl,?_,?_⟩
     ·rw[Zf1];exact ag.of Ze
     ·have e3:nP (some xs)=(xs.map (fun y=>bz y 1 12)).all id:=by
       match xs,h2 with
       | [a,b],_=>simp[nP]
      rw[<-e3]
      exact q _ fun b o hb=>by rw[Zg (Zi hb hp)];exact hb
   ·rw[ZaK (show ¬(xs.length:Int)=2 by omega)]
    have e3:nP (some xs)=false:=by
     match xs,h2 with
     | [],_=>rfl
     | [a],_=>rfl
     | [a,b],h=>exact absurd rfl h
     |a::b::c::r,_=>rfl
    rw[e3]at q
    exact aP (q H (ae.refl H))
abbrev zh:Stmt:=top 43
def yK (K:Zht):Sp:=fun vs H Q _=> ∃(a:Addr) (ns:List Int) (k:Nat),vs=[.ref a,.int k]/\ag K H a (ns.map V.int)/\∀n:Int,Q (.int n) H
def LW:bh ["_law_script", "_law_k"] ["_law_script", "_law_k"] (ay zh):=ZN (by decide+kernel)
def V8 (F:aG K "_law_cell_at" "_law_cell_at" zh f fd) (G:Gs mg):aA P w K mg base aE 1 f fd ["_law_script", "_law_k"] (yK K):=by
 refine F.ok LW (fun vs H Q E h=> ?_) (fun ao A outer s H vs Q E hr h=> ?_)
 ·obtain⟨a,ns,k,rfl,_⟩:=h
  rfl
 ·obtain⟨a,ns,k,rfl,hs,q⟩:=h
  refine⟨_,Zc (ZQ (ZO xn (pv 1) (Zp ZG rfl G.len ZeU (Za (pv 0) Zb)) (bO _)) (Zj (Zw (ZF ZY (pv 0) (pv 1) (fun _ _=>rfl)))) Zv) (Zj (Zw Zd)),?_⟩
  refine⟨_,rfl,_,rfl,a,ns.map V.int,rfl,.inl hs,_,_,rfl,rfl,_,rfl,?_⟩
  by_cases hk:k<ns.length
  ·rw[ZaT (by rw[Zat];omega)]
   refine aX ⟨_,rfl,_,rfl,a,ns.map V.int,k,V.int ns[k],rfl,rfl,hs,Yv ?_,q _⟩
   rw[ZbG,Zal hk]
   rfl
  ·rw[ZaK (by rw[Zat];omega)]
   exact aP (q 0)
def cj (H:Hp) (p:Addr):Prop:=∃u v:Int,H p=some (.lst [.int u,.int v])/\0<=u/\0<=v/\v<2147483647
abbrev yY:Stmt:=top 44
def yl (K:Zht):Sp:=fun vs H Q _=> ∃(a:Addr) (ns:List Int) (k:Nat),vs=[.ref a,.int k]/\ag K H a (ns.map V.int)/\∀p H',H p=none->ae H H'->cj H' p->Q (.ref p) H'
def CO:bh ["_law_script", "_law_k", "_law_cell"] ["_law_script", "_law_k"] (ay yY):=ZN (by decide+kernel)
def ZdD (F:aG K "_law_state" "_law_state" yY f fd) (G:Gs mg) (D1:Def P w K mg base 1 "_law_cell_at" ["_law_script", "_law_k"] (yK K)):aA P w K mg base aE 2 f fd ["_law_script", "_law_k"] (yl K):=by
 refine F.ok CO (fun vs H Q E h=> ?_) (fun ao A outer s H vs Q E hr h=> ?_)
 ·obtain⟨a,ns,k,rfl,_⟩:=h
  rfl
 ·obtain⟨a,ns,k,rfl,hs,q⟩:=h
  refine⟨_,Zc (Zy (i:=2) CO.nd rfl (Or.inl rfl) (Zh D1 hr (Za (pv 0) (Za (pv 1) Zb))))
   (Zj (Zw (ZH (Za (Zp (UK rfl) rfl G.max boot_max (Za Zd (Za (Zo ZU (pv 2) (Zo Wy Zd Zd)) Zb))) (Za (Zo Ju (pv 2) Zd) Zb))))),?_⟩
  refine⟨_,rfl,_,rfl,a,ns,k,rfl,hs,fun n=> ?_⟩
  refine⟨_,rfl,_,_,rfl,rfl,⟨.d,.d,.d⟩,_,_,rfl,rfl,_,_,rfl,?_⟩
  refine⟨_,rfl,_,_,rfl,rfl,(by show(0:Int)<2147483647;decide),aZ,fun p hp=>q p _ hp (fun b o hb=>by rw[Zg (Zi hb hp)];exact hb) ?_⟩
  refine⟨_,_,Ze,?_,Zes _ .d,ZdK _ .d⟩
  split<;>omega
abbrev yX:Stmt:=top 45
def ki:Sp:=fun vs H Q _=> ∃(p:Addr) (m:Int),vs=[.ref p,.int m]/\cj H p/\0<m/\m<1073741824/\∀r o,0<=r->r<m->cj (upd H p o) p->Q (.int r) (upd H p o)
def uU:bh ["_law_state_here", "_law_many", "_law_found", "_law_mixed"] ["_law_state_here", "_law_many"] (ay yX):=ZN (by decide+kernel)
def gM {x y:V} :gA [x,y] 0=some x:=rfl
def bQ :gA [x,y] 1=some y:=rfl
def Xb (F:aG K "_law_take" "_law_take" yX f fd):aA P w K mg base aE 1 f fd ["_law_state_here", "_law_many"] ki:=by
 refine F.ok uU (fun vs H Q E h=> ?_) (fun ao A outer s H vs Q E hr h=> ?_)
 ·obtain⟨p,m,rfl,_⟩:=h
  rfl
 ·obtain⟨p,m,rfl,⟨u,v,hp,hu,hv,OM⟩,hm,sJ,q⟩:=h
  refine⟨_,Zc (ZQ (ZO Va (ZF ZY (pv 0) Zd (fun _ _=>rfl)) (pv 1) (bO _))
    (Zc (Zy (i:=2) uU.nd rfl (Or.inl rfl) (Zo Ju (ZF ZY (pv 0) Zd (fun _ _=>rfl)) (pv 1)))
    (Zc (YK (Zo HP (ZF ZY (pv 0) Zd (fun _ _=>rfl)) (pv 1)) (GN (pv 0) Zd Iw)) (Zj (Zw (pv 2))))) Zv)
   (Zc (YK (Zo Ju (Zo ZT (Zo Wz (ZF ZY (pv 0) Zd (fun _ _=>rfl)) Zd) Zd) Zd) (GN (pv 0) Zd Iw))
   (Zc (Zy (i:=3) uU.nd rfl (Or.inl rfl) (Zo Ju (Zo ZT (Zo ZT (Zo Wz (ZF ZY (pv 0) Zd (fun _ _=>rfl)) (ZF ZY (pv 0) Zd (fun _ _=>rfl))) (Zo Wz Zd (ZF ZY (pv 0) Zd (fun _ _=>rfl)))) Zd) Zd))
   (Zc (Zy (i:=3) uU.nd rfl (Or.inl rfl) (Zo Ju (Zo ZT (Zo Wz (pv 3) (pv 3)) (Zo Wz Zd (pv 3))) Zd))
   (Zj (Zw (Zo Ju (Zo HP (pv 3) Zd) (pv 1))))))),?_⟩
  have s0:=ag.of (K:=K) hp
  refine⟨_,rfl,p,_,_,_,rfl,rfl,s0,gM,_,rfl,_,_,rfl,rfl,_,rfl,?_⟩
  by_cases h0:m<=u
  ·rw[ZaT h0]
   refine aX ?_
   refine⟨_,rfl,p,_,_,_,rfl,rfl,s0,gM,_,rfl,_,_,rfl,rfl,hm,?_⟩
   refine⟨_,rfl,p,_,_,_,rfl,rfl,s0,gM,_,rfl,_,_,rfl,rfl,⟨hm,.o⟩,?_⟩
   refine⟨_,rfl,p,_,0,0,rfl,rfl,hp,rfl,?_⟩
   refine⟨_,rfl,q _ _ (Zes _ .o) (ZdK _ hm) ?_⟩
   exact⟨u/m,v,Ze,Int.ediv_nonneg hu .o,hv,OM⟩
  ·rw[ZaK h0]
   refine aP ?_
   refine⟨_,rfl,p,_,_,_,rfl,rfl,s0,bQ,_,_,rfl,rfl,.inr ⟨.d,.d⟩,_,_,rfl,rfl,_,_,rfl,rfl,(by show(0:Int)<2147483647;decide),?_⟩
   refine⟨_,rfl,p,_,1,1,rfl,rfl,hp,rfl,?_⟩
   have b1:0<=((v*48271+29)%2147483647):=Zes _ .d
   have b2:((v*48271+29)%2147483647)<2147483647:=ZdK _ .d
   have s1:ag K (upd H p (.lst (([V.int u,V.int v]:List V).set 1 (V.int ((v*48271+29)%2147483647))))) p [.int u,.int ((v*48271+29)%2147483647)]:=ag.of Ze
   have lo:∀{t:Int},0<=t-> -(2^64)<t:=fun h=>Int.lt_of_lt_of_le .d h
   have hi:∀{t:Int},t<2147483647->t<2^64:=fun h=>Int.lt_trans h .d
   refine⟨_,rfl,p,_,_,_,rfl,rfl,s1,bQ,_,rfl,p,_,_,_,rfl,rfl,s1,bQ,_,_,rfl,rfl,.inl ⟨lo b1,hi b2⟩,?_⟩
   refine⟨_,rfl,p,_,_,_,rfl,rfl,s1,bQ,_,_,rfl,rfl,.inl ⟨.d,.d⟩,_,_,rfl,rfl,_,_,rfl,rfl,_,_,rfl,rfl,(by show(0:Int)<2147483629;decide),?_⟩
   have c1:0<=((((v*48271+29)%2147483647)*((v*48271+29)%2147483647)+39373*((v*48271+29)%2147483647)+7)%2147483629):=Zes _ .d
   have c2:((((v*48271+29)%2147483647)*((v*48271+29)%2147483647)+39373*((v*48271+29)%2147483647)+7)%2147483629)<2147483647:=Int.lt_trans (ZdK _ .d) .d
   refine⟨_,rfl,_,rfl,_,_,rfl,rfl,.inl ⟨lo c1,hi c2⟩,_,rfl,_,_,rfl,rfl,.inl ⟨.d,.d⟩,_,_,rfl,rfl,_,_,rfl,rfl,(by show(0:Int)<2147483587;decide),?_⟩
   refine⟨_,rfl,_,_,rfl,rfl,⟨.d,.d⟩,_,rfl,_,_,rfl,rfl,hm,?_⟩
   refine q _ _ (Zes _ .o) (ZdK _ hm) ?_
   exact⟨u,_,Ze,hu,b1,b2⟩
end
section
def Y8 (val:Nat->Int):∀n,((PyProof.Rows.firstMet val n).length=n↔((List.range n).map val).Nodup)
 |0=>by simp[PyProof.Rows.firstMet_zero]
 |n+1=>by
  have ih:=Y8 val n
  have le:=PyProof.Rows.firstMet_length_le val n
  rw[PyProof.Rows.firstMet_succ,PyProof.Rows.step_length,PyProof.Rows.firstMet_any,Zeq,ZbC]
  have e:(((List.range n).map val).any (· ==val n))=true↔val n∈(List.range n).map val:=by
   rw[List.any_eq_true]
   constructor
   ·rintro⟨x,hx,q⟩
    have:x=val n:=by simpa using q
    rw[<-this];exact hx
   ·intro h;exact⟨_,h,by simp⟩
  have nd:((List.range n).map val++List.map val [n]).Nodup↔((List.range n).map val).Nodup/\¬val n∈(List.range n).map val:=by
   rw[Zge]
   constructor
   ·rintro⟨h1,_,h3⟩
    exact⟨h1,fun m=>h3 _ m (val n) (by simp) rfl⟩
   ·rintro⟨h1,h2⟩
    refine⟨h1,by simp,fun a ha b hb q=>h2 ?_⟩
    have cT:b=val n:=by simpa using hb
    rw[<-cT,<-q];exact ha
  rw[nd,<-ih]
  by_cases m:val n∈(List.range n).map val
  ·rw[Zaq (e.mpr m)]
   constructor
   ·intro h;omega
   ·rintro⟨_,h⟩;exact absurd m h
  ·rw[Zam (fun z=>m (e.mp z))]
   constructor
   ·intro h;exact⟨.o,m⟩
   ·rintro⟨h,_⟩;omega
def Za1 (ns:List Int):pI ns=ns.length↔ns.Nodup:=by
 unfold pI
 rw[Y8]
 have e:(List.range ns.length).map (fun i=>ns.getD i 0)=ns:=by
  refine ZfA (by simp) fun i h1 h2=> ?_
  rw[Zgu,Zhg,ZbL,Zal h2,ZeA]
 rw[e]
def rowsOf (xs:List V):List V:=xs.filter fun x=> !decide (x=.af)
def bI (wd hg:Int):Option (List V)->Bool
 |some xs=>decide ((xs.length:Int)=wd)&&((rowsOf xs).all fun r=>bz r 0 (hg - 1))&&decide (rowsOf xs).Nodup
 |none=>false
def ck (H:Hp) (x:V) (wd hg:Int):Prop:=bA H x=some [.int wd,.int hg]/\1<=wd/\wd<=12/\1<=hg/\hg<=12
def ck.same (b:ck H x wd hg) (s:ae H H'):ck H' x wd hg:=⟨s.bA b.1,b.2⟩
def ck.is (b:ck H x wd hg):nP (bA H x)=true:=by
 obtain⟨h,h1,h2,h3,h4⟩:=b
 rw[h]
 show(decide (1<=wd)&&decide (wd<=12)&&(decide (1<=hg)&&decide (hg<=12)))=true
 simp[h1,h2,h3,h4]
def ck.pl {K:Zht}{H:Hp}{x:V}{wd hg:Int}(b:ck H x wd hg):fe K H x:=by
 obtain⟨a,rfl,ha⟩:=Zu b.1
 refine⟨⟨_,.tup ha⟩,fun xs e y hy=> ?_⟩
 rw[b.1]at e
 cases e
 rcases Zao.mp hy with z |hy
 ·rw[z];exact⟨_,.int wd⟩
 ·rw[ZaI.mp hy];exact⟨_,.int hg⟩
def ZaN {xs:List V}{lo hi:Int}(h:(xs.all fun r=>bz r lo hi)=true):∃ns:List Int,xs=ns.map V.int:=by
 induction xs with
 |nil=>exact⟨[],rfl⟩
 |cons x xs ih=>
  rw[Zgg,ZaR]at h
  obtain⟨ns,e⟩:=ih h.2
  cases x with
  |int i=>exact⟨i::ns,by rw[e];rfl⟩
  |_=>cases h.1
def Uw (ns:List Int):(ns.map V.int).Nodup↔ns.Nodup:=by
 induction ns with
 |nil=>simp
 |cons n ns ih=>rw[ZbJ,Zdv,Zdv,ih];simp
end
section
variable {P:Program}{w:World}{K:Zht}{mg:Str->Option Value}{base:Heap}
abbrev vc:Stmt:=top 24
def yr (K:Zht):Sp:=fun vs H Q _=> ∃x wd hg,vs=[x]/\ck H x wd hg/\∀H',ae H H'->Q .af H'
def CT:bh ["board"] ["board"] (ay vc):=ZN (by decide+kernel)
def U3 (F:aG K "need_board" "need_board" vc f fd) (D1:Def P w K mg base 3 "is_board" ["thing"] (uS K)):aA P w K mg base aE 4 f fd ["board"] (yr K):=by
 refine F.ok CT (fun vs H Q E h=> ?_) (fun ao A outer s H vs Q E hr h=> ?_)
 ·obtain⟨x,wd,hg,rfl,_⟩:=h
  rfl
 ·obtain⟨x,wd,hg,rfl,b,q⟩:=h
  refine⟨_,Zj (ZQ (ZZ (ZM (Zh D1 hr (Za (pv 0) Zb)))) Zr Zv),?_⟩
  refine⟨x,rfl,x,rfl,b.pl,fun H' sm=> ⟨_,rfl,?_⟩⟩
  rw[b.is]
  exact aP (q H' sm)
abbrev vh:Stmt:=top 26
def pF (K:Zht):Sp:=fun vs H Q _=> ∃x y wd hg,vs=[x,y]/\ck H x wd hg/\fe K H y/\∀H',ae H H'->Q (.bl (bI wd hg (bA H y))) H'
def rG:bh ["board", "thing", "wide", "high", "rows"] ["board", "thing"] (ay vh):=ZN (by decide+kernel)
def Vv (F:aG K "is_lay" "is_lay" vh f fd) (G:Gs mg) (D1:Def P w K mg base 4 "need_board" ["board"] (yr K)) (D2:Def P w K mg base 1 "is_tuple_of" ["thing", "many"] (uM K))
  (D3:Def P w K mg base 2 "is_whole_within" ["thing", "least", "most"] (pB K)):aA P w K mg base aE 5 f fd ["board", "thing"] (pF K):=by
 refine F.ok rG (fun vs H Q E h=> ?_) (fun ao A outer s H vs Q E hr h=> ?_)
 ·obtain⟨x,y,wd,hg,rfl,_⟩:=h
  rfl
 ·obtain⟨x,y,wd,hg,rfl,b,⟨ty,hy⟩,q⟩:=h
  refine⟨_,Zc (Zz (Zh D1 hr (Za (pv 0) Zb)))
   (Zc (YK (pv 0) (Z1 rfl (Zm (ZE (i:=2) rG.nd rfl (Or.inl rfl)) (Zm (ZE (i:=3) rG.nd rfl (Or.inr rfl)) ZR))))
   (Zc (ZQ (ZZ (ZM (Zh D2 (hr.mono .d) (Za (pv 1) (Za (pv 2) Zb))))) (Zj (Zw Wb)) Zv)
   (Zc (Jb ["row"] 1 [] (i:=4) rG.nd rfl (Or.inl rfl) (BJ (pv 1)) (fun C s H fp=>pb 0) (fun C s H fp=>Yr (YJ (Wl (pv 0)))) (fun C s H fp D=>ZI rfl (pv 0)))
   (Zj (Zw (YB (Zp JT rfl G.all boot_all (Za (Yc ["row", "high"] 1 [3] (Ys (pv 4)) (fun C s H fp=>pb 0) (fun C s H fp=>Z8)
     (fun C s H fp D=>ZI rfl (Zh D3 (hr.mono .d) (Za (pv 0) (Za Zd (Za (Zo ZU (pv 1) Zd) Zb)))))) Zb))
    (Yz (Z5 Y4 (Zp Ug rfl G.len ZeU (Za (Z2 Ue rfl G.set boot_set (Za (pv 4) Zb)) Zb)) (Zp ZG rfl G.len ZeU (Za (pv 4) Zb)) (bO _))))))))),?_⟩
  refine⟨x,rfl,x,wd,hg,rfl,b,fun H1 s1=> ?_⟩
  have b1:=b.same s1
  obtain⟨a,rfl,ha⟩:=Zu b1.1
  refine⟨_,rfl,a,_,rfl,ah.of ha,rfl,_,_,rfl,_,_,rfl,rfl,?_⟩
  refine⟨y,rfl,_,rfl,y,wd,rfl,s1.iD ty,_,rfl,?_⟩
  cases e:bA H y with
  |none=>
   have e1:bA H1 y=none:=by
    obtain⟨T,t⟩:=ty
    cases t with
    |tup e2=>rw[Zn e2]at e;cases e
    |lst e2=>rw[ZC,s1 _ _ e2];rfl
    |cJ e2=>rw[ZC,s1 _ _ e2];rfl
    |dK e2=>rw[ZC,s1 _ _ e2];rfl
    |dT e2=>rw[ZC,s1 _ _ e2];rfl
    |_=>rfl
   rw[e1]
   rw[e]at q
   exact aX (q H1 s1)
  |some xs=>
   have e1:=s1.bA e
   rw[e1]
   rw[e]at q
   obtain⟨l,rfl,hl⟩:=Zu e1
   by_cases hw:(xs.length:Int)=wd
   ·refine(show if (!decide ((xs.length:Int)=wd))=true then _ else _ from ?_)
    rw[ZaT hw]
    refine aP ?_
    have hwd:=b.2.2.1
    have hlen:xs.length<=12:=.o
    refine⟨_,rfl,l,rfl,⟨xs,ah.of hl⟩,?_⟩
    refine WC (xs:=xs) (fun i ys σ H2=>ys=rowsOf (xs.take i)/\H2=H1/\∃v,σ=[v]) ⟨rfl,rfl,none,rfl⟩ (fun i ys σ H2 _ ⟨_,e2,_⟩=>by rw[e2];exact ah.of hl) ?_ ?_
    ·rintro i r ys σ H2 dn ⟨rfl,rfl,v,rfl⟩
     have et:rowsOf (xs.take (i+1))=rowsOf (xs.take i)++(if (!decide (r=V.af))=true then [r] else []):=by
      unfold rowsOf
      rw[ZbO,dn,Zej]
      cases hh:(!decide (r=V.af)) with
      |true=>simp[hh]
      |false=>simp[hh]
     refine⟨r,rfl,_,rfl,?_⟩
     cases hh:(!decide (r=V.af)) with
     |true=>
      rw[hh]at et
      refine aX ?_
      refine⟨r,rfl,?_,?_⟩
      ·have:=ZeP (fun x=> !decide (x=V.af)) (xs.take i)
       unfold rowsOf
       rw[ZaP]
       rw[ZaU]at this
       omega
      ·exact⟨by rw[et,Zaq rfl],rfl,_,rfl⟩
     |false=>
      rw[hh]at et
      exact aP ⟨by rw[et,Zam Zav,ZbP],rfl,_,rfl⟩
    ·rintro ys σ H2 ⟨rfl,rfl,v,rfl⟩ p hp
     rw[Zb1]
     have hrl:(rowsOf xs).length<=12:=Zcd (ZeP _ _) hlen
     have s2:ae H2 (upd H2 p (.lst (rowsOf xs))):=fun b o hb=>by rw[Zg (Zi hb hp)];exact hb
     refine⟨_,rfl,p,rfl,⟨rowsOf xs,ag.of Ze⟩,?_⟩
     generalize Fo:upd H2 p (HO.lst (rowsOf xs))=H3 at s2
     have mj:H3 p=some (.lst (rowsOf xs)):=by rw[<-Fo];exact Ze
     refine Ye (xs:=rowsOf xs) (fun i ys σ H4=>ys=((rowsOf xs).take i).map (fun r=>V.bl (bz r 0 (hg - 1)))/\H4=H3/\∃v,σ=[v,some (.int hg)]) ⟨rfl,rfl,none,rfl⟩ (fun i ys σ H4 _ ⟨_,e2,_⟩=>by rw[e2];exact ag.of mj) ?_ ?_
     ·rintro i r ys σ H4 dn ⟨rfl,rfl,v,rfl⟩
      have mr:r∈xs:=(ZbM.mp (Zbc dn)).1
      refine⟨r,rfl,_,rfl,_,_,rfl,rfl,r,0,hg - 1,rfl,(s1.trans s2).iD (hy xs e r mr),?_,?_⟩
      ·rw[Zat,ZaP,ZaU];omega
      ·refine⟨?_,rfl,_,rfl⟩
       rw[ZbO,dn,ZbC]
       rfl
     ·rintro ys σ H4 ⟨rfl,rfl,v,rfl⟩ p' An
      rw[Zb1]
      have s3:∀o,ae H4 (upd H4 p' o):=fun o b u hb=>by rw[Zg (Zi hb An)];exact hb
      refine⟨p',(rowsOf xs).map (fun r=>bz r 0 (hg - 1)),rfl,?_,?_⟩
      ·rw[Zf1];exact ag.of Ze
      ·have Se:((rowsOf xs).map (fun r=>bz r 0 (hg - 1))).all id=(rowsOf xs).all fun r=>bz r 0 (hg - 1):=by rw[List.all_map];rfl
       rw[Se]
       have RJ:bI wd hg (some xs)=(((rowsOf xs).all fun r=>bz r 0 (hg - 1))&&decide (rowsOf xs).Nodup):=by
        show(decide ((xs.length:Int)=wd)&&_&&_)=_
        rw[ZaT hw,Bool.true_and]
       rw[RJ]at q
       refine⟨_,rfl,?_⟩
       cases dF:((rowsOf xs).all fun r=>bz r 0 (hg - 1)) with
       |false=>
        rw[dF]at q
        exact aP (q _ (s1.trans (s2.trans (s3 _))))
       |true=>
        rw[dF,Bool.true_and]at q
        obtain⟨ns,en⟩:=ZaN dF
        have eX:(upd H4 p' (.lst (((rowsOf xs).map (fun r=>V.bl (bz r 0 (hg - 1))))))) p=some (.lst (rowsOf xs)):=s3 _ _ _ mj
        refine aX ?_
        have hnl:ns.length=(rowsOf xs).length:=by rw[en,Zat]
        refine⟨_,rfl,p,ns,rfl,by rw[<-en];exact ag.of eX,.o,fun q2 S cw=> ⟨q2,S,pI ns,rfl,Ze,_,rfl,p,rowsOf xs,rfl,.inl (ag.of ?_),rfl,?_⟩⟩
        ·rw[Zg (Zi eX cw)];exact eX
        ·have ed:decide (V.int (pI ns:Int)=V.int ((rowsOf xs).length:Int))=decide (rowsOf xs).Nodup:=by
          rw[Zgx]
          rw[en,Uw,<-Za1,Zat]
          constructor
          ·intro h;injection h with h;omega
          ·intro h;rw[h]
         rw[ed]
         exact q _ (s1.trans (s2.trans ((s3 _).trans fun b o hb=>by rw[Zg (Zi hb cw)];exact hb)))
   ·refine(show if (!decide ((xs.length:Int)=wd))=true then _ else _ from ?_)
    rw[ZaK hw]
    have e3:bI wd hg (some xs)=false:=by
     show(decide ((xs.length:Int)=wd)&&_&&_)=false
     rw[ZaK hw,Zek,Zek]
    rw[e3]at q
    exact aX (q H1 s1)
end
section
abbrev tM:List Value:=[.type "ValueError",.type "Exception",.type "BaseException",.type "object"]
structure Exc (K:Zht) (mg:Str->Option Value) (n:Str) (c:Addr):Prop where
 m:mg n=some (.ref c)
 x:PySem.W.excIn K c tM "ValueError.__new__" =true
def iU (K:Zht) (H:Hp) (x:V):Prop:=fe K H x/\nP (bA H x)=false
def Wg {K:Zht}{H H1:Hp}{y:V}(ty:bR K H y) (s1:ae H H1) (e:bA H y=none):bA H1 y=none:=by
 obtain⟨T,t⟩:=ty
 cases t with
 |tup e2=>rw[Zn e2]at e;cases e
 |lst e2=>rw[ZC,s1 _ _ e2];rfl
 |cJ e2=>rw[ZC,s1 _ _ e2];rfl
 |dK e2=>rw[ZC,s1 _ _ e2];rfl
 |dT e2=>rw[ZC,s1 _ _ e2];rfl
 |_=>rfl
def Jq {K:Zht}{H H1:Hp}{y:V}(ty:bR K H y) (s1:ae H H1):bA H1 y=bA H y:=by
 cases e:bA H y with
 |none=>exact Wg ty s1 e
 |some xs=>exact s1.bA e
def fe.same {K:Zht}{H H1:Hp}{y:V}(p:fe K H y) (s1:ae H H1):fe K H1 y:=by
 refine⟨s1.iD p.1,fun xs e z hz=>s1.iD (p.2 xs ?_ z hz)⟩
 rw[<-Jq p.1 s1];exact e
def iU.same {K:Zht}{H H1:Hp}{x:V}(b:iU K H x) (s1:ae H H1):iU K H1 x:=⟨b.1.same s1,by rw[Jq b.1.1 s1];exact b.2⟩
end
section
variable {P:Program}{w:World}{K:Zht}{mg:Str->Option Value}{base:Heap}{cB cL:Addr}
def yy (K:Zht) (cB:Addr):Sp:=fun vs H _ E=> ∃x,vs=[x]/\iU K H x/\∀e H',ae H H'->E (.ref e) (some cB) H'
def W3 (F:aG K "need_board" "need_board" vc f fd) (G:Gs mg) (X:Exc K mg "NoBoard" cB) (D1:Def P w K mg base 3 "is_board" ["thing"] (uS K)):aA P w K mg base (aC P w) 4 f fd ["board"] (yy K cB):=by
 obtain⟨tk,hL⟩:=G.longest
 refine F.fO CT (fun vs H Q E h=> ?_) (fun ao A outer s H vs Q E hr h=> ?_)
 ·obtain⟨x,rfl,_⟩:=h
  rfl
 ·obtain⟨x,rfl,b,q⟩:=h
  refine⟨_,Zj (ZQ (ZZ (ZM (Zh D1 hr (Za (pv 0) Zb)))) (Zj (YQ Zdf X.m X.x rfl (Za (Xh ZS (Yi (v:=.int 12) rfl hL ⟨_,rfl⟩)) Zb))) Zv),?_⟩
  refine⟨x,rfl,x,rfl,b.1,fun H' sm=> ⟨_,rfl,?_⟩⟩
  rw[b.2]
  exact aX ⟨_,rfl,.d,12,rfl,.d,.d,fun z=> ⟨bZ,fun e=>q e H' sm⟩⟩
def uP (K:Zht) (cB:Addr):Sp:=fun vs H _ E=> ∃x y,vs=[x,y]/\iU K H x/\∀e H',ae H H'->E (.ref e) (some cB) H'
def V9 (F:aG K "is_lay" "is_lay" vh f fd) (D1:aY P w K mg base 4 "need_board" ["board"] (yy K cB)):aA P w K mg base (aC P w) 5 f fd ["board", "thing"] (uP K cB):=by
 refine F.fO rG (fun vs H Q E h=> ?_) (fun ao A outer s H vs Q E hr h=> ?_)
 ·obtain⟨x,y,rfl,_⟩:=h
  rfl
 ·obtain⟨x,y,rfl,b,q⟩:=h
  refine⟨_,Zc (Zz (ZW D1 hr (Za (pv 0) Zb))) Zr,?_⟩
  exact⟨x,rfl,x,rfl,b,q⟩
abbrev lJ:Stmt:=top 27
def lG (K:Zht):Sp:=fun vs H Q _=> ∃x y wd hg,vs=[x,y]/\ck H x wd hg/\fe K H y/\bI wd hg (bA H y)=true/\∀H',ae H H'->Q .af H'
def rE:bh ["board", "lay"] ["board", "lay"] (ay lJ):=ZN (by decide+kernel)
def zD (F:aG K "need_lay" "need_lay" lJ f fd) (D1:Def P w K mg base 5 "is_lay" ["board", "thing"] (pF K)):aA P w K mg base aE 6 f fd ["board", "lay"] (lG K):=by
 refine F.ok rE (fun vs H Q E h=> ?_) (fun ao A outer s H vs Q E hr h=> ?_)
 ·obtain⟨x,y,wd,hg,rfl,_⟩:=h
  rfl
 ·obtain⟨x,y,wd,hg,rfl,b,p,fu,q⟩:=h
  refine⟨_,Zj (ZQ (ZZ (ZM (Zh D1 hr (Za (pv 0) (Za (pv 1) Zb))))) Zr Zv),?_⟩
  refine⟨_,rfl,_,rfl,x,y,wd,hg,rfl,b,p,fun H1 s1=> ⟨_,rfl,?_⟩⟩
  rw[fu]
  exact aP (q H1 s1)
def Kl (K:Zht) (cB cL:Addr) (H:Hp) (x y:V) (C:Addr):Prop:=
 (C=cB/\iU K H x)∨(C=cL/\∃wd hg,ck H x wd hg/\fe K H y/\bI wd hg (bA H y)=false)
def yv (K:Zht) (cB cL:Addr):Sp:=fun vs H _ E=> ∃x y C,vs=[x,y]/\Kl K cB cL H x y C/\∀e H',ae H H'->E (.ref e) (some C) H'
def zC (F:aG K "need_lay" "need_lay" lJ f fd) (X:Exc K mg "NoLay" cL) (D1:Def P w K mg base 5 "is_lay" ["board", "thing"] (pF K)) (R1:aY P w K mg base 5 "is_lay" ["board", "thing"] (uP K cB)):aA P w K mg base (aC P w) 6 f fd ["board", "lay"] (yv K cB cL):=by
 refine F.fO rE (fun vs H Q E h=> ?_) (fun ao A outer s H vs Q E hr h=> ?_)
 ·obtain⟨x,y,C,rfl,_⟩:=h
  rfl
 ·obtain⟨x,y,C,rfl,b,q⟩:=h
  rcases b with ⟨rfl,b⟩ |⟨rfl,wd,hg,b,p,fu⟩
  ·refine⟨_,Zj (ZQ (ZZ (ZM (ZW R1 hr (Za (pv 0) (Za (pv 1) Zb))))) Zr Zv),?_⟩
   exact⟨x,rfl,y,rfl,x,y,rfl,b,q⟩
  ·refine⟨_,Zj (ZQ (ZZ (ZM (Zh D1 hr (Za (pv 0) (Za (pv 1) Zb))))) (Zj (YQ Zdf X.m X.x rfl (Za ZS Zb))) Zv),?_⟩
   refine⟨_,rfl,_,rfl,x,y,wd,hg,rfl,b,p,fun H1 s1=> ⟨_,rfl,?_⟩⟩
   rw[fu]
   exact aX ⟨bZ,fun e=>q e H1 s1⟩
end
section
def cj.same (h:cj H p) (s:ae H H'):cj H' p:=by
 obtain⟨u,v,e,r⟩:=h
 exact⟨u,v,s _ _ e,r⟩
def nh:V->Bool
 | .int _=>true
 | .bl _=>true
 | .str _=>true
 | .af=>true
 |_=>false
def HX {K:Zht}{H:Hp} :∀{v:V},nh v=true->bR K H v
 | .int i,_=> ⟨_,.int i⟩
 | .bl b,_=> ⟨_,.bl b⟩
 | .str x,_=> ⟨_,.str x⟩
 | .af,_=> ⟨_,.af⟩
end
section
variable {P:Program}{w:World}{K:Zht}{mg:Str->Option Value}{base:Heap}
abbrev pL:Stmt:=top 54
def ir (R:Hp->V->V->Prop):Sp:=fun vs H Q _=> ∃x y,vs=[x,y]/\R H x y/\∀H',ae H H'->Q (.bl true) H'
def R0 (_:Hp) (x y:V):Prop:=∃i:Int,x=.int i/\y=.int i
def R0.same (r:R0 H x y) (_:ae H H'):R0 H' x y:=r
def uV:bh ["_law_found", "_law_due_here"] ["_law_found", "_law_due_here"] (ay pL):=ZN (by decide+kernel)
def ZdF (F:aG K "_law_same" "_law_same" pL f fd) (G:Gs mg):aA P w K mg base aE 1 f fd ["_law_found", "_law_due_here"] (ir R0):=by
 refine F.ok uV (fun vs H Q E h=> ?_) (fun ao A outer s H vs Q E hr h=> ?_)
 ·obtain⟨x,y,rfl,_⟩:=h
  rfl
 ·obtain⟨x,y,rfl,⟨i,rfl,rfl⟩,q⟩:=h
  refine⟨_,Zc (ZQ (ZM (Zp (Zad (a:= "list") (b:= "tuple")) rfl G.isinstance Zbx (Za (pv 1) (Za (Zs (Za (ZJ (v:=.ty "list") rfl G.list Zfi rfl) (Za (ZJ (v:=.ty "tuple") rfl G.tuple Zev rfl) Zb))) Zb)))) Zr Zv)
   (Zc (ZQ (PW.pt (Jl (YJ (YL (pv 1))) (YI (YJ (YL (pv 0)))))) Zr Zv)
   (Zj (Zw (YB (Z5 Y4 (Zp (ZD (c:= "bool")) rfl G.isinstance Zbx (Za (pv 0) (Za (ZJ (v:=.ty "bool") rfl G.bool boot_bool rfl) Zb)))
     (Zp (ZD (c:= "bool")) rfl G.isinstance Zbx (Za (pv 1) (Za (ZJ (v:=.ty "bool") rfl G.bool boot_bool rfl) Zb))) (bO _))
    (Yz (Z5 Y4 (pv 0) (pv 1) (bO _))))))),?_⟩
  refine⟨_,rfl,aZ,fun t ht=> ?_⟩
  have s1:=Zq (o:=.tup [V.ty "list",V.ty "tuple"]) ht
  refine⟨_,t,_,_,rfl,ah.of Ze,.inl ⟨i,rfl,rfl⟩,(show _=some false from rfl),_,rfl,aP ?_⟩
  refine⟨_,rfl,_,rfl,aP ⟨_,rfl,_,rfl,aP ?_⟩⟩
  refine⟨_,rfl,_,_,_,rfl,.int i,(show _=some false from rfl),_,rfl,_,_,_,rfl,.int i,(show _=some false from rfl),rfl,_,rfl,?_⟩
  refine aX ⟨_,rfl,_,rfl,rfl,?_⟩
  have e:decide (V.int i=V.int i)=true:=ZaT rfl
  rw[e]
  exact q _ s1
def BQ (R:Hp->V->V->Prop) (H:Hp) (x y:V):Prop:=∃(a b:Addr) (xs ys:List V),x=.ref a/\y=.ref b/\H a=some (.tup xs)/\H b=some (.tup ys)/\Paired (R H) xs ys/\xs.length<=100
def Zcx (hR:∀{H H':Hp}{x y:V},R H x y->ae H H'->R H' x y) (F:aG K "_law_same" "_law_same" pL f fd) (G:Gs mg) (D:Def P w K mg base k "_law_same" ["_law_found", "_law_due_here"] (ir R)):
  aA P w K mg base aE (k+1) f fd ["_law_found", "_law_due_here"] (ir (BQ R)):=by
 refine F.ok uV (fun vs H Q E h=> ?_) (fun ao A outer s H vs Q E hr h=> ?_)
 ·obtain⟨x,y,rfl,_⟩:=h
  rfl
 ·obtain⟨x,y,rfl,⟨a,b,xs,ys,rfl,rfl,ha,hb,pr,hl⟩,q⟩:=h
  refine⟨_,Zc (ZQ (ZM (Zp (YM (a:= "list") (b:= "tuple")) rfl G.isinstance Zbx (Za (pv 1) (Za (Zs (Za (ZJ (v:=.ty "list") rfl G.list Zfi rfl) (Za (ZJ (v:=.ty "tuple") rfl G.tuple Zev rfl) Zb))) Zb))))
    (Zc (ZQ (PW.pt (Jl (ZO Ut (Zp (ZD (c:= "list")) rfl G.isinstance Zbx (Za (pv 0) (Za (ZJ (v:=.ty "list") rfl G.list Zfi rfl) Zb))) (Zp (ZD (c:= "list")) rfl G.isinstance Zbx (Za (pv 1) (Za (ZJ (v:=.ty "list") rfl G.list Zfi rfl) Zb))) (bO _))
      (YI (ZO Ut (Zp (ZD (c:= "tuple")) rfl G.isinstance Zbx (Za (pv 0) (Za (ZJ (v:=.ty "tuple") rfl G.tuple Zev rfl) Zb))) (Zp (ZD (c:= "tuple")) rfl G.isinstance Zbx (Za (pv 1) (Za (ZJ (v:=.ty "tuple") rfl G.tuple Zev rfl) Zb))) (bO _))))) Zr Zv)
    (Zj (Zw (YB (Z5 Y4 (Zp ZG rfl G.len ZeU (Za (pv 0) Zb)) (Zp ZG rfl G.len ZeU (Za (pv 1) Zb)) (bO _))
     (Yz (Zp JT rfl G.all boot_all (Za (Yc ["_law_one", "_law_other"] 2 [] (Xj rfl G.zip (Za (pv 0) (Za (pv 1) Zb)))
      (fun C s H fp=>show PG (aS _ _ _ C s H fp) _ (js K 2 (cV (cg 0) (cV (cg 1) jt))) from Z1 rfl (Zm (pb 0) (Zm (pb 1) ZR))) (fun C s H fp=>Z8)
      (fun C s H fp D'=>ZI rfl (Zh D hr (Za (pv 0) (Za (pv 1) Zb))))) Zb))))))) Zv) Zr,?_⟩
  refine⟨_,rfl,aZ,fun t ht=> ?_⟩
  obtain⟨H1,zz,s1,e1⟩:=aH (o:=.tup [V.ty "list",V.ty "tuple"]) ht
  rw[zz]
  have gK:=s1 _ _ ha
  have dN:=s1 _ _ hb
  refine⟨_,t,_,_,rfl,ah.of e1,.inr (.inr (.inr ⟨b,ys,rfl,dN,rfl⟩)),(show _=some true from rfl),_,rfl,aX ?_⟩
  refine⟨_,rfl,_,_,_,rfl,.tup gK,(show _=some false from rfl),_,rfl,_,_,_,rfl,.tup dN,(show _=some false from rfl),rfl,_,rfl,aP ?_⟩
  refine⟨_,rfl,_,_,_,rfl,.tup gK,(show _=some true from rfl),_,rfl,_,_,_,rfl,.tup dN,(show _=some true from rfl),rfl,_,rfl,aP ?_⟩
  have hlen:xs.length=ys.length:=Zcf pr
  refine⟨_,rfl,a,xs,rfl,.inr (ah.of gK),_,rfl,b,ys,rfl,.inr (ah.of dN),rfl,_,rfl,?_⟩
  have el:decide (V.int (xs.length:Int)=V.int (ys.length:Int))=true:=ZaT (by rw[hlen])
  rw[el]
  refine aX ⟨_,rfl,_,rfl,a,b,rfl,⟨xs,ys,ah.of gK,ah.of dN⟩,?_⟩
  refine ZcB (xs:=xs) (zs:=ys) hlen (fun i zs σ H2=> ∃v0 v1,σ=[v0,v1]/\ae H1 H2/\zs=List.replicate i (V.bl true)) ⟨_,_,rfl,ae.refl _,rfl⟩ (fun i zs σ H2 _ ⟨_,_,_,s2,_⟩=> ⟨ah.of (s2 _ _ gK),ah.of (s2 _ _ dN)⟩) ?_ ?_
  ·rintro i x y T zs σ H2 hx hy hT ⟨v0,v1,rfl,s2,rfl⟩
   obtain⟨y',i9,r⟩:=Jm pr hx
   rw[hy]at i9
   cases i9
   have sT:=Zq (o:=.par [x,y]) hT
   have hi:i<xs.length:=(Zab.mp hx).1
   refine⟨T,_,rfl,ah.pU Ze,rfl,_,_,rfl,_,_,rfl,rfl,?_⟩
   refine⟨x,rfl,y,rfl,x,y,rfl,hR r (s1.trans (s2.trans sT)),fun H3 s3=> ⟨by rw[Zc9,ZaP];omega,_,_,rfl,s2.trans (sT.trans s3),?_⟩⟩
   rw[ZgT]
  ·rintro zs σ H2 ⟨v0,v1,rfl,s2,rfl⟩ p hp
   refine⟨p,List.replicate xs.length true,rfl,?_,?_⟩
   ·rw[Zhh]
    exact ag.of Ze
   ·have e:(List.replicate xs.length true).all id=true:=by simp
    rw[e]
    exact q _ (s1.trans (s2.trans (Zq hp)))
end
section
def DA:List Str:=["NoBoard", "NoLay", "NoNumber", "NoPoints", "NoPoint", "NoPaper", "NoUnlike", "NoPrime", "NoRoot", "NoTurn", "TooFew", "TooMany", "NoText", "NoLine", "NoDeed"]
def qP:List Str:=["board", "lay", "number", "points", "point", "paper", "unlike", "prime"]
def qO:List Str:=["root", "turn", "few", "many", "text", "line", "deed"]
def wordOf (i:Nat):Str:=(qP++qO).getD i ""
structure il (K:Zht) (mg:Str->Option Value) (cS C:Addr) (iC:Nat):Prop where
 z:mQ K C
 ms:mg "StepError" =some (.ref cS)
 xs:PySem.W.exmOne K (.ref C) (.ref cS)=some true
 m:∀i,i<15->∃c,mg (DA.getD i "")=some (.ref c)/\PySem.W.kitOne K (.ref C) (.ref c)=some (decide (i=iC))
 mv:mg "ValueError" =none
 xv:PySem.W.kitOne K (.ref C) (.type "ValueError")=some true
 lt:iC<15
def cm (iC n:Nat):List V:=(List.range n).map fun i=>V.bl (decide (i=iC))
def WG (iC n:Nat):(cm iC n).all gp=true:=by
 unfold cm
 rw[List.all_map,Zbj]
 exact fun _ _=>rfl
def ZaB:∀iC,iC<15->(cm iC 15).countP (fun y=>fb y (.bl true))=1:=by decide+kernel
def X0 (h:iC<15):(cm iC 15)[iC]? =some (.bl true):=by
 unfold cm
 rw[ZbG,List.getElem?_range h]
 show some (V.bl (decide (iC=iC)))=_
 rw[ZaT rfl]
def X1 (h:m<iC) (e:(cm iC 15)[m]? =some y):fb y (.bl true)=false:=by
 unfold cm at e
 rw[ZbG]at e
 obtain⟨k,hk,rfl⟩:=Zbs.mp e
 have:k=m:=by
  have:=Zab.mp hk
  simpa using this.2.symm
 subst this
 show(decide (k=iC)==true)=false
 rw[ZaK .o]
 rfl
def Lc (K:Zht) (i:Nat) (u:Value):TE:=fun σ H Q=> ∃e C b,σ[i]? =some (some (.ref e))/\H e=some (jR e C)/\mQ K C/\PySem.W.kitOne K (.ref C) u=some b/\Q (.bl b) H
def YA {X:Cx}{p1 p2 p3 p4:Pos}(hi:X.mg "isinstance" =none) (hx:PE X (.Name y p2) (kg i)) (hm:X.mg n=some (.ref c)) (g1:Gl X "isinstance" :=by rfl) (g2:Gl X n:=by rfl) (hd:(n==("__debug__" :Str))=false:=by decide):
  PE X (.Call (.Name "isinstance" p1) [.Name y p2,.Name n p3] [] p4) (Lc X.K i (.ref c)):=by
 intro pins s σ H Q I h
 obtain⟨e,C,b,h1,h2,h3,h4,h5⟩:=h
 have z:PE X (.Call (.Name "isinstance" p1) [.Name y p2,.Name n p3] [] p4) _:=Zp JS g1 hi Zbx (Za hx (Za (Yi (v:=.ref c) g2 hm rfl hd) Zb))
 exact z pins s σ H Q I ⟨_,h1,e,C,_,_,_,rfl,h2,h3,fun _ h=>h,h4,h5⟩
end
section
variable {P:Program}{w:World}{K:Zht}{mg:Str->Option Value}{base:Heap}
abbrev yS:Stmt:=top 46
def ng (P:Program) (w:World) (K:Zht) (mg:Str->Option Value) (base:Heap) (cS:Addr) (k:Nat):Sp:=fun vs H Q _=> ∃f fd sp C iC,vs=[.ref f]/\il K mg cS C iC/\(∀s,bM P w H s->PySem.W.FnAt f s)/\aA P w K mg base (aC P w) k f fd [] sp/\
 (∀s,BindsTo s fd ⟨[],[]⟩ [])/\(∀Q' E',(∀e H',ae H H'->E' (.ref e) (some C) H')->sp [] H Q' E')/\∀H',ae H H'->Q (.str (wordOf iC)) H'
abbrev NK:List Str:=["_law_call", "_law_error", "e", "_law_marks", "_law_more", "_law_words"]
def iz:bh NK ["_law_call"] (ay yS):=ZN (by decide+kernel)
def Xc (F:aG K "_law_word" "_law_word" yS f fd) (G:Gs mg):aA P w K mg base aE (k+1) f fd ["_law_call"] (ng P w K mg base cS k):=by
 refine F.ok iz (fun vs H Q E h=> ?_) (fun ao A outer s H vs Q E hr h=> ?_)
 ·obtain⟨f,fd,sp,C,iC,rfl,_⟩:=h
  rfl
 ·obtain⟨f,fd,sp,C,iC,rfl,M,fG,Fl,AS,eG,q⟩:=h
  obtain⟨c0,m0,k0⟩:=M.m 0 .d
  obtain⟨c1,m1,k1⟩:=M.m 1 .d
  obtain⟨c2,m2,k2⟩:=M.m 2 .d
  obtain⟨c3,m3,k3⟩:=M.m 3 .d
  obtain⟨c4,m4,k4⟩:=M.m 4 .d
  obtain⟨c5,m5,k5⟩:=M.m 5 .d
  obtain⟨c6,m6,k6⟩:=M.m 6 .d
  obtain⟨c7,m7,k7⟩:=M.m 7 .d
  obtain⟨c8,m8,k8⟩:=M.m 8 .d
  obtain⟨c9,m9,k9⟩:=M.m 9 .d
  obtain⟨c10,N0,nN⟩:=M.m 10 .d
  obtain⟨c11,nG,Ou⟩:=M.m 11 .d
  obtain⟨c12,NZ,Ot⟩:=M.m 12 .d
  obtain⟨c13,NY,qe⟩:=M.m 13 .d
  obtain⟨c14,NX,Oq⟩:=M.m 14 .d
  have gi:=G.isinstance
  refine⟨_,Zc (Zy (i:=1) iz.nd rfl (Or.inl rfl) Yn)
   (Zc (Za3 (ic:=0) (ie:=2) rfl rfl rfl iz.nd rfl (Or.inl rfl) rfl rfl M.ms rfl hr (fun e=>Zj (Zy (i:=1) iz.nd rfl (Or.inl rfl) (pv 2))))
   (Zc (Zy (i:=3) iz.nd rfl (Or.inl rfl) (ZH (Za (YA gi (pv 1) m0) (Za (YA gi (pv 1) m1) (Za (YA gi (pv 1) m2) Zb)))))
   (Zc (Zy (i:=4) iz.nd rfl (Or.inl rfl) (ZH (Za (YA gi (pv 1) m3) (Za (YA gi (pv 1) m4) (Za (YA gi (pv 1) m5) Zb)))))
   (Zc (Zy (i:=3) iz.nd rfl (Or.inl rfl) (Zo Y0 (Zo Y0 (pv 3) (pv 4)) (ZH (Za (YA gi (pv 1) m6) (Za (YA gi (pv 1) m7) Zb)))))
   (Zc (Zy (i:=3) iz.nd rfl (Or.inl rfl) (Zo Y0 (pv 3) (ZH (Za (YA gi (pv 1) m8) (Za (YA gi (pv 1) m9) Zb)))))
   (Zc (Zy (i:=3) iz.nd rfl (Or.inl rfl) (Zo Y0 (pv 3) (ZH (Za (YA gi (pv 1) N0) (Za (YA gi (pv 1) nG) Zb)))))
   (Zc (Zy (i:=3) iz.nd rfl (Or.inl rfl) (Zo Y0 (pv 3) (ZH (Za (YA gi (pv 1) NZ) (Za (YA gi (pv 1) NY) Zb)))))
   (Zc (Zz (Yq Zbm Zby Zbz ZV (pv 3) (Za (YA gi (pv 1) NX) Zb)))
   (Zc (ZQ (YJ (YL (pv 1))) Zr Zv)
   (Zc (ZQ (PW.pt (Jl (ZO Ut (Yq Zbm PySem.F.slot_list_count PySem.F.type_list_count X4 (pv 3) (Za Wb Zb)) Zd (bO _))
     (YI (ZZ (ZM (Zp JS rfl gi Zbx (Za (pv 1) (Za (ZJ (v:=.ty "ValueError") rfl M.mv PyProof.Rows.Boot.«ValueError» rfl) Zb)))))))) Zr Zv)
   (Zc (Zy (i:=5) iz.nd rfl (Or.inl rfl) (ZH (Wx (vs:=qP.map V.str) rfl)))
   (Zc (Zy (i:=5) iz.nd rfl (Or.inl rfl) (Zo Y0 (pv 5) (ZH (Wx (vs:=qO.map V.str) rfl))))
   (Zj (Zw (ZF ZY (pv 5) (Yq Zbm PySem.F.slot_list_index PySem.F.type_list_index ZcE (pv 3) (Za Wb Zb)) (fun _ _=>rfl)))))))))))))))),?_⟩
  refine⟨f,fd,sp,rfl,fG,Fl,AS,eG _ _ fun e H1 s1=> ⟨e,C,rfl,rfl,M.xs,fun Qe=> ⟨_,rfl,?_⟩⟩⟩
  have s2:ae H1 (upd H1 e (jR e C)):=Zq Qe
  have he:upd H1 e (jR e C) e=some (jR e C):=Ze
  generalize upd H1 e (jR e C)=H2 at s2 he
  have sA:=s1.trans s2
  dsimp only[List.set]
  refine Zl (ZB ⟨e,C,_,rfl,he,M.z,k0,e,C,_,rfl,he,M.z,k1,e,C,_,rfl,he,M.z,k2,yf,fun l1 oa=>Zt ?_⟩)
  dsimp only
  show iW _ _ _ [some (.ref f),some (.ref e),none,some (.ref l1),none,none] (upd H2 l1 (.lst (cm iC 3)))
  obtain⟨H3,zz,t1,g1⟩:=aH (o:=.lst (cm iC 3)) oa
  rw[zz]
  have wG:=t1 _ _ he
  refine Zl (ZB ⟨e,C,_,rfl,wG,M.z,k3,e,C,_,rfl,wG,M.z,k4,e,C,_,rfl,wG,M.z,k5,yf,fun l2 gZ=>Zt ?_⟩)
  dsimp only
  show iW _ _ _ [some (.ref f),some (.ref e),none,some (.ref l1),some (.ref l2),none] (upd H3 l2 (.lst [V.bl (decide (3=iC)),V.bl (decide (4=iC)),V.bl (decide (5=iC))]))
  obtain⟨H4,zz,t2,g2⟩:=aH (o:=.lst [V.bl (decide (3=iC)),V.bl (decide (4=iC)),V.bl (decide (5=iC))]) gZ
  rw[zz]
  have Qd:=t2 _ _ wG
  refine Zl (ZB ⟨_,rfl,_,rfl,l1,l2,cm iC 3,_,rfl,rfl,t2 _ _ g1,g2,(by show 3+3<=sizeLine;decide),fun l3 mq=> ?_⟩)
  show ye _ _ (upd H4 l3 (.lst (cm iC 6))) _
  obtain⟨H5,zz,t3,g3⟩:=aH (o:=.lst (cm iC 6)) mq
  rw[zz]
  have AI:=t3 _ _ Qd
  refine⟨e,C,_,rfl,AI,M.z,k6,e,C,_,rfl,AI,M.z,k7,aZ,fun l4 wx=> ?_⟩
  obtain⟨H6,zz,t4,g4⟩:=aH (o:=.lst [V.bl (decide (6=iC)),V.bl (decide (7=iC))]) wx
  rw[zz]
  refine⟨l3,l4,cm iC 6,_,rfl,rfl,t4 _ _ g3,g4,(by show 6+2<=sizeLine;decide),fun l5 sN=>Zt ?_⟩
  dsimp only
  show iW _ _ _ [some (.ref f),some (.ref e),none,some (.ref l5),some (.ref l2),none] (upd H6 l5 (.lst (cm iC 8)))
  obtain⟨H7,zz,t5,g5⟩:=aH (o:=.lst (cm iC 8)) sN
  rw[zz]
  have AH:=t5 _ _ (t4 _ _ AI)
  refine Zl (ZB ⟨_,rfl,e,C,_,rfl,AH,M.z,k8,e,C,_,rfl,AH,M.z,k9,aZ,fun a8 Qu=> ?_⟩)
  obtain⟨Ha8,zz,uw,Q4⟩:=aH (o:=.lst [V.bl (decide (8=iC)),V.bl (decide (9=iC))]) Qu
  rw[zz]
  refine⟨l5,a8,cm iC 8,_,rfl,rfl,uw _ _ g5,Q4,(by show 8+2<=sizeLine;decide),fun b8 Qs=>Zt ?_⟩
  dsimp only
  show iW _ _ _ [some (.ref f),some (.ref e),none,some (.ref b8),some (.ref l2),none] (upd Ha8 b8 (.lst (cm iC 10)))
  obtain⟨Hb8,zz,mY,QZ⟩:=aH (o:=.lst (cm iC 10)) Qs
  rw[zz]
  have AF:=mY _ _ (uw _ _ AH)
  refine Zl (ZB ⟨_,rfl,e,C,_,rfl,AF,M.z,nN,e,C,_,rfl,AF,M.z,Ou,aZ,fun a10 Qx=> ?_⟩)
  obtain⟨aah,zz,uA,Q7⟩:=aH (o:=.lst [V.bl (decide (10=iC)),V.bl (decide (11=iC))]) Qx
  rw[zz]
  refine⟨b8,a10,cm iC 10,_,rfl,rfl,uA _ _ QZ,Q7,(by show 10+2<=sizeLine;decide),fun b10 Qt=>Zt ?_⟩
  dsimp only
  show iW _ _ _ [some (.ref f),some (.ref e),none,some (.ref b10),some (.ref l2),none] (upd aah b10 (.lst (cm iC 12)))
  obtain⟨aaE,zz,xW,Q0⟩:=aH (o:=.lst (cm iC 12)) Qt
  rw[zz]
  have AG:=xW _ _ (uA _ _ AF)
  refine Zl (ZB ⟨_,rfl,e,C,_,rfl,AG,M.z,Ot,e,C,_,rfl,AG,M.z,qe,aZ,fun a12 Qw=> ?_⟩)
  obtain⟨aag,zz,uy,Q5⟩:=aH (o:=.lst [V.bl (decide (12=iC)),V.bl (decide (13=iC))]) Qw
  rw[zz]
  refine⟨b10,a12,cm iC 12,_,rfl,rfl,uy _ _ Q0,Q5,(by show 12+2<=sizeLine;decide),fun b12 EY=>Zt ?_⟩
  dsimp only
  show iW _ _ _ [some (.ref f),some (.ref e),none,some (.ref b12),some (.ref l2),none] (upd aag b12 (.lst (cm iC 14)))
  obtain⟨qH,zz,Cr,A4⟩:=aH (o:=.lst (cm iC 14)) EY
  rw[zz]
  have wF:=Cr _ _ (uy _ _ AG)
  have sB:ae H qH:=s1.trans (s2.trans (t1.trans (t2.trans (t3.trans (t4.trans (t5.trans (uw.trans (mY.trans (uA.trans (xW.trans (uy.trans (Cr))))))))))))
  refine Zl ⟨_,rfl,.inl ⟨rfl,_,ag.of A4⟩,e,C,_,rfl,wF,M.z,Oq,b12,_,_,rfl,rfl,A4,(by show 14<sizeLine;decide),?_⟩
  show iW _ _ _ [some (.ref f),some (.ref e),none,some (.ref b12),some (.ref l2),none] (upd qH b12 (.lst (cm iC 15)))
  have NG:H b12=none:=(s1.trans (s2.trans (t1.trans (t2.trans (t3.trans (t4.trans (t5.trans (uw.trans (mY.trans (uA.trans (xW.trans uy))))))))))).free EY
  have sC:ae H (upd qH b12 (.lst (cm iC 15))):=XN sB NG
  have ES:upd qH b12 (.lst (cm iC 15)) e=some (jR e C):=by rw[Zg (fun z=>by rw[z,A4]at wF;cases wF)];exact wF
  have gc:upd qH b12 (.lst (cm iC 15)) b12=some (.lst (cm iC 15)):=Ze
  generalize upd qH b12 (HO.lst (cm iC 15))=Hc at sC ES gc
  refine Zl ⟨_,rfl,_,rfl,aP ?_⟩
  refine Yb ?_
  dsimp only
  refine Zl ⟨_,rfl,.inl ⟨rfl,_,ag.of gc⟩,b12,_,_,rfl,rfl,ag.of gc,rfl,WG _ _,?_⟩
  rw[ZaB iC M.lt]
  refine⟨rfl,_,rfl,aP ⟨_,rfl,e,C,_,_,_,rfl,ES,M.z,fun _ h=>h,M.xv,_,rfl,aP ?_⟩⟩
  refine Yb ?_
  dsimp only
  refine Zl (ZB ⟨Lw,fun d1 Ql=>Zt ?_⟩)
  dsimp only
  show iW _ _ _ [some (.ref f),some (.ref e),none,some (.ref b12),some (.ref l2),some (.ref d1)] _
  obtain⟨Hd,zz,u1,v1⟩:=aH (o:=.lst (qP.map V.str)) Ql
  rw[zz]
  refine Zl (ZB ⟨_,rfl,Cw,fun d2 hd2=> ?_⟩)
  obtain⟨He,zz,u2,v2⟩:=aH (o:=.lst (qO.map V.str)) hd2
  rw[zz]
  refine⟨d1,d2,_,_,rfl,rfl,u2 _ _ v1,v2,(by show 8+7<=sizeLine;decide),fun d3 Qk=>Zt ?_⟩
  dsimp only
  show ya _ _ [some (.ref f),some (.ref e),none,some (.ref b12),some (.ref l2),some (.ref d3)] _
  obtain⟨Hf,zz,u3,v3⟩:=aH (o:=.lst (qP.map V.str++qO.map V.str)) Qk
  rw[zz]
  have gf:=u3 _ _ (u2 _ _ (u1 _ _ gc))
  refine⟨_,rfl,_,rfl,.inl ⟨rfl,_,ag.of gf⟩,b12,_,_,iC,rfl,rfl,ag.of gf,rfl,WG _ _,⟨_,X0 M.lt,rfl⟩,fun m y h e=>X1 h e,?_⟩
  refine⟨d3,_,_,_,rfl,rfl,ag.of v3,Yv (v:=.str (wordOf iC)) ?_,q _ (sC.trans (u1.trans (u2.trans u3)))⟩
  rw[<-ZbC,ZbG]
  unfold wordOf
  have hl:iC< (qP++qO).length:=M.lt
  rw[Zal hl,ZbL,Zal hl]
  rfl
end
section
def vC:Lit->Bool
 | .sc v=>nh v
 | .tup xs=>xs.all nh
 |_=>true
def DO:Lit->Option (List V)
 | .tup xs=>some xs
 |_=>none
def U6 :∀{l:Lit},vC l=true->jZ H v l->bA H v=DO l
 | .sc u,hp,h=>by
  have h':v=u:=h
  subst h'
  cases v with
  |ref a=>cases hp
  |_=>rfl
 | .tup xs,_,⟨a,e,h⟩=>by rw[e,Zn h];rfl
 | .lst xs,_,⟨a,e,h⟩=>by rw[e,ZC,h];rfl
 | .hW,_,⟨a,e,h⟩=>by rw[e,ZC,h];rfl
def Vp {K:Zht}{H:Hp}{v:V} :∀{l:Lit},vC l=true->jZ H v l->fe K H v
 | .sc u,hp,h=>by
  have h':v=u:=h
  subst h'
  refine⟨HX hp,fun xs e y hy=> ?_⟩
  rw[U6 (l:=.sc v) hp rfl]at e
  cases e
 | .tup xs,hp,⟨a,e,h⟩=>by
  subst e
  refine⟨⟨_,.tup h⟩,fun ys e y hy=> ?_⟩
  rw[Zn h]at e
  cases e
  exact HX (Zbj.mp hp y hy)
 | .lst xs,hp,⟨a,e,h⟩=>by
  subst e
  refine⟨⟨_,.lst h⟩,fun ys e y hy=> ?_⟩
  rw[ZC,h]at e
  cases e
 | .hW,hp,⟨a,e,h⟩=>by
  subst e
  refine⟨⟨_,.dK h⟩,fun ys e y hy=> ?_⟩
  rw[ZC,h]at e
  cases e
def jY (p:Addr) (H:Hp) (v:V):Prop:=v≠.ref p/\∀xs,bA H v=some xs->∀y∈xs,y≠.ref p
def JB {K:Zht}{H H':Hp}{p:Addr}{v:V}(t:bR K H v) (s:au p H H') (hn:v≠.ref p):bA H' v=bA H v:=by
 obtain⟨T,t⟩:=t
 cases t with
 |tup e=>rw[Zn e,Zn (s _ _ e fun z=>hn (by rw[z]))]
 |lst e=>rw[ZC,ZC,e,s _ _ e fun z=>hn (by rw[z])]
 |cJ e=>rw[ZC,ZC,e,s _ _ e fun z=>hn (by rw[z])]
 |dK e=>rw[ZC,ZC,e,s _ _ e fun z=>hn (by rw[z])]
 |dT e=>rw[ZC,ZC,e,s _ _ e fun z=>hn (by rw[z])]
 |_=>rfl
def YR {K:Zht}{H H':Hp}{p:Addr}{v:V}(t:bR K H v) (s:au p H H') (hn:v≠.ref p):bR K H' v:=by
 obtain⟨T,t⟩:=t
 cases t with
 |tup e=>exact⟨_,.tup (s _ _ e fun z=>hn (by rw[z]))⟩
 |lst e=>exact⟨_,.lst (s _ _ e fun z=>hn (by rw[z]))⟩
 |cJ e=>exact⟨_,.cJ (s _ _ e fun z=>hn (by rw[z]))⟩
 |dK e=>exact⟨_,.dK (s _ _ e fun z=>hn (by rw[z]))⟩
 |dT e=>exact⟨_,.dT (s _ _ e fun z=>hn (by rw[z]))⟩
 |af=>exact⟨_,.af⟩
 |bl b=>exact⟨_,.bl b⟩
 |int i=>exact⟨_,.int i⟩
 |str x=>exact⟨_,.str x⟩
 |hG x=>exact⟨_,.hG x⟩
def Bz {K:Zht}{H H':Hp}{p:Addr}{v:V}(t:fe K H v) (s:au p H H') (n:jY p H v):fe K H' v:=by
 refine⟨YR t.1 s n.1,fun xs e y hy=> ?_⟩
 rw[JB t.1 s n.1]at e
 exact YR (t.2 xs e y hy) s (n.2 xs e y hy)
def HJ {K:Zht}{H H':Hp}{p q:Addr}{v:V}(t:bR K H v) (s:au q H H') (hq:v≠.ref q) (n:jY p H v):jY p H' v:=⟨n.1,fun xs e=>n.2 xs (by rw[<-JB t s hq];exact e)⟩
def BD {K:Zht}{H H':Hp}{p:Addr}{v:V}(b:iU K H v) (s:au p H H') (n:jY p H v):iU K H' v:=⟨Bz b.1 s n,by rw[JB b.1.1 s n.1];exact b.2⟩
end
section
variable {P:Program}{w:World}{K:Zht}{mg:Str->Option Value}{base:Heap}
abbrev pM:Stmt:=top 51
def zG:List Lit:=[.sc .af,.tup [.int 0,.int 3],.tup [.int 3,.int 13],.tup [.int 13,.int 13],.lst [.int 3,.int 3],.tup [.int 3],.tup [.int 3,.int 3,.int 3],.tup [.bl true,.int 3],.tup [.int 3,.str "3"],.sc (.int 7)]
def Gv (l:Lit):Bool:=vC l&& !nP (DO l)
def V5:zG.all Gv=true:=by decide+kernel
def yq (K:Zht):Sp:=fun vs H Q _=> ∃p:Addr,vs=[.ref p]/\cj H p/\∀v H',au p H H'->cj H' p->iU K H' v->jY p H' v->Q v H'
def zF:List Expr:=match dB pM with | .Assign _ (.List es _) _::_=>es |_=> []
def Nv (a:List Expr):List Stmt:=match dB pM with
 | .Assign x (.List _ p1) p2::r=> .Assign x (.List a p1) p2::r
 |_=> []
def V7:dB pM=Nv zF:=by kernel_rfl
def V6:litsOf zF=some zG:=by kernel_rfl
def CS:bh ["_law_state_here", "_law_some"] ["_law_state_here"] (ay pM):=ZN (by decide+kernel)
def XZ {H H':Hp}{p:Addr}{v:V} :∀{l:Lit},jZ H v l->(∀a:Addr,v=.ref a->a≠p)->au p H H'->jZ H' v l
 | .sc _,h,_,_=>h
 | .tup _,⟨a,e,h⟩,n,s=> ⟨a,e,s _ _ h (n a e)⟩
 | .lst _,⟨a,e,h⟩,n,s=> ⟨a,e,s _ _ h (n a e)⟩
 | .hW,⟨a,e,h⟩,n,s=> ⟨a,e,s _ _ h (n a e)⟩
def ZcJ (hp:vC l=true) (h:jZ H v l) (n:∀a:Addr,v=.ref a->a≠p):jY p H v:=by
 refine⟨fun z=>n p z rfl,fun xs e y hy z=> ?_⟩
 rw[U6 hp h]at e
 cases l with
 |tup ys=>
  cases e
  have:=Zbj.mp (show xs.all nh=true from hp) y hy
  rw[z]at this
  cases this
 |_=>cases e
def Tu (F:aG K "_law_no_board" "_law_no_board" pM f fd) (D1:Def P w K mg base 1 "_law_take" ["_law_state_here", "_law_many"] ki):aA P w K mg base aE 2 f fd ["_law_state_here"] (yq K):=by
 refine F.ok CS (fun vs H Q E h=> ?_) (fun ao A outer s H vs Q E hr h=> ?_)
 ·obtain⟨p,rfl,_⟩:=h
  rfl
 ·obtain⟨p,rfl,st,q⟩:=h
  rw[V7]
  have i1:=V6
  generalize zF=qy at i1
  refine⟨_,Zc (Zy (i:=1) CS.nd rfl (Or.inl rfl) (ZH (HQ (ls:=zG) i1))) (Zj (Zw (ZF ZY (Zo Y0 (pv 1) (ZH (Za (Zs (Za (Zs (Za Zd Zb)) (Za Zd Zb))) (Za (Zs (Za Zd (Za Yn Zb))) Zb)))) (Zh D1 hr (Za (pv 0) (Za Zd Zb))) (fun _ _=>rfl)))),?_⟩
  refine Zl (ZB fun dX H1 s1 Dd n1=> ?_)
  have l1:dX.length=10:=Zcf Dd
  refine⟨by rw[l1];decide,fun L1 f9=>Zt ?_⟩
  have s2:ae H1 (upd H1 L1 (.lst dX)):=Zq f9
  have eL:upd H1 L1 (.lst dX) L1=some (.lst dX):=Ze
  generalize upd H1 L1 (HO.lst dX)=H2 at s2 eL
  dsimp only[List.set]
  refine⟨_,rfl,bZ,fun a1 gK=> ?_⟩
  obtain⟨H3,zz,s3,e3⟩:=aH (o:=.tup [V.int 1]) gK
  rw[zz]
  refine⟨aZ,fun a2 Ff=> ?_⟩
  obtain⟨H4,zz,s4,e4⟩:=aH (o:=.tup [V.ref a1,V.int 2]) Ff
  rw[zz]
  refine⟨aZ,fun a3 Fe=> ?_⟩
  obtain⟨H5,zz,s5,e5⟩:=aH (o:=.tup [V.int 2,V.af]) Fe
  rw[zz]
  refine⟨aZ,fun L2' jq=> ?_⟩
  obtain⟨H6,zz,s6,e6⟩:=aH (o:=.lst [V.ref a2,V.ref a3]) jq
  rw[zz]
  refine⟨L1,L2',_,_,rfl,rfl,s6 _ _ (s5 _ _ (s4 _ _ (s3 _ _ eL))),e6,by rw[l1];show 10+2<=sizeLine;decide,fun L3 fQ=> ?_⟩
  obtain⟨H7,zz,s7,e7⟩:=aH (o:=.lst (dX++[V.ref a2,V.ref a3])) fQ
  rw[zz]
  have Mb:=s3.trans (s4.trans (s5.trans (s6.trans s7)))
  have C3:=s2.trans Mb
  have lK:ae H H7:=s1.trans C3
  have rb:=st.same lK
  refine⟨_,rfl,p,12,rfl,rb,.d,.d,fun r o h0 wN ra=> ?_⟩
  obtain⟨u0,v0,gq,_⟩:=id st
  have ep7:=lK _ _ gq
  have nE:∀{c:Addr}{G G':Hp},ae H G->G c=none->c≠p:=fun s h z=>by rw[z,s _ _ gq]at h;cases h
  have zL:=nE (s1.trans (s2.trans (s3.trans (s4.trans (s5.trans s6))))) (G':=H) fQ
  have DG:=nE (s1.trans s2) (G':=H) gK
  have rT:=nE (s1.trans (s2.trans s3)) (G':=H) Ff
  have DF:=nE (s1.trans (s2.trans (s3.trans s4))) (G':=H) Fe
  have Oh:(dX++[V.ref a2,V.ref a3]).length=12:=by rw[Zas,l1];rfl
  have az:r.toNat< (dX++[V.ref a2,V.ref a3]).length:=by rw[Oh];omega
  have sQ:=Zal az
  have jP:=Yv sQ
  rw[Zb9 h0]at jP
  have x8:au p H7 (upd H7 p o):=au.upd
  refine⟨L3,_,_,_,rfl,rfl,ag.of (x8 _ _ e7 zL),jP,?_⟩
  have hm:(dX++[V.ref a2,V.ref a3])[r.toNat]∈dX++[V.ref a2,V.ref a3]:=ZeC az
  generalize (dX++[V.ref a2,V.ref a3])[r.toNat]=v at hm
  have good:iU K (upd H7 p o) v/\jY p (upd H7 p o) v:=by
   rcases ZaL.mp hm with hm |hm
   ·obtain⟨k,hk,ek⟩:=Zdb hm
    obtain⟨l,hl,bQ⟩:=Jm Dd (Zal hk)
    rw[ek]at bQ
    have hb:=Zbj.mp V5 l (Zbc hl)
    unfold Gv at hb
    rw[ZaR]at hb
    have n:∀a:Addr,v=.ref a->a≠p:=fun a e z=>by
     have:=n1 a (by rw[<-e];exact hm)
     rw[z,gq]at this
     cases this
    have Bu:=XZ (bQ.same C3) n x8
    refine⟨⟨Vp hb.1 Bu,?_⟩,ZcJ hb.1 Bu n⟩
    rw[U6 hb.1 Bu]
    simpa using hb.2
   ·simp only[Zao,Zbk,Zca]at hm
    rcases hm with rfl |rfl
    ·have g2:=x8 _ _ ((s5.trans (s6.trans s7)) _ _ e4) rT
     have g1:=x8 _ _ ((s4.trans (s5.trans (s6.trans s7))) _ _ e3) DG
     refine⟨⟨⟨⟨_,.tup g2⟩,fun xs e y hy=> ?_⟩,by rw[Zn g2];rfl⟩,fun z=>rT (by cases z;rfl),fun xs e y hy z=> ?_⟩
     ·rw[Zn g2]at e
      cases e
      simp only[Zao,Zbk,Zca]at hy
      rcases hy with rfl |rfl
      ·exact⟨_,.tup g1⟩
      ·exact⟨_,.int 2⟩
     ·rw[Zn g2]at e
      cases e
      simp only[Zao,Zbk,Zca]at hy
      rcases hy with rfl |rfl
      ·exact DG (by cases z;rfl)
      ·cases z
    ·have g3:=x8 _ _ ((s6.trans s7) _ _ e5) DF
     refine⟨⟨⟨⟨_,.tup g3⟩,fun xs e y hy=> ?_⟩,by rw[Zn g3];rfl⟩,fun z=>DF (by cases z;rfl),fun xs e y hy z=> ?_⟩
     ·rw[Zn g3]at e
      cases e
      simp only[Zao,Zbk,Zca]at hy
      rcases hy with rfl |rfl
      ·exact⟨_,.int 2⟩
      ·exact⟨_,.af⟩
     ·rw[Zn g3]at e
      cases e
      simp only[Zao,Zbk,Zca]at hy
      rcases hy with rfl |rfl<;>cases z
  exact q v _ (fun c u hc hn=>x8 _ _ (lK _ _ hc) hn) ra good.1 good.2
end
section
def ko (K:Zht):R2:=fun x y H Q=> (∃a b ys,x=.ref a/\y=.ref b/\ah K H a []/\ah K H b ys/\Q (.ref b) H)∨zr K x y H Q
def kA {X:Cx} :bu X (binaryOp .Add) (ko X.K):=Ij.or HM
def qC {K:Zht}{H:Hp}{a b:Addr}{xs ys:List V}{Q:VK}(ha:H a=some (.tup xs)) (hb:H b=some (.tup ys)) (hl:xs.length+ys.length<=sizeLine) (q:∀(c:Addr) H',ae H H'->H' c=some (.tup (xs++ys))->Q (.ref c) H'):ko K (.ref a) (.ref b) H Q:=by
 by_cases hx:xs=[]
 ·subst hx
  exact .inl ⟨a,b,ys,rfl,rfl,ah.of ha,ah.of hb,q b H (ae.refl _) hb⟩
 ·refine .inr ⟨a,b,xs,ys,rfl,rfl,ah.of ha,ah.of hb,hx,hl,fun hy=> ?_,fun _ c hc=>q c _ (Zq hc) Ze⟩
  subst hy
  exact q a H (ae.refl _) (by rw[ZbP];exact ha)
def Bl {xs:List V}{k:Nat}(h:k<=xs.length):dk xs (some (k:Int)) none=xs.drop k:=by
 unfold dk
 have e1:HT.aK xs.length 0 (some (k:Int))=k:=by rw[HT.vk];omega
 rw[e1,HT.vj,ZbY (by rw[ZbD];exact Zae _)]
def Hw (h0:a<=b) (h1:b<=c):bz (.int b) a c=true:=by
 show(decide (a<=b)&&decide (b<=c))=true
 rw[ZaT h0,ZaT h1];rfl
structure bL (K:Zht) (H:Hp) (x:V) (l:Addr) (xs:List V) (wd hg:Int):Prop where
 bd:ck H x wd hg
 at_:H l=some (.tup xs)
 ly:bI wd hg (some xs)=true
def Yj {xs:List V}(h:bI wd hg (some xs)=true):(xs.length:Int)=wd:=by
 unfold bI at h
 rw[ZaR,ZaR]at h
 exact Zdk h.1.1
def Yk (h:bI wd hg (some xs)=true) (hv:v∈xs):v=.af∨∃i:Int,v=.int i/\0<=i/\i<hg:=by
 unfold bI at h
 rw[ZaR,ZaR]at h
 by_cases e:v=.af
 ·exact .inl e
 ·have:=Zbj.mp h.1.2 v (ZbM.mpr ⟨hv,by simp[e]⟩)
  cases v with
  |int i=>
   have z:(decide (0<=i)&&decide (i<=hg - 1))=true:=this
   rw[ZaR]at z
   have z1:=Zdk z.1
   have z2:=Zdk z.2
   exact .inr ⟨i,rfl,z1,.o⟩
  |_=>cases this
def bL.pl {K:Zht}{H:Hp}{x:V}{l:Addr}{xs:List V}{wd hg:Int}(a:bL K H x l xs wd hg):fe K H (.ref l):=by
 refine⟨⟨_,.tup a.at_⟩,fun ys e y hy=> ?_⟩
 rw[Zn a.at_]at e
 cases e
 rcases Yk a.ly hy with rfl |⟨i,rfl,_⟩
 ·exact⟨_,.af⟩
 ·exact⟨_,.int i⟩
def Zch (n:Nat):L2.upTo n=(iM 0 n).map V.int:=by
 unfold L2.upTo iM
 rw[Zf1]
 refine List.map_congr_left fun k _=> ?_
 show V.int (k:Int)=V.int (0+(k:Int))
 rw[ZeQ]
def Zd7 :i∈iM 0 n↔0<=i/\i<n:=by
 unfold iM
 rw[ZbF]
 constructor
 ·rintro⟨k,hk,rfl⟩
  have:=Zbt.mp hk
  omega
 ·rintro⟨h1,h2⟩
  exact⟨i.toNat,Zbt.mpr .o,.o⟩
def Zd8 (n:Nat):(iM 0 n).length=n:=by unfold iM;rw[Zat,Zcb]
def Zbe (n:Nat):(iM 0 n).Nodup:=by
 unfold iM
 refine List.Pairwise.map _ (fun a b h=> ?_) Zea
 omega
def WR:∀{ls:List Int}{k:Nat}(h:k<ls.length),(ls[k]::ls.eraseIdx k).Perm ls
 |_::_,0,_=> .refl _
 |a::ls,k+1,h=> ((List.Perm.swap _ _ _).trans (List.Perm.cons a (WR (ls:=ls) (k:=k) (by simpa using h))))
def Iy (R:L2.St->Hp->Prop) (h2:∀aj H',R aj H'->u D aj H') (h1:∀D':Ends,(∀aj H',R aj H'->D'.nx aj H')->t D' σ H):iW t u D σ H:=h1 _ h2
def Ws (x:au p H H1) (hp:H1 p=some o) (hL:H1 L=none):H L=none/\L≠p:=by
 have n:L≠p:=fun e=>by rw[e,hp]at hL;cases hL
 refine⟨?_,n⟩
 cases h:H L with
 |none=>rfl
 |some u=>rw[x _ _ h n]at hL;cases hL
def Jr {p L:Addr}{H H1:Hp}{o:HO}(x:au p H H1) (n:H L=none):au p H (upd H1 L o):=fun b u h nb=>by
 rw[Zg (Zi h n)]
 exact x b u h nb
def Hu (s:cj H p) (n:L≠p):cj (upd H L o) p:=by
 obtain⟨u,v,e,r⟩:=s
 exact⟨u,v,by rw[Zg n.symm];exact e,r⟩
def UF {α β:Type}(f:α->β):∀(xs:List α) (k:Nat),(xs.map f).eraseIdx k=(xs.eraseIdx k).map f
 | [],_=>rfl
 |_::_,0=>rfl
 |a::xs,k+1=>by
  show f a::(xs.map f).eraseIdx k=f a::(xs.eraseIdx k).map f
  rw[UF f xs k]
def TY {t:TE}{σ:L2.St}{H:Hp}{Q:VK}(R:V->Hp->Prop) (h2:∀v H',R v H'->Q v H') (h1:∀Q':VK,(∀v H',R v H'->Q' v H')->t σ H Q'):t σ H Q:=h1 Q h2
def VI (h:te σ H fun v H1=>t σ H1 fun vs H2=>Q (v::vs) H2):pj te t σ H Q:=h
def Ha {xs:List V}{lo hi:Option Int}{y:V}(h:y∈dk xs lo hi):y∈xs:=ZbH (Zce h)
def BC (h:i<0∨b<i):bz (.int i) 0 b=false:=by
 show(decide (0<=i)&&decide (i<=b))=false
 rcases h with h |h
 ·rw[ZaK .o,Zek]
 ·rw[ZaK (show ¬i<=b by omega),Zel]
def XM :rowsOf (fs++[.af])=rowsOf fs:=by
 unfold rowsOf
 rw[Zej]
 simp
def XJ :rowsOf (fs++[.int i])=rowsOf fs++[.int i]:=by
 unfold rowsOf
 rw[Zej]
 simp
def ZaG {fs:List V}{is ls:List Int}{wd hg:Int}(mw:1<=hg) (h1:rowsOf fs=is.map V.int) (h2:(is++ls).Perm (iM 0 hg.toNat)) (h3:(fs.length:Int)=wd):bI wd hg (some fs)=true:=by
 unfold bI
 dsimp only
 rw[h1,ZaT h3]
 have a1:((is.map V.int).all fun r=>bz r 0 (hg - 1))=true:=by
  rw[Zbj]
  intro x hx
  obtain⟨i,hi,rfl⟩:=ZbF.mp hx
  have:=Zd7.mp (h2.mem_iff.mp (Za7 _ hi))
  exact Hw this.1 .o
 have a2:(is.map V.int).Nodup:=(Uw is).mpr (Zge.mp ((List.Perm.nodup_iff h2).mpr (Zbe _))).1
 rw[a1,ZaT a2]
 rfl
end
section
variable {P:Program}{w:World}{K:Zht}{mg:Str->Option Value}{base:Heap}
abbrev zc:Stmt:=top 49
def yF (K:Zht):Sp:=fun vs H Q _=> ∃(p b:Addr) (wd hg:Int),vs=[.ref p,.ref b]/\cj H p/\ck H (.ref b) wd hg/\∀(l:Addr) H' (xs:List V),au p H H'->cj H' p->H' l=some (.tup xs)->bI wd hg (some xs)=true->Q (.ref l) H'
def pJ:bh ["_law_state_here", "_law_board", "_law_left", "_law_found", "_law_line", "_law_row"] ["_law_state_here", "_law_board"] (ay zc):=ZN (by decide+kernel)
def VF (F:aG K "_law_lay" "_law_lay" zc f fd) (G:Gs mg) (D1:Def P w K mg base 1 "_law_take" ["_law_state_here", "_law_many"] ki):aA P w K mg base aE 2 f fd ["_law_state_here", "_law_board"] (yF K):=by
 refine F.ok pJ (fun vs H Q E h=> ?_) (fun ao A outer s H vs Q E hr h=> ?_)
 ·obtain⟨p,b,wd,hg,rfl,_⟩:=h
  rfl
 ·obtain⟨p,b,wd,hg,rfl,st,bd,q⟩:=h
  obtain⟨_,w1,w2,g1,g2⟩:=id bd
  obtain⟨a',eb,hb⟩:=Zu bd.1
  cases eb
  refine⟨_,Zc (BK (i:=2) (j:=3) rfl pJ.nd rfl rfl .d rfl rfl (Za (Z2 Uf rfl G.list Zfi (Za (Z2 We rfl G.range boot_range (Za (ZF ZP (pv 1) Zd (fun _ _=>rfl)) Zb)) Zb)) (Za (Zs Zb) Zb)) rfl)
   (Zc (Jt Zew rfl (Z0 rfl G.range (Za (ZF ZP (pv 1) Zd (fun _ _=>rfl)) Zb)) (ZE (i:=4) pJ.nd rfl (Or.inl rfl))
    (Zc (Zy (i:=5) pJ.nd rfl (Or.inl rfl) Yn)
    (Zc (ZQ (PW.pt (BL (ZO (TF hr.xS) (pv 2) (ZH Zb) (bO _)) (UV (ZO Uu (Zh D1 hr (Za (pv 0) (Za Zd Zb))) Zd (bO _)))))
     (Zj (Zy (i:=5) pJ.nd rfl (Or.inl rfl) (Yq Zbm PySem.F.slot_list_pop PySem.F.type_list_pop X5 (pv 2) (Za (Zh D1 hr (Za (pv 0) (Za (Zp ZG rfl G.len ZeU (Za (pv 2) Zb)) Zb))) Zb)))) Zv)
    (Zj (Zy (i:=3) pJ.nd rfl (Or.inl rfl) (Zo kA (pv 3) (Zs (Za (pv 5) Zb))))))))
   (Zj (Zw (pv 3)))),?_⟩
  obtain⟨u0,v0,gq,_⟩:=id st
  have gR:b≠p:=Ym hb gq (by intro z;cases z)
  refine Zl ⟨_,rfl,b,_,_,_,rfl,rfl,ah.of hb,bQ,hg,rfl,fun rg O9=> ⟨rg,hg,rfl,Ze,.o,.o,fun L hL=> ⟨Za2 _,fun f0 qr=> ⟨_,_,rfl,?_⟩⟩⟩⟩
  dsimp only[List.set]
  have sA:=Zq (o:=.fN 0 hg) O9
  have sB:=Zq (o:=.lst (L2.upTo hg.toNat)) hL
  have sC:=Zq (o:=.tup []) qr
  have eL:=sC _ _ (Ze (H:=upd H rg (.fN 0 hg)) (a:=L) (o:=.lst (L2.upTo hg.toNat)))
  have eF:upd (upd (upd H rg (.fN 0 hg)) L (.lst (L2.upTo hg.toNat))) f0 (.tup []) f0=some (.tup []):=Ze
  have lK:=sA.trans (sB.trans sC)
  have QI:H L=none/\L≠p:=Ws (p:=p) sA.x (sA _ _ gq) hL
  generalize upd (upd (upd H rg (.fN 0 hg)) L (.lst (L2.upTo hg.toNat))) f0 (.tup [])=H1 at lK eL eF
  obtain⟨QH,AX⟩:=QI
  rw[Zch]at eL
  have dN:=lK _ _ hb
  refine Zl ⟨_,rfl,b,_,_,_,rfl,rfl,ah.of dN,gM,wd,rfl,.o,.o,?_⟩
  refine YV (n:=wd.toNat) (fun i σ H2=> ∃(fa:Addr) (fs:List V) (is ls:List Int) (x4 x5:Option V),σ=[some (.ref p),some (.ref b),some (.ref L),some (.ref fa),x4,x5]/\au p H H2/\cj H2 p/\H2 L=some (.lst (ls.map V.int))/\H2 fa=some (.tup fs)/\fs.length=i/\rowsOf fs=is.map V.int/\(is++ls).Perm (iM 0 hg.toNat))
   ⟨f0,[],[],iM 0 hg.toNat,none,none,rfl,lK.x,st.same lK,eL,eF,rfl,rfl,.refl _⟩ ?_ ?_
  ·rintro i σ H2 hi ⟨fa,fs,is,ls,x4,x5,rfl,x2,ak,wX,tJ,fl,vw,pm⟩
   have hlen:=pm.length_eq
   rw[Zas,Zd8]at hlen
   obtain⟨u2,v2,RD,_⟩:=id ak
   have nD:fa≠p:=Ym tJ RD (by intro z;cases z)
   have NA:fa≠L:=Ym tJ wX (by intro z;cases z)
   refine Zt (Zl (ZB (Zt ?_)))
   dsimp only[List.set]
   refine Iy (fun σ H3=> ∃(row:V) (vX vP:List Int),σ=[some (.ref p),some (.ref b),some (.ref L),some (.ref fa),some (.int (0+(i:Int))),some row]/\au p H H3/\cj H3 p/\H3 L=some (.lst (vP.map V.int))/\H3 fa=some (.tup fs)/\rowsOf (fs++[row])=vX.map V.int/\(vX++vP).Perm (iM 0 hg.toNat)) ?_ ?_
   ·rintro σ H3 ⟨row,vX,vP,rfl,x3,ba,tH,tI,Mf,MP⟩
    refine ZB ⟨_,rfl,_,rfl,bZ,fun t ht=> ?_⟩
    have s4:=Zq (o:=.tup [row]) ht
    refine qC (s4 _ _ tI) Ze (by rw[ZaP];show fs.length+1<=_;omega) fun c H5 s5 e5=>Zt ?_
    have zl:=s4.trans s5
    exact⟨c,fs++[row],vX,vP,_,_,rfl,x3.trans zl.x,ba.same zl,zl _ _ tH,e5,by rw[Zas,fl];rfl,Mf,MP⟩
   ·intro D' hD
    refine⟨_,rfl,Za2 _,fun e he=> ⟨L,e,ls.map V.int,rfl,rfl,ag.of (Zq he _ _ wX),ag.of Ze,_,rfl,?_⟩⟩
    have se:=Zq (o:=.lst []) he
    have ba:=ak.same se
    have x3:=x2.trans se.x
    have tH:=se _ _ wX
    have tI:=se _ _ tJ
    generalize upd H2 e (.lst [])=H3 at se ba x3 tH tI
    have none_:∀{H4:Hp},au p H H4->cj H4 p->H4 L=some (.lst (ls.map V.int))->H4 fa=some (.tup fs)->D'.nx [some (.ref p),some (.ref b),some (.ref L),some (.ref fa),some (.int (0+(i:Int))),some .af] H4:=fun x s e1 e2=>hD _ _ ⟨.af,is,ls,rfl,x,s,e1,e2,by rw[XM];exact vw,pm⟩
    cases ls with
    |nil=>exact aP (aP (Yb (none_ x3 ba tH tI)))
    |cons l0 lr=>
     refine aX ⟨_,rfl,p,4,rfl,ba,.d,.d,fun r o r0 r4 cX=> ⟨_,_,rfl,rfl,_,rfl,?_⟩⟩
     have xP:au p H (upd H3 p o):=x3.trans au.upd
     have jS:upd H3 p o L=some (.lst ((l0::lr).map V.int)):=by rw[Zg AX];exact tH
     have Bi:upd H3 p o fa=some (.tup fs):=by rw[Zg nD];exact tI
     generalize upd H3 p o=H4 at cX xP jS Bi
     by_cases sv:(0:Int)<r
     ·rw[ZaT sv]
      refine aX (ZB ⟨_,rfl,.inl ⟨rfl,_,ag.of jS⟩,_,rfl,_,rfl,L,_,rfl,.inl (ag.of jS),p,_,rfl,cX,by rw[Zat];simp,by rw[Zat];omega,fun r' o' MA Dc dr=> ?_⟩)
      rw[Zat]at Dc
      have e5:upd H4 p o' L=some (.lst ((l0::lr).map V.int)):=by rw[Zg AX];exact jS
      have dn:r'.toNat< (l0::lr).length:=.o
      refine⟨L,_,r',r'.toNat,.int ((l0::lr)[r'.toNat]),rfl,rfl,e5,.o,.o,ZgX MA (by rw[Zat];exact Dc),by rw[ZbG,Zal dn];rfl,Zt ?_⟩
      refine hD _ _ ⟨_,is++[(l0::lr)[r'.toNat]],(l0::lr).eraseIdx r'.toNat,rfl,Jr (xP.trans au.upd) QH,Hu dr AX,?_,?_,?_,?_⟩
      ·rw[Ze,UF]
      ·rw[Zg NA,Zg nD];exact Bi
      ·rw[XJ,vw,ZbC];rfl
      ·rw[Zbp]
       exact((WR dn).append_left is).trans pm
     ·rw[ZaK sv]
      exact aP (Yb (none_ xP cX jS Bi))
  ·rintro σ H2 ⟨fa,fs,is,ls,x4,x5,rfl,x2,ak,wX,tJ,fl,vw,pm⟩
   exact⟨_,rfl,q fa H2 fs x2 ak tJ (ZaG g1 vw pm .o)⟩
end
section
def S4 {K:Zht}{σ:L2.St}{H:Hp}{Q:VK}{l:Addr}{ls:List V}{a:Int}{tm:TE}{i j:Nat}(Pm:List V->Hp->Prop) (pk:∀{ms H1 H2},ae H1 H2->Pm ms H1->Pm ms H2) (h1:σ[i]? =some (some (.ref l))) (h3:σ[j]? =some (some (.int a))) (hl:H l=some (.tup ls)) (ll:ls.length<=12)
  (hm:∀H1 (Q1:VK),ae H H1->(∀(c:Addr) (ms:List V) H2,ae H1 H2->H2 c=some (.tup ms)->ms.length<=12->Pm ms H2->Q1 (.ref c) H2)->tm σ H1 Q1)
  (q:∀(c:Addr) (ms:List V) H',ae H H'->H' c=some (.tup ((dk ls none (some a)++ms)++dk ls (some (a+1)) none))->ms.length<=12->Pm ms H'->Q (.ref c) H'):
  lF (ko K) (lF (ko K) (xZ (zq K) (kg i) yd (yc (kg j))) tm) (xZ (zq K) (kg i) (yc (lF (km fun i j=> .int (i+j)) (kg j) (tC (.int 1)))) yd) σ H Q:=by
 refine⟨_,h1,_,h3,_,rfl,l,_,rfl,hl,fun c1 H1 s1 e1=> ?_⟩
 refine hm H1 _ s1 fun c2 ms H2 s2 e2 gY pm=> ?_
 have l1:=YH ls none (some a)
 have l3:=YH ls (some (a+1)) none
 refine qC (s2 _ _ e1) e2 (by rw[ZaP];omega) fun c3 H3 s3 e3=> ?_
 refine⟨_,h1,_,h3,_,_,rfl,rfl,_,rfl,l,_,rfl,(s1.trans (s2.trans s3)) _ _ hl,fun c4 H4 s4 e4=> ?_⟩
 refine qC (s4 _ _ e3) e4 (by rw[ZaP,Zas];omega) fun c5 H5 s5 e5=> ?_
 exact q c5 ms H5 (s1.trans (s2.trans (s3.trans (s4.trans s5)))) e5 gY (pk (s3.trans (s4.trans s5)) pm)
def dU (K:Zht) (p:Addr) (wd hg:Int) (H:Hp) (v:V):Prop:=(fe K H v/\bI wd hg (bA H v)=false)/\jY p H v
def Ig {K:Zht}{p:Addr}{wd hg:Int}{H H':Hp}{v:V}(g:dU K p wd hg H v) (s:au p H H'):dU K p wd hg H' v:=
 ⟨⟨Bz g.1.1 s g.2,by rw[JB g.1.1.1 s g.2.1];exact g.1.2⟩,HJ g.1.1.1 s g.2.1 g.2⟩
def Yd {K:Zht}{p:Addr}{wd hg:Int}{H H':Hp}{v:V}(g:dU K p wd hg H v) (s:ae H H'):dU K p wd hg H' v:=Ig g s.x
def YU {K:Zht}{p a:Addr}{wd hg:Int}{H:Hp}{xs:List V}(h:H a=some (.tup xs)) (st:cj H p) (hx:∀y∈xs,bR K H y/\y≠.ref p) (nf:bI wd hg (some xs)=false):dU K p wd hg H (.ref a):=by
 obtain⟨u,v,e,_⟩:=st
 have NH:a≠p:=Ym h e (by intro z;cases z)
 refine⟨⟨⟨⟨_,.tup h⟩,fun ys e y hy=> ?_⟩,?_⟩,fun z=>NH (by cases z;rfl),fun ys e y hy=> ?_⟩
 ·rw[Zn h]at e
  cases e
  exact(hx y hy).1
 ·rw[Zn h]
  exact nf
 ·rw[Zn h]at e
  cases e
  exact(hx y hy).2
def YE {K:Zht}{p:Addr}{wd hg:Int}{H:Hp}{v:V}(h:bA H v=none) (t:bR K H v) (hn:v≠.ref p):dU K p wd hg H v:=by
 refine⟨⟨⟨t,fun ys e y hy=> ?_⟩,?_⟩,hn,fun ys e y hy=> ?_⟩
 ·rw[h]at e;cases e
 ·rw[h];rfl
 ·rw[h]at e;cases e
def GV {xs:List V}(h:(xs.length:Int)≠wd):bI wd hg (some xs)=false:=by
 unfold bI
 dsimp only
 rw[ZaK h,Zek,Zek]
def HI (hy:y∈xs) (e:y≠.af) (h:bz y 0 (hg - 1)=false):bI wd hg (some xs)=false:=by
 unfold bI
 dsimp only
 have:((rowsOf xs).all fun r=>bz r 0 (hg - 1))=false:=by
  cases hh:(rowsOf xs).all fun r=>bz r 0 (hg - 1) with
  |false=>rfl
  |true=>
   have:=Zbj.mp hh y (ZbM.mpr ⟨hy,by simp[e]⟩)
   rw[h]at this
   cases this
 rw[this,Zel,Zek]
def X6 (e:x≠.af):bI wd hg (some (x::x::r))=false:=by
 unfold bI
 dsimp only
 have:¬(rowsOf (x::x::r)).Nodup:=fun h=>by
  unfold rowsOf at h
  rw[ZdO (by simp[e]),ZdO (by simp[e])]at h
  exact(Zdv.mp h).1 Zau
 rw[ZaK this,Zel]
def JU (h:H Z=some (.lst as)) (v:V):bA (upd H Z (.lst bs)) v=bA H v:=by
 cases v with
 |ref c=>
  rw[ZC,ZC]
  by_cases e:c=Z
  ·rw[e,Ze,h];rfl
  ·rw[Zg e]
 |_=>rfl
def HW {K:Zht}{H:Hp}{Z:Addr}{as bs:List V}{v:V}(h:H Z=some (.lst as)) (t:bR K H v):bR K (upd H Z (.lst bs)) v:=by
 obtain⟨T,t⟩:=t
 have ne:∀{a:Addr}{o:HO},H a=some o->(∀xs,o≠.lst xs)->upd H Z (.lst bs) a=some o:=fun {a o} e n=>by
  rw[Zg (fun z=>by rw[z,h]at e;cases e;exact n _ rfl)]
  exact e
 cases t with
 |tup e=>exact⟨_,.tup (ne e (by intro xs z;cases z))⟩
 |lst e=>
  rename_i a xs
  by_cases z:a=Z
  ·rw[z];exact⟨_,.lst Ze⟩
  ·exact⟨_,.lst (by rw[Zg z];exact e)⟩
 |cJ e=>exact⟨_,.cJ (ne e (by intro xs z;cases z))⟩
 |dK e=>exact⟨_,.dK (ne e (by intro xs z;cases z))⟩
 |dT e=>exact⟨_,.dT (ne e (by intro xs z;cases z))⟩
 |af=>exact⟨_,.af⟩
 |bl b=>exact⟨_,.bl b⟩
 |int i=>exact⟨_,.int i⟩
 |str x=>exact⟨_,.str x⟩
 |hG x=>exact⟨_,.hG x⟩
def ZcS {K:Zht}{p:Addr}{wd hg:Int}{H:Hp}{Z:Addr}{as bs:List V}{v:V}(h:H Z=some (.lst as)) (g:dU K p wd hg H v):dU K p wd hg (upd H Z (.lst bs)) v:=by
 refine⟨⟨⟨HW h g.1.1.1,fun xs e y hy=>HW h (g.1.1.2 xs (by rw[<-JU (bs:=bs) h v];exact e) y hy)⟩,by rw[JU h v];exact g.1.2⟩,g.2.1,fun xs e y hy=>g.2.2 xs (by rw[<-JU (bs:=bs) h v];exact e) y hy⟩
def ZaJ {K:Zht}{p:Addr}{H:Hp}{xs:List V}{wd hg:Int}{y:V}(l:bI wd hg (some xs)=true) (h:y∈xs):bR K H y/\y≠.ref p:=by
 rcases Yk l h with rfl |⟨i,rfl,_⟩
 ·exact⟨⟨_,.af⟩,by intro z;cases z⟩
 ·exact⟨⟨_,.int i⟩,by intro z;cases z⟩
end
section
variable {P:Program}{w:World}{K:Zht}{mg:Str->Option Value}{base:Heap}
abbrev za:Stmt:=top 52
def yw (K:Zht):Sp:=fun vs H Q _=> ∃(p b l:Addr) (xs:List V) (wd hg:Int),vs=[.ref p,.ref b,.ref l]/\cj H p/\bL K H (.ref b) l xs wd hg/\∀v H',au p H H'->cj H' p->dU K p wd hg H' v->Q v H'
def rF:bh ["_law_state_here", "_law_board", "_law_lay_here", "_law_way", "_law_at", "_law_odd", "_law_bent", "_law_some"] ["_law_state_here", "_law_board", "_law_lay_here"] (ay za):=ZN (by decide+kernel)
def T7 (F:aG K "_law_no_lay" "_law_no_lay" za f fd) (G:Gs mg) (D1:Def P w K mg base 1 "_law_take" ["_law_state_here", "_law_many"] ki):aA P w K mg base aE 2 f fd ["_law_state_here", "_law_board", "_law_lay_here"] (yw K):=by
 refine F.ok rF (fun vs H Q E h=> ?_) (fun ao A outer s H vs Q E hr h=> ?_)
 ·obtain⟨p,b,l,xs,wd,hg,rfl,_⟩:=h
  rfl
 ·obtain⟨p,b,l,xs,wd,hg,rfl,st,la,q⟩:=h
  refine⟨_,Zc (BK (i:=3) (j:=4) rfl rF.nd rfl rfl .d rfl rfl (Za (Zh D1 hr (Za (pv 0) (Za Zd Zb))) (Za (Zh D1 hr (Za (pv 0) (Za (ZF ZP (pv 1) Zd (fun _ _=>rfl)) Zb))) Zb)) rfl)
   (Zc (Zy (i:=5) rF.nd rfl (Or.inl rfl) (ZF ZY (ZH (Za (ZF ZP (pv 1) Zd (fun _ _=>rfl)) (Za (GI Hi Zd) (Za Wb (Za ZS (Za (Zs (Za Zd Zb)) (Za (Zo Wy Zd Zd) (Za (ZH (Za Zd Zb)) Zb)))))))) (Zh D1 hr (Za (pv 0) (Za Zd Zb))) (fun _ _=>rfl)))
   (Zc (Zy (i:=6) rF.nd rfl (Or.inl rfl) (Zo kA (Zo kA (Yy JD (pv 2) YX (YW (pv 4))) (Zs (Za (pv 5) Zb))) (Yy JD (pv 2) (YW (Zo ZT (pv 4) Zd)) YX)))
   (Zc (Zy (i:=7) rF.nd rfl (Or.inl rfl) (ZH (Za (pv 6) (Za (pv 6) (Za (pv 6) (Za (Zo kA (pv 2) (Zs (Za Yn Zb))) (Za (Yy JD (pv 2) (YW Zd) YX) (Za (Z2 Zac rfl G.list Zfi (Za (pv 2) Zb)) (Za Yn (Za Il (Za ZS (Za Zd Zb))))))))))))
   (Zc (Zz (Yq Zbm Zby Zbz ZV (pv 7) (Za (Wu (ZO Uu (ZF ZP (pv 1) Zd (fun _ _=>rfl)) Zd (bO _)) (Zo UZ (Zs (Za Zd Zb)) (ZF ZP (pv 1) Zd (fun _ _=>rfl))) (Zs (Za (pv 2) Zb))) Zb)))
   (Zj (Zw (ZF ZY (pv 7) (pv 3) (fun _ _=>rfl)))))))),?_⟩
  obtain⟨u0,v0,gq,_⟩:=id st
  obtain⟨_,w1,w2,g1,g2⟩:=id la.bd
  have pW:l≠p:=Ym la.at_ gq (by intro z;cases z)
  obtain⟨b',eb,hb⟩:=Zu la.bd.1
  cases eb
  have gR:b≠p:=Ym hb gq (by intro z;cases z)
  have ll:=Yj la.ly
  have hl:=la.at_
  refine Zl ⟨_,rfl,p,11,rfl,st,.d,.d,fun way o1 w0 jD av=> ?_⟩
  have x1:au p H (upd H p o1):=au.upd
  have oa:=x1 _ _ hl pW
  have dN:=x1 _ _ hb gR
  generalize upd H p o1=H1 at oa dN x1 av
  refine⟨_,rfl,_,rfl,b,_,_,_,rfl,rfl,ah.of dN,gM,p,wd,rfl,av,.o,.o,fun a o2 a0 a1 ak=> ⟨_,_,rfl,?_⟩⟩
  have x2:au p H (upd H1 p o2):=x1.trans au.upd
  have gZ:=x2 _ _ hl pW
  have kN:=x2 _ _ hb gR
  generalize upd H1 p o2=H2 at gZ kN x2 ak
  dsimp only[List.set]
  refine Zl (ZB ⟨_,rfl,b,_,_,_,rfl,rfl,ah.of kN,bQ,_,rfl,bZ,fun t ht=> ?_⟩)
  obtain⟨H3,zz,s3,e3⟩:=aH (o:=.tup [V.int 0]) ht
  rw[zz]
  refine⟨_,_,rfl,rfl,⟨.d,.d,.d⟩,bZ,fun m hm=> ?_⟩
  obtain⟨IZ,zz,vq,mG⟩:=aH (o:=.lst [V.int 0]) hm
  rw[zz]
  refine⟨Cw,fun L hL=> ?_⟩
  generalize hS:[V.int hg,V.int (-1),V.bl true,V.str "0",V.ref t,V.int (10^(39:Int).toNat),V.ref m]=S
  have lS:S.length=7:=by rw[<-hS];rfl
  obtain⟨H4,zz,s4,e4⟩:=aH (o:=.lst S) hL
  rw[zz]
  have rL:=s3.trans (vq.trans s4)
  have cX:=ak.same rL
  refine⟨_,rfl,p,7,rfl,cX,.d,.d,fun r o5 r0 r1 dr=> ?_⟩
  obtain⟨u4,v4,wW,_⟩:=id cX
  have NM:L≠p:=Ym e4 wW (by intro z;cases z;cases lS)
  have Dr:t≠p:=Ym ((vq.trans s4) _ _ e3) wW (by intro z;cases z)
  have Dz:m≠p:=Ym (s4 _ _ mG) wW (by intro z;cases z)
  obtain⟨H5,zz,x5⟩:=newX H4 p o5
  rw[zz]at dr |-
  have az:r.toNat<S.length:=.o
  have jP:=Yv (Zal az)
  rw[Zb9 r0]at jP
  refine⟨L,_,_,_,rfl,rfl,ag.of (x5 _ _ e4 NM),jP,Zt ?_⟩
  dsimp only[List.set]
  have uo:au p H H5:=x2.trans (rL.x.trans x5)
  have cH:S[r.toNat]∈S:=ZeC az
  generalize S[r.toNat]=odd at cH
  have zw:(1000:Int)<=10^(39:Int).toNat:=.d
  have good:(bR K H5 odd/\odd≠.ref p)/\odd≠.af/\bz odd 0 (hg - 1)=false:=by
   rw[<-hS]at cH
   generalize (10:Int)^(39:Int).toNat=Lr at cH zw
   simp only[Zao,Zbk,Zca]at cH
   rcases cH with rfl |rfl |rfl |rfl |rfl |rfl |rfl
   ·exact⟨⟨⟨_,.int _⟩,fun z=>by cases z⟩,(fun z=>by cases z),BC .o⟩
   ·exact⟨⟨⟨_,.int _⟩,fun z=>by cases z⟩,(fun z=>by cases z),BC .o⟩
   ·exact⟨⟨⟨_,.bl _⟩,fun z=>by cases z⟩,(fun z=>by cases z),rfl⟩
   ·exact⟨⟨⟨_,.str _⟩,fun z=>by cases z⟩,(fun z=>by cases z),rfl⟩
   ·exact⟨⟨⟨_,.tup (x5 _ _ ((vq.trans s4) _ _ e3) Dr)⟩,fun z=>Dr (by cases z;rfl)⟩,(fun z=>by cases z),rfl⟩
   ·exact⟨⟨⟨_,.int _⟩,fun z=>by cases z⟩,(fun z=>by cases z),BC .o⟩
   ·exact⟨⟨⟨_,.lst (x5 _ _ (s4 _ _ mG) Dz)⟩,fun z=>Dz (by cases z;rfl)⟩,(fun z=>by cases z),rfl⟩
  have sN:=uo _ _ hl pW
  have wK:=uo _ _ hb gR
  clear x5 e4 s4 s3 vq gZ x2 ak oa x1 av cX wW e3 mG dN kN
  have N9:xs.length<=12:=.o
  have it:∀{H':Hp}{y:V},y∈xs->bR K H' y/\y≠.ref p:=fun h=>ZaJ la.ly h
  refine Zl (ZB (S4 (l:=l) (ls:=xs) (a:=a) (fun ms H'=>ms=[odd]) (fun _ h=>h) rfl rfl sN N9 (fun H6 Q6 s6 k6=> ⟨_,rfl,bZ,fun c hc=>k6 c _ _ (Zq hc) Ze (by show 1<=12;decide) rfl⟩) fun bt ms H6 s6 e6 _ em=> ?_))
  subst em
  refine Zt ?_
  dsimp only[List.set]
  have gb:dU K p wd hg H6 (.ref bt):=by
   refine YU e6 (dr.same s6) (fun y hy=> ?_) (HI (y:=odd) (by simp) good.2.1 good.2.2)
   rcases ZaL.mp hy with hy |hy
   ·rcases ZaL.mp hy with hy |hy
    ·exact it (Ha hy)
    ·cases ZaI.mp hy
     exact⟨s6.iD good.1.1,good.1.2⟩
   ·exact it (Ha hy)
  have EC:=s6 _ _ sN
  have rf:=dr.same s6
  refine Zl (ZB ⟨_,rfl,_,rfl,_,rfl,_,rfl,bZ,fun t9 OZ=> ?_⟩)
  obtain⟨H9,zz,s9,e9⟩:=aH (o:=.tup [V.af]) OZ
  rw[zz]
  refine qC (s9 _ _ EC) e9 (by rw[ZaP];show xs.length+1<=_;omega) fun c10 gB gP e10=> ?_
  have ED:=gP _ _ (s9 _ _ EC)
  have rk:=rf.same (s9.trans gP)
  have g4:dU K p wd hg gB (.ref c10):=YU e10 rk (fun y hy=>by
   rcases ZaL.mp hy with hy |hy
   ·exact it hy
   ·cases ZaI.mp hy
    exact⟨⟨_,.af⟩,fun z=>by cases z⟩) (GV (by rw[Zas];show((xs.length+1:Nat):Int)≠wd;omega))
  refine⟨_,rfl,_,rfl,l,_,rfl,ED,fun c13 xH vt e13=> ?_⟩
  have PQ:=vt _ _ ED
  have rh:=rk.same vt
  have Kq:dk xs (some 1) none=xs.drop 1:=Bl (k:=1) .o
  rw[Kq]at e13
  have g5:dU K p wd hg xH (.ref c13):=YU e13 rh (fun y hy=>it (ZbH hy)) (GV (by rw[ZbD];omega))
  refine⟨_,rfl,l,_,rfl,.inr (ah.of PQ),fun nG Ar=> ?_⟩
  obtain⟨xI,zz,jG,e11⟩:=aH (o:=.lst xs) Ar
  rw[zz]
  have rj:=rh.same jG
  have Nx:nG≠p:=fun z=>by
   obtain⟨u,v,e,_⟩:=id rh
   rw[z,e]at Ar
   cases Ar
  have g6:dU K p wd hg xI (.ref nG):=YE (by rw[ZC,e11];rfl) ⟨_,.lst e11⟩ (fun z=>Nx (by cases z;rfl))
  refine fun d hd=> ?_
  obtain⟨iS,zz,iY,e12⟩:=aH (o:=.dK []) hd
  rw[zz]
  have uL:=rj.same iY
  have kD:d≠p:=fun z=>by
   obtain⟨u,v,e,_⟩:=id rj
   rw[z,e]at hd
   cases hd
  have g7:dU K p wd hg iS (.ref d):=YE (by rw[ZC,e12];rfl) ⟨_,.dK e12⟩ (fun z=>kD (by cases z;rfl))
  have gn:dU K p wd hg iS .af:=YE rfl ⟨_,.af⟩ (fun z=>by cases z)
  have gi:dU K p wd hg iS (.int 5):=YE rfl ⟨_,.int 5⟩ (fun z=>by cases z)
  have gs:dU K p wd hg iS (.str "lay"):=YE rfl ⟨_,.str _⟩ (fun z=>by cases z)
  have Rh:=Yd g6 iY
  have Rj:=Yd g5 (jG.trans iY)
  have Rk:=Yd g4 (vt.trans (jG.trans iY))
  have sA:=s9.trans (gP.trans (vt.trans (jG.trans iY)))
  have A5:=Yd gb sA
  refine⟨(by show 10<=sizeLine;decide),fun Z hZ=>Zt ?_⟩
  dsimp only[List.set]
  have all:∀v∈[V.ref bt,V.ref bt,V.ref bt,V.ref c10,V.ref c13,V.ref nG,V.af,V.ref d,V.str "lay",V.int 5],dU K p wd hg iS v:=
   Zb0.mpr ⟨A5,Zb0.mpr ⟨A5,Zb0.mpr ⟨A5,Zb0.mpr ⟨Rk,Zb0.mpr ⟨Rj,Zb0.mpr ⟨Rh,Zb0.mpr ⟨gn,Zb0.mpr ⟨g7,Zb0.mpr ⟨gs,Zb0.mpr ⟨gi,fun _ h=>by cases h⟩⟩⟩⟩⟩⟩⟩⟩⟩⟩
  have lA:([V.ref bt,V.ref bt,V.ref bt,V.ref c10,V.ref c13,V.ref nG,V.af,V.ref d,V.str "lay",V.int 5]:List V).length=10:=rfl
  generalize [V.ref bt,V.ref bt,V.ref bt,V.ref c10,V.ref c13,V.ref nG,V.af,V.ref d,V.str "lay",V.int 5]=zs at all lA
  have rN:=Zq (o:=.lst zs) hZ
  have e16:upd iS Z (.lst zs) Z=some (.lst zs):=Ze
  have sF:=s6.trans (sA.trans rN)
  have tF:H Z=none/\Z≠p:=by
   obtain⟨u,v,e,_⟩:=id uL
   exact Ws (uo.trans (s6.trans sA).x) e hZ
  generalize upd iS Z (.lst zs)=Kc at rN e16 sF
  have PN:=sF _ _ sN
  have EX:=sF _ _ wK
  have yg:=dr.same sF
  refine Zl ⟨_,rfl,.inl ⟨rfl,_,ag.of e16⟩,VI (TY (t:=Ct _ _ _) (fun v H'=>ae Kc H'/\dU K p wd hg H' v) ?_ ?_)⟩
  ·rintro v10 oZ ⟨kj,Rm⟩
   refine⟨Z,_,v10,rfl,rfl,kj _ _ e16,by rw[lA,ZaP];decide,?_⟩
   dsimp only
   have xE:au p H (upd oZ Z (.lst (zs++[v10]))):=Jr (uo.trans (sF.trans kj).x) tF.1
   have LF:cj (upd oZ Z (.lst (zs++[v10]))) p:=Hu (yg.same kj) tF.2
   have lW:(zs++[v10]).length=11:=by rw[Zas,lA];rfl
   have Ez:way.toNat< (zs++[v10]).length:=.o
   have EZ:=Yv (Zal Ez)
   rw[Zb9 w0]at EZ
   refine⟨_,rfl,_,rfl,Z,_,_,_,rfl,rfl,ag.of Ze,EZ,?_⟩
   refine q _ _ xE LF ?_
   have gv:dU K p wd hg oZ (zs++[v10])[way.toNat]:=by
    rcases ZaL.mp (ZeC Ez) with hy |hy
    ·exact Yd (all _ hy) (rN.trans kj)
    ·rw[ZaI.mp hy];exact Rm
   exact ZcS (kj _ _ e16) gv
  ·intro Q' hQ
   refine⟨_,rfl,b,_,_,_,rfl,rfl,ah.of EX,gM,_,_,rfl,rfl,_,rfl,?_⟩
   by_cases wB:(1:Int)<wd
   ·rw[ZaT wB]
    refine aX ⟨bZ,fun t0 wb=> ⟨_,rfl,b,_,_,_,rfl,rfl,ah.of (Zq wb _ _ EX),gM,t0,wd,_,rfl,rfl,Ze,(by simp),.o,.o,(by show 1*wd.toNat<=1000;omega),fun c oZ kj e17=> ?_⟩⟩
    have s0:=(Zq (o:=.tup [V.int 0]) wb).trans kj
    obtain⟨k,ek⟩:∃k,wd.toNat=k+2:=⟨wd.toNat - 2,.o⟩
    rw[ek]at e17
    have Sk:oZ c=some (.tup (V.int 0::V.int 0::(List.replicate k [V.int 0]).flatten)):=e17
    refine hQ _ _ ⟨s0,YU Sk (yg.same s0) (fun y hy=> ?_) (X6 (by intro z;cases z))⟩
    have:y=.int 0:=by
     rcases Zao.mp hy with h |hy
     ·exact h
     ·rcases Zao.mp hy with h |hy
      ·exact h
      ·obtain⟨zz,h1,h2⟩:=List.mem_flatten.mp hy
       rw[(List.mem_replicate.mp h1).2]at h2
       exact ZaI.mp h2
    rw[this]
    exact⟨⟨_,.int 0⟩,fun z=>by cases z⟩
   ·rw[ZaK wB]
    refine aP ⟨_,rfl,bZ,fun c hc=> ?_⟩
    have sc:=Zq (o:=.tup [V.ref l]) hc
    exact hQ _ _ ⟨sc,YU Ze (yg.same sc) (fun y hy=>by
     cases ZaI.mp hy
     exact⟨⟨_,.tup (sc _ _ PN)⟩,fun z=>pW (by cases z;rfl)⟩) (HI (y:=.ref l) Zau (by intro z;cases z) rfl)⟩
def R1 (_:Hp) (x y:V):Prop:=(∃i:Int,x=.int i/\y=.int i)∨(x=.af/\y=.af)
def R1.same (r:R1 H x y) (_:ae H H'):R1 H' x y:=r
def ZdE (F:aG K "_law_same" "_law_same" pL f fd) (G:Gs mg):aA P w K mg base aE 1 f fd ["_law_found", "_law_due_here"] (ir R1):=by
 refine F.ok uV (fun vs H Q E h=> ?_) (fun ao A outer s H vs Q E hr h=> ?_)
 ·obtain⟨x,y,rfl,_⟩:=h
  rfl
 ·obtain⟨x,y,rfl,r,q⟩:=h
  refine⟨_,Zc (ZQ (ZM (Zp (YM (a:= "list") (b:= "tuple")) rfl G.isinstance Zbx (Za (pv 1) (Za (Zs (Za (ZJ (v:=.ty "list") rfl G.list Zfi rfl) (Za (ZJ (v:=.ty "tuple") rfl G.tuple Zev rfl) Zb))) Zb)))) Zr Zv)
   (Zc (ZQ (PW.pt (Jl (YJ (YL (pv 1))) (YI (YJ (YL (pv 0)))))) (Zj (Zw (YB (UW (YL (pv 0))) (Yz (UW (YL (pv 1))))))) Zv)
   (Zj (Zw (YB (Z5 Y4 (Zp (ZD (c:= "bool")) rfl G.isinstance Zbx (Za (pv 0) (Za (ZJ (v:=.ty "bool") rfl G.bool boot_bool rfl) Zb)))
     (Zp (ZD (c:= "bool")) rfl G.isinstance Zbx (Za (pv 1) (Za (ZJ (v:=.ty "bool") rfl G.bool boot_bool rfl) Zb))) (bO _))
    (Yz (Z5 Y4 (pv 0) (pv 1) (bO _))))))),?_⟩
  refine⟨_,rfl,aZ,fun t ht=> ?_⟩
  have s1:=Zq (o:=.tup [V.ty "list",V.ty "tuple"]) ht
  rcases r with ⟨i,rfl,rfl⟩ |⟨rfl,rfl⟩
  ·refine⟨_,t,_,_,rfl,ah.of Ze,.inl ⟨i,rfl,rfl⟩,(show _=some false from rfl),_,rfl,aP ?_⟩
   refine⟨_,rfl,_,rfl,aP ⟨_,rfl,_,rfl,aP ?_⟩⟩
   refine⟨_,rfl,_,_,_,rfl,.int i,(show _=some false from rfl),_,rfl,_,_,_,rfl,.int i,(show _=some false from rfl),rfl,_,rfl,?_⟩
   refine aX ⟨_,rfl,_,rfl,rfl,?_⟩
   have e:decide (V.int i=V.int i)=true:=ZaT rfl
   rw[e]
   exact q _ s1
  ·refine⟨_,t,_,_,rfl,ah.of Ze,.inr (.inl ⟨rfl,rfl⟩),(show _=some false from rfl),_,rfl,aP ?_⟩
   refine⟨_,rfl,_,rfl,aX (aX ⟨_,rfl,_,rfl,aX ⟨_,rfl,?_⟩⟩)⟩
   have e:decide (V.af=V.af)=true:=ZaT rfl
   exact q _ s1
end
section
def ud (Y:Cx) (cl:List (Str×Addr)) (x:Str) (v:V) (H:Hp) (s:Shared):Prop:=∃c u,cl.lookup x=some c/\s.heap.IsCell c (some u)/\RelV v u/\H c=none/\c∉aR Y.stack
def Oa (so si:Scope):Bool:=si.names.all fun z=>z.2 !=.free||so.names.lookup z.1==some .cell||so.names.lookup z.1==some .free
def Z7 {X:Cx}{scope:Scope}(h:Oa X.env.scope scope=true):∀z∈scope.names,z.2=.free->X.env.kindOf z.1=some .cell∨X.env.kindOf z.1=some .free:=fun z hz e=>by
 have:=Zbj.mp h z hz
 simp only[Zfj,ZgR,ne_eq,Zaj]at this
 rcases this with (h |h) |h
 ·exact absurd e h
 ·exact .inl h
 ·exact .inr h
end
section
variable {Y:Cx}{pins:List (Addr×Obj)}{σ:L2.St}{H:Hp}{s:Shared}
def ID {i:Nat}{x:Str}{v:V}{scope:Scope}(I:Inv Y pins σ H s) (hi:Y.N[i]? =some x) (kH:σ[i]? =some (some v)) (hk:Y.env.scope.names.lookup x=some .cell) (fG:Y.fn x=true) (fZ:(x,NameKind.free)∈scope.names):ud Y (dm scope Y.env) x v H s:=by
 obtain⟨m,hn,hl⟩:=I.loc
 obtain⟨u,r,l⟩:=hl i x v hi kH (.inr (.inl hk))
 obtain⟨c,hc⟩:=WS (env:=Y.env) fZ
 have e1:=(Yl hc).1
 rcases l with ⟨aQ,_⟩ |⟨_,c',bH,mD⟩
 ·have:Y.env.scope.names.lookup x=some .local:=aQ
  rw[hk]at this
  cases this
 ·rw[bH]at e1
  have e2:c=c':=e1
  subst e2
  refine⟨c,u,hc,mD,r,I.gk x c bH,fun hm=> ?_⟩
  rcases Zao.mp (I.uF c hm) with z |z
  ·exact I.iO x c bH z
  ·obtain⟨_,o,ho,_⟩:=I.ok.eI.mem z
   exact absurd (ZaE (Zar ho) (I.ok.kX x c fG bH)) (ZbI _)
def GC {scope:Scope}(h:(dm scope env).lookup z=some c):(z,NameKind.free)∈scope.names:=(Yl h).2
end
section
variable {X:Cx}{cS c P fR:Addr}{fn:Str}{kf:Nat}{ps:List Str}{sp:Sp}
abbrev lq (X:Cx):Str:=X.env.qual++ "<lambda>"
def Y1 (h:TabAt H P q) (s:ae H H'):TabAt H' P q:=by
 obtain⟨ps,h1,h2,h3⟩:=h
 exact⟨ps,s _ _ h1,h2,fun pos cv z=>by obtain⟨d,e,g⟩:=h3 pos cv z;exact⟨d,e,s _ _ g⟩⟩
structure LCtx (X:Cx) (cS c P fR:Addr) (fn:Str) (kf:Nat) (ps:List Str) (sp:Sp):Prop where
 lam:xF X c P
 hR:∀b',Def X.prog X.w X.K X.mg b' (kf+2) "_law_word" ["_law_call"] (ng X.prog X.w X.K X.mg b' cS (kf+1))
 hU:∀b',aY X.prog X.w X.K X.mg b' kf fn ps sp
 room:bW (kf+2) X.A
 mR:X.mg "_law_word" =some (.ref fR)
 kR:PySem.W.keepIn X.K (.ref fR)=true
def cB (fn x y z:Str) (p1 p2 p3 p4 p5:Pos):Expr:=.Call (.Name fn p1) [.Name x p2,.Name y p3,.Name z p4] [] p5
structure LN (X:Cx) (x:Str) (i:Nat):Prop where
 nx:X.N[i]? =some x
 kx:X.env.scope.names.lookup x=some .cell
 fx:X.fn x=true
def oS (sp:Sp) (vs:List V) (C:Addr) (H:Hp):Prop:=∀Q' E',(∀e H',ae H H'->E' (.ref e) (some C) H')->sp vs H Q' E'
end
section
def xl (h:TabAt H P q) (s:au p H H') (hp:H p=some o) (h1:∀ps,o≠.bY ps) (h2:∀c,o≠ig c q):TabAt H' P q:=by
 obtain⟨ps,e,t,f⟩:=h
 refine⟨ps,s _ _ e fun z=>by rw[z,hp]at e;cases e;exact h1 _ rfl,t,fun pos cv z=> ?_⟩
 obtain⟨d,e1,e2⟩:=f pos cv z
 exact⟨d,e1,s _ _ e2 fun z=>by rw[z,hp]at e2;cases e2;exact h2 _ rfl⟩
def YY {K:Zht}{H:Hp}{P:Addr}{ps:Array Value}{v:V}(t:bR K H v) (h:H P=some (.bY ps)):v≠.ref P:=fun z=>by
 obtain⟨T,ty⟩:=t
 subst z
 cases ty with
 |lst e=>rw[h]at e;cases e
 |cJ e=>rw[h]at e;cases e
 |tup e=>rw[h]at e;cases e
 |dK e=>rw[h]at e;cases e
 |dT e=>rw[h]at e;cases e
end
section
variable {X:Cx}{cS c P fR:Addr}{fn:Str}{kf:Nat}{ps:List Str}{sp:Sp}
structure mO (params:Arguments) (body:Expr) (scope:Scope) (N:List Str):Prop where
 kind:scope.kind=.function
 co:scope.isCoroutine=false
 gen:scope.isGenerator=false
 gQ:∀z∈scope.names,z.2≠.cell
 only:∀z∈scope.names,z.2=.free->z.1∈N
 free:∀x∈N,scope.names.lookup x=some .free
 bind:∀(q:Str) (cl:List (Str×Addr)) (pm:Value) (c:Addr) (ct:Value),bindArgs (PySem.W.kla_fn "<lambda>" q params body scope cl pm (.ref c) ct) ⟨[],[]⟩=pure []
def j9 (X:Cx) (kf:Nat) (C:Addr) (f:Addr) (q:Str) (bd:Expr) (scope:Scope) (cl:List (Str×Addr)) (N:List Str) (ws:List V) (Pre:Hp->Prop):Prop:=
 ∀(bq:Heap) (cc:Addr) (A:Around) (outer:List Env) (s2:Shared) (H2:Hp) (Q2:VK) (E2:XK),bW kf (A.deeper (PySem.W.envX q scope s2.heap.objs.size f (.ref cc) cl))->Pre H2->(∀e H',ae H2 H'->E2 (.ref e) (some C) H')->
  ∃t,PE (gz X.prog X.w X.K X.mg bq N q scope f (.ref cc) cl A outer s2 H2 E2) bd t/\t (ws.map some) H2 Q2
def Zcq {pins:List (Addr×Obj)}{σ:L2.St}{H:Hp}{s:Shared}{f C:Addr}{iC:Nat}{q:Str}{params:Arguments}{bd:Expr}{scope:Scope}{cl:List (Str×Addr)}{Q:VK}{N:List Str}{ws:List V}{Pre:Hp->Prop}(L:LCtx X cS c P fR fn kf ps sp)
  (LS:mO params bd scope N) (I:Inv X pins σ H s) (hl:jA H f q params bd scope cl) (hlen:ws.length=N.length) (dE:∀(i:Nat) x v,N[i]? =some x->ws[i]? =some v->ud X cl x v H s) (cP:∀z c,cl.lookup z=some c->(z,NameKind.free)∈scope.names)
  (AA:∀a b c,cl.lookup a=some c->cl.lookup b=some c->a=b) (M:il X.K X.mg cS C iC) (bad:j9 X kf C f q bd scope cl N ws Pre) (pre:Pre H) (hq:∀H',ae H H'->Q (.str (wordOf iC)) H'):
  wpAny (model X.prog X.w) X.A (call (.ref fR) [.ref f]) (EP X pins σ Q) X.xe s:=by
 obtain⟨bq,st,e0,bK⟩:=I.rebase
 obtain⟨pm,cc,ct,hf,hc⟩:=hl
 have T:Cells bq scope cl N ws:=⟨hlen,fun u hu=>by
   rcases hu with hu |hu
   ·exact absurd rfl (LS.gQ _ (ZbV hu))
   ·exact LS.only _ (ZbV hu) rfl,fun i a v h1 h2=>by
   obtain⟨ax,ux,lx,⟨ox,gx,dx⟩,rx,nx,fx⟩:=dE i a v h1 h2
   exact⟨LS.free a (Zbc h1),ax,ux,lx,⟨ox,bK _ _ gx nx fx,dx⟩,rx⟩,fun u c h=>LS.only _ (cP u c h) rfl,AA⟩
 have FL:aA X.prog X.w X.K X.mg bq (aC X.prog X.w) (kf+1) f (PySem.W.kla_fn "<lambda>" q params bd scope cl pm (.ref cc) ct) []
   (fun vs H2 Q2 E2=> (vs=[]/\H2 f=some (nH f q params bd scope cl pm cc ct)/\H2 cc=some (ig cc q))/\Pre H2/\∀e H',ae H2 H'->E2 (.ref e) (some C) H'):=by
  refine HA (k:=kf) T LS.kind LS.co LS.gen LS.gQ (fun vs H2 Q2 E2 h=>h.1) fun A outer s2 H2 Q2 E2 fA h=> ?_
  exact bad bq cc A outer s2 H2 Q2 E2 fA h.2.1 h.2.2
 obtain⟨Rx,FD,FR,cH,hk,hb⟩:=L.hR bq
 rw[L.mR]at cH
 cases cH
 refine ZgO (ZdQ (FR.run X.A X.stack s H ⟨[.ref f],[]⟩ [.ref f] [.ref f] Q E0 L.room e0 (hb s [.ref f] I.cD rfl) (.cons rfl .nil)
  ⟨f,_,_,C,iC,rfl,M,fun h ai=> ?_,FL,fun s2=> .of_eq (LS.bind q cl pm cc ct),fun Q' E' hE=> ⟨⟨rfl,hf,hc⟩,pre,hE⟩,hq⟩) fun r s' h=> ?_)
 ·have z:h.get? f=some _:=(ai f _ hf).1
  exact⟨_,_,_,_,z⟩
 ·cases r with
  |error e=>exact h.elim
  |ok fl=>
   cases fl with
   |ret u=>exact I.after h
   |next=>exact False.elim h
   |brk=>exact False.elim h
   |cont=>exact False.elim h
def KQ (X:Cx) (P:Addr) (iC:Nat) (idx:List Nat) (Pre:List V->Hp->Prop):TE:=fun σ H Q=> ∃ws:List V,ws.length=idx.length/\(∀(k i:Nat) v,idx[k]? =some i->ws[k]? =some v->σ[i]? =some (some v))/\TabAt H P (lq X)/\(∀H',au P H H'->Pre ws H')/\∀H',au P H H'->TabAt H' P (lq X)->Q (.str (wordOf iC)) H'
def XA {params:Arguments}{scope:Scope}{bd:Expr}{p lp pos:Pos}{C:Addr}{iC:Nat}{N:List Str}{idx:List Nat}{Pre:List V->Hp->Prop}(L:LCtx X cS c P fR fn kf ps sp) (LS:mO params bd scope N) (hN:idx.length=N.length) (LNs:∀(k:Nat) x i,N[k]? =some x->idx[k]? =some i->LN X x i) (hg:Gl X "_law_word") (AL:defaultsOf params X.env=([],[]))
  (fZ:∀z∈scope.names,z.2=.free->X.env.kindOf z.1=some .cell∨X.env.kindOf z.1=some .free) (M:il X.K X.mg cS C iC) (bad:∀f ws,ws.length=N.length->j9 X kf C f (lq X) bd scope (dm scope X.env) N ws (Pre ws)):
  PE X (.Call (.Name "_law_word" p) [.Lambda params bd scope lp] [] pos) (KQ X P iC idx Pre):=by
 intro pins s σ H Q I h
 obtain⟨ws,vZ,kH,tab,pre,q⟩:=h
 refine Zdh (Je I hg L.mR ?_ .d)
 have ha:PA X [.Lambda params bd scope lp] _:=Za (Yp L.lam AL fZ) Zb
 refine Zf0 (h₀:=X.base) I.ok.mod.nJ L.kR (aq (ha pos pins s σ H (fun vs H1=> ∃f,vs=[.ref f]/\au P H H1/\TabAt H1 P (lq X)/\jA H1 f (lq X) params bd scope (dm scope X.env)) I ⟨tab,fun f H1 sx nf t1 l1=> ⟨f,rfl,sx,t1,l1⟩⟩) fun us s1 ⟨vs,H1,I1,r,f,ev,sx,t1,l1⟩=> ⟨I1.cD,?_⟩) rfl rfl
 subst ev
 obtain⟨u,rfl,ru⟩:=ZfU r
 cases ru
 refine Zcq L LS I1 l1 (by rw[vZ,hN]) (fun i x v h1 h2=> ?_) (fun z c h=>GC h) (fun a b c h1 h2=> ?_) M (bad f ws (by rw[vZ,hN])) (pre H1 sx) fun H2 s2=>q H2 (sx.trans s2.x) (Y1 t1 s2)
 ·have hi:i<idx.length:=by
   have:=(Zab.mp h1).1
   omega
  have ei:=Zal hi
  have n:=LNs i x _ h1 ei
  exact ID I1 n.nx (kH i _ v ei h2) n.kx n.fx (ZbV (LS.free x (Zbc h1)))
 obtain⟨e1,m1⟩:=Yl h1
 obtain⟨e2,m2⟩:=Yl h2
 obtain⟨c1,g1⟩:=I1.ok.has a (fZ _ m1 rfl)
 obtain⟨c2,g2⟩:=I1.ok.has b (fZ _ m2 rfl)
 rw[g1]at e1
 rw[g2]at e2
 have z1:c1=c2:=by
  have y1:_=c1:=e1
  have y2:_=c2:=e2
  rw[<-y1,<-y2]
 subst z1
 exact I1.ok.inj _ _ _ g1 g2
end
section
variable {Y:Cx}{cS fR:Addr}{kf:Nat}
def Zcp {pins:List (Addr×Obj)}{σ:L2.St}{H:Hp}{s:Shared}{f C:Addr}{iC:Nat}{q:Str}{params:Arguments}{bd:Expr}{scope:Scope}{cl:List (Str×Addr)}{Q:VK}{N:List Str}{ws:List V}{Pre:Hp->Prop}
  (hR:∀b',Def Y.prog Y.w Y.K Y.mg b' (kf+2) "_law_word" ["_law_call"] (ng Y.prog Y.w Y.K Y.mg b' cS (kf+1))) (room:bW (kf+2) Y.A) (mR:Y.mg "_law_word" =some (.ref fR))
  (LS:mO params bd scope N) (I:Inv Y pins σ H s) (hl:jA H f q params bd scope cl) (hlen:ws.length=N.length) (dE:∀(i:Nat) x v,N[i]? =some x->ws[i]? =some v->ud Y cl x v H s) (cP:∀z c,cl.lookup z=some c->(z,NameKind.free)∈scope.names)
  (AA:∀a b c,cl.lookup a=some c->cl.lookup b=some c->a=b) (M:il Y.K Y.mg cS C iC) (bad:j9 Y kf C f q bd scope cl N ws Pre) (pre:Pre H) (hq:∀H',ae H H'->Q (.str (wordOf iC)) H'):
  wpAny (model Y.prog Y.w) Y.A (call (.ref fR) [.ref f]) (EP Y pins σ Q) Y.xe s:=by
 obtain⟨bq,st,e0,bK⟩:=I.rebase
 obtain⟨pm,cc,ct,hf,hc⟩:=hl
 have T:Cells bq scope cl N ws:=⟨hlen,fun u hu=>by
   rcases hu with hu |hu
   ·exact absurd rfl (LS.gQ _ (ZbV hu))
   ·exact LS.only _ (ZbV hu) rfl,fun i a v h1 h2=>by
   obtain⟨ax,ux,lx,⟨ox,gx,dx⟩,rx,nx,fx⟩:=dE i a v h1 h2
   exact⟨LS.free a (Zbc h1),ax,ux,lx,⟨ox,bK _ _ gx nx fx,dx⟩,rx⟩,fun u c h=>LS.only _ (cP u c h) rfl,AA⟩
 have FL:aA Y.prog Y.w Y.K Y.mg bq (aC Y.prog Y.w) (kf+1) f (PySem.W.kla_fn "<lambda>" q params bd scope cl pm (.ref cc) ct) []
   (fun vs H2 Q2 E2=> (vs=[]/\H2 f=some (nH f q params bd scope cl pm cc ct)/\H2 cc=some (ig cc q))/\Pre H2/\∀e H',ae H2 H'->E2 (.ref e) (some C) H'):=by
  refine HA (k:=kf) T LS.kind LS.co LS.gen LS.gQ (fun vs H2 Q2 E2 h=>h.1) fun A outer s2 H2 Q2 E2 fA h=> ?_
  exact bad bq cc A outer s2 H2 Q2 E2 fA h.2.1 h.2.2
 obtain⟨Rx,FD,FR,cH,hk,hb⟩:=hR bq
 rw[mR]at cH
 cases cH
 refine ZgO (ZdQ (FR.run Y.A Y.stack s H ⟨[.ref f],[]⟩ [.ref f] [.ref f] Q E0 room e0 (hb s [.ref f] I.cD rfl) (.cons rfl .nil)
  ⟨f,_,_,C,iC,rfl,M,fun h ai=> ?_,FL,fun s2=> .of_eq (LS.bind q cl pm cc ct),fun Q' E' hE=> ⟨⟨rfl,hf,hc⟩,pre,hE⟩,hq⟩) fun r s' h=> ?_)
 ·have z:h.get? f=some _:=(ai f _ hf).1
  exact⟨_,_,_,_,z⟩
 ·cases r with
  |error e=>exact h.elim
  |ok fl=>
   cases fl with
   |ret u=>exact I.after h
   |next=>exact False.elim h
   |brk=>exact False.elim h
   |cont=>exact False.elim h
end
section
variable {X:Cx}{cS c P fR:Addr}{kf:Nat}
def VQ (I0:Inv X p0 lD H0 s0) (hf:∀b∈fp,cC X p0 H0 b) (c0:ud X (dm C0 X.env) x v H0 s0) (hk:X.env.scope.names.lookup x=some .cell)
  (J:Inv (aS X N' scope C s0 H0 fp) pins σ H s):ud (aS X N' scope C s0 H0 fp) (dm C0 X.env) x v H s:=by
 obtain⟨c,u,h1,⟨o,h2,h3⟩,h4,h5,h6⟩:=c0
 have u0:Un (aR X.stack) fp H0 H s0.heap s.heap:=J.base
 have nD:c∉fp:=fun hm=>by
  obtain⟨a,ha⟩:=I0.ok.has x (.inl hk)
  have e1:=(Yl h1).1
  rw[ha]at e1
  have z:c=a:=e1
  subst z
  obtain⟨_,_,_,_,f4,_⟩:=hf c hm
  exact f4 x c ha rfl
 exact⟨c,u,h1,⟨o,u0.keep c o h2 h5 h6 nD,h3⟩,h4,u0.free c o h2 h5 nD,h6⟩
structure Ci (X:Cx) (cS:Addr) (kf:Nat) (lD:L2.St) (H:Hp) (f:Addr) (iC:Nat) (params:Arguments) (bd:Expr) (scope:Scope) (N:List Str) (idx:List Nat) (ws:List V) (C:Addr) (Pre:Hp->Prop):Prop where
 ls:mO params bd scope N
 hN:idx.length=N.length
 ln:∀(k:Nat) x i,N[k]? =some x->idx[k]? =some i->LN X x i
 vZ:ws.length=idx.length
 kH:∀(k i:Nat) v,idx[k]? =some i->ws[k]? =some v->lD[i]? =some (some v)
 fr:∀z∈scope.names,z.2=.free->X.env.kindOf z.1=some .cell∨X.env.kindOf z.1=some .free
 lam:jA H f (lq X) params bd scope (dm scope X.env)
 mr:il X.K X.mg cS C iC
 body:j9 X kf C f (lq X) bd scope (dm scope X.env) N ws Pre
 pre:Pre H
def KR (X:Cx) (cS:Addr) (kf:Nat) (lD:L2.St):TE:=fun σ H Q=> ∃f iC,σ[0]? =some (some (.ref f))/\(∃params bd scope N idx ws C Pre,Ci X cS kf lD H f iC params bd scope N idx ws C Pre)/\∀H',ae H H'->Q (.str (wordOf iC)) H'
def Io {N':List Str}{bs:Scope}{B:Addr}{s0:Shared}{H0:Hp}{fp:List Addr}{p0:List (Addr×Obj)}{lD:L2.St}{p p' pos:Pos}{cn:Str}
  (hR:∀b',Def X.prog X.w X.K X.mg b' (kf+2) "_law_word" ["_law_call"] (ng X.prog X.w X.K X.mg b' cS (kf+1))) (room:bW (kf+2) X.A) (mR:X.mg "_law_word" =some (.ref fR)) (kR:PySem.W.keepIn X.K (.ref fR)=true) (I0:Inv X p0 lD H0 s0) (hf:∀b∈fp,cC X p0 H0 b)
  (hg:Gl (aS X N' bs B s0 H0 fp) "_law_word") (hv:PE (aS X N' bs B s0 H0 fp) (.Name cn p') (kg 0)):
  PE (aS X N' bs B s0 H0 fp) (.Call (.Name "_law_word" p) [.Name cn p'] [] pos) (KR X cS kf lD):=by
 intro pins s σ H Q J h
 obtain⟨f,iC,kH,⟨params,bd,scope,N,idx,ws,C,Pre,ask⟩,q⟩:=h
 refine Zdh (Je J hg mR ?_ .d)
 have ha:PA (aS X N' bs B s0 H0 fp) [.Name cn p'] _:=Za hv Zb
 refine Zf0 (h₀:=X.base) J.ok.mod.nJ kR (aq (ha pos pins s σ H (fun vs H1=>vs=[.ref f]/\H1=H) J ⟨_,kH,rfl,rfl⟩) fun us s3 ⟨vs,H1,J1,r,ev,eh⟩=> ⟨J1.cD,?_⟩) rfl rfl
 subst ev eh
 obtain⟨u,rfl,ru⟩:=ZfU r
 cases ru
 refine Zcp (Y:=aS X N' bs B s0 H0 fp) (kf:=kf) hR room mR ask.ls J1 ask.lam (by rw[ask.vZ,ask.hN]) (fun i x v h1 h2=> ?_) (fun z c h=>GC h) (fun a b c h1 h2=> ?_) ask.mr ask.body ask.pre q
 ·have hi:i<idx.length:=by
   have:=(Zab.mp h1).1
   rw[ask.hN]
   exact this
  have ei:=Zal hi
  have n:=ask.ln i x _ h1 ei
  exact VQ I0 hf (ID I0 n.nx (ask.kH i _ v ei h2) n.kx n.fx (ZbV (ask.ls.free x (Zbc h1)))) n.kx J1
 obtain⟨e1,m1⟩:=Yl h1
 obtain⟨e2,m2⟩:=Yl h2
 obtain⟨c1,g1⟩:=I0.ok.has a (ask.fr _ m1 rfl)
 obtain⟨c2,g2⟩:=I0.ok.has b (ask.fr _ m2 rfl)
 rw[g1]at e1
 rw[g2]at e2
 have z1:c1=c2:=by
  have y1:_=c1:=e1
  have y2:_=c2:=e2
  rw[<-y1,<-y2]
 subst z1
 exact I0.ok.inj _ _ _ g1 g2
def qD (fn x y:Str) (p1 p2 p3 p4:Pos):Expr:=.Call (.Name fn p1) [.Name x p2,.Name y p3] [] p4
def xb {scope:Scope}(aQ:k'<=kf) (hU:∀b',aY X.prog X.w X.K X.mg b' k' fn ps sp) (gl:scope.names.lookup fn=some .globalImplicit)
  (kx:scope.names.lookup x=some .free) (ky:scope.names.lookup y=some .free) (kz:scope.names.lookup z=some .free) (dx:(x==("__debug__" :Str))=false) (dy:(y==("__debug__" :Str))=false) (dz:(z==("__debug__" :Str))=false)
  (ex:(x==("__classdict__" :Str))=false) (ey:(y==("__classdict__" :Str))=false) (ez:(z==("__classdict__" :Str))=false) (ji:(fn==("__debug__" :Str))=false):
  j9 X kf C f q (cB fn x y z p1 p2 p3 p4 p5) scope cl [x,y,z] [vx,vy,vz] (oS sp [vx,vy,vz] C):=by
 intro bq cc A outer s2 H2 Q2 E2 hr pre hE
 obtain⟨g,fd,F,hg,hk,hb⟩:=hU bq
 refine⟨_,Yt (X:=gz X.prog X.w X.K X.mg bq [x,y,z] q scope f (.ref cc) cl A outer s2 H2 E2) F (hr.mono aQ) gl hg hk hb .nil (E:=E2) (pS (X:=gz X.prog X.w X.K X.mg bq [x,y,z] q scope f (.ref cc) cl A outer s2 H2 E2) (fun e s' z=>z) rfl rfl rfl)
  (Za (Yh (i:=0) rfl (.inr (.inr kx)) dx ex) (Za (Yh (i:=1) rfl (.inr (.inr ky)) dy ey) (Za (Yh (i:=2) rfl (.inr (.inr kz)) dz ez) Zb))) ji,?_⟩
 exact⟨vx,rfl,vy,rfl,vz,rfl,pre Q2 E2 hE⟩
def xc {scope:Scope}(aQ:k'<=kf) (hU:∀b',aY X.prog X.w X.K X.mg b' k' fn ps sp) (gl:scope.names.lookup fn=some .globalImplicit)
  (kx:scope.names.lookup x=some .free) (ky:scope.names.lookup y=some .free) (dx:(x==("__debug__" :Str))=false) (dy:(y==("__debug__" :Str))=false)
  (ex:(x==("__classdict__" :Str))=false) (ey:(y==("__classdict__" :Str))=false) (ji:(fn==("__debug__" :Str))=false):
  j9 X kf C f q (qD fn x y p1 p2 p3 p4) scope cl [x,y] [vx,vy] (oS sp [vx,vy] C):=by
 intro bq cc A outer s2 H2 Q2 E2 hr pre hE
 obtain⟨g,fd,F,hg,hk,hb⟩:=hU bq
 refine⟨_,Yt (X:=gz X.prog X.w X.K X.mg bq [x,y] q scope f (.ref cc) cl A outer s2 H2 E2) F (hr.mono aQ) gl hg hk hb .nil (E:=E2) (pS (X:=gz X.prog X.w X.K X.mg bq [x,y] q scope f (.ref cc) cl A outer s2 H2 E2) (fun e s' z=>z) rfl rfl rfl)
  (Za (Yh (i:=0) rfl (.inr (.inr kx)) dx ex) (Za (Yh (i:=1) rfl (.inr (.inr ky)) dy ey) Zb)) ji,?_⟩
 exact⟨vx,rfl,vy,rfl,pre Q2 E2 hE⟩
abbrev bJ:Arguments:= {posonlyargs:=[],args:=[],vararg:=none,kwonlyargs:=[],kw_defaults:=[],kwarg:=none,defaults:=[]}
def lu (X:Cx) (H:Hp) (v:V) (b:Expr×Scope):Prop:=∃f:Addr,v=.ref f/\jA H f (lq X) bJ b.1 b.2 (dm b.2 X.env)
def lu.same (h:lu X H v b) (s:ae H H'):lu X H' v b:=by
 obtain⟨f,e,l⟩:=h
 exact⟨f,e,l.same s⟩
def lu.x (h:lu X H v b) (s:au p H H') (hp:H p=some o) (ho:∀F,o≠.ext F):lu X H' v b:=by
 obtain⟨f,e,pm,c,ct,h1,h2⟩:=h
 exact⟨f,e,pm,c,ct,s _ _ h1 (fun z=>by rw[z,hp]at h1;cases h1;exact ho _ rfl),s _ _ h2 (fun z=>by rw[z,hp]at h2;cases h2;exact ho _ rfl)⟩
structure mM (X:Cx) (P L:Addr) (H0 H:Hp) (bs:List (Expr×Scope)):Prop where
 sx:au P H0 H
 fr:H0 L=none
 tb:TabAt H P (lq X)
 ls:∃vs,H L=some (.lst vs)/\Paired (lu X H) vs bs
def mM.lst {bs:List (Expr×Scope)}(h:mM X P L H0 H bs):∃vs,H L=some (.lst vs)/\vs.length=bs.length:=by
 obtain⟨vs,hL,pr⟩:=h.ls
 exact⟨vs,hL,Zcf pr⟩
def mM.bQ {L:Addr}{H0 H H1:Hp}{bs:List (Expr×Scope)}{vs:List V}(h:mM X P L H0 H bs) (hv:H L=some (.lst vs)) (s1:au P H H1):H1 L=some (.lst vs):=by
 obtain⟨tp,mF,_⟩:=h.tb
 exact s1 _ _ hv fun z=>by rw[z,mF]at hv;cases hv
def mM.app (h:mM X P L H0 H bs) (hv:H L=some (.lst vs)) (s1:au P H H1) (t1:TabAt H1 P (lq X)) (l1:jA H1 f (lq X) bJ bd sc (dm sc X.env)):mM X P L H0 (upd H1 L (.lst (vs++[.ref f]))) (bs++[(bd,sc)]):=by
 have f9:=h.bQ hv s1
 obtain⟨sx,fr,tb,ph,hL,pr⟩:=h
 rw[hv]at hL
 cases hL
 obtain⟨tp,mF,_⟩:=id tb
 have x2:au L H1 (upd H1 L (.lst (vs++[.ref f]))):=au.upd
 have p1:Paired (lu X (upd H1 L (.lst (vs++[.ref f])))) vs bs:=Paired.dS pr fun v b h=> (h.x s1 mF (fun _ z=>by cases z)).x x2 f9 (fun _ z=>by cases z)
 exact⟨Jr (sx.trans s1) fr,fr,xl t1 x2 f9 (fun _ z=>by cases z) (fun _ z=>by cases z),_,Ze,Ze5 p1 (lu.x (b:=(bd,sc)) ⟨f,rfl,l1⟩ x2 f9 (fun _ z=>by cases z))⟩
def HF (tb:TabAt H0 P (lq X)) (s1:au P H0 H1) (t1:TabAt H1 P (lq X)) (l1:jA H1 f (lq X) bJ bd sc (dm sc X.env)) (hL:H1 L=none):mM X P L H0 (upd H1 L (.lst [.ref f])) [(bd,sc)]:=by
 obtain⟨tp1,RC,_⟩:=id t1
 have s2:=Zq (o:=.lst [V.ref f]) hL
 have NO:L≠P:=fun z=>by rw[z,RC]at hL;cases hL
 have fr:H0 L=none:=by
  cases h:H0 L with
  |none=>rfl
  |some u=>rw[s1 _ _ h NO]at hL;cases hL
 exact⟨s1.trans s2.x,fr,Y1 t1 s2,_,Ze,.cons ⟨f,rfl,l1.same s2⟩ .nil⟩
end
section
def jW (ps:List Addr) (H H':Hp):Prop:=∀b o,H b=some o->b∉ps->H' b=some o
def jW.trans (a:jW ps H H1) (b:jW ps H1 H2):jW ps H H2:=fun c o h n=>b c o (a c o h n) n
def ae.xs {ps:List Addr}{H H1:Hp}(a:ae H H1):jW ps H H1:=fun c o h _=>a c o h
def au.xs (a:au p H H1) (h:p∈ps):jW ps H H1:=fun c o e n=>a c o e fun z=>n (by rw[z];exact h)
def Ux {K:Zht}{H:Hp}{Pt:Addr}{ps:Array Value}{v:V}(t:fe K H v) (h:H Pt=some (.bY ps)):jY Pt H v:=⟨YY t.1 h,fun xs e y hy=>YY (t.2 xs e y hy) h⟩
def ck.x {H H':Hp}{p:Addr}{x:V}{wd hg:Int}(b:ck H x wd hg) (s:au p H H') (hn:x≠.ref p):ck H' x wd hg:=by
 obtain⟨a,e,h⟩:=Zu b.1
 subst e
 exact⟨Zn (s _ _ h fun z=>hn (by rw[z])),b.2⟩
def ck.bY {H:Hp}{Pt:Addr}{ps:Array Value}{x:V}{wd hg:Int}(b:ck H x wd hg) (h:H Pt=some (.bY ps)):x≠.ref Pt:=by
 obtain⟨a,e,h'⟩:=Zu b.1
 subst e
 intro z
 cases z
 rw[h]at h'
 cases h'
def bL.xt {K:Zht}{H H':Hp}{Pt:Addr}{ps:Array Value}{x:V}{l:Addr}{xs:List V}{wd hg:Int}(a:bL K H x l xs wd hg) (s:au Pt H H') (hp:H Pt=some (.bY ps)):bL K H' x l xs wd hg:=
 ⟨a.bd.x s (a.bd.bY hp),s _ _ a.at_ (fun z=>by have h:=a.at_;rw[z,hp]at h;cases h),a.ly⟩
end
section
variable {P:Program}{w:World}{K:Zht}{mg:Str->Option Value}{base:Heap}
def vN {scope:Scope}(h:(decide (scope.kind=.function)&& !scope.isCoroutine&& !scope.isGenerator&&scope.names.all (fun z=>z.2 !=.cell)&&scope.names.all (fun u=>u.2 !=.free||(u.1==x||(u.1==y||u.1==z)))&&(scope.names.lookup x==some .free)&&(scope.names.lookup y==some .free)&&(scope.names.lookup z==some .free))=true):mO bJ (cB fn x y z p1 p2 p3 p4 p5) scope [x,y,z]:=by
 simp only[ZaR,Zbv,Zb4,Zaj,Zbj,ZgR,ne_eq,Zfj]at h
 obtain⟨⟨⟨⟨⟨⟨⟨h1,h2⟩,h3⟩,h4⟩,h5⟩,h6⟩,h7⟩,h8⟩:=h
 refine⟨h1,h2,h3,h4,fun u hu e=> ?_,fun u hu=> ?_,fun _ _ _ _ _=>rfl⟩
 ·rcases h5 u hu with z |z
  ·exact absurd e z
  ·simpa using z
 ·simp only[Zao,Zbk,Zca]at hu
  rcases hu with rfl |rfl |rfl
  ·exact h6
  ·exact h7
  ·exact h8
def vO {scope:Scope}(h:(decide (scope.kind=.function)&& !scope.isCoroutine&& !scope.isGenerator&&scope.names.all (fun z=>z.2 !=.cell)&&scope.names.all (fun u=>u.2 !=.free||(u.1==x||u.1==y))&&(scope.names.lookup x==some .free)&&(scope.names.lookup y==some .free))=true):mO bJ (qD fn x y p1 p2 p3 p4) scope [x,y]:=by
 simp only[ZaR,Zbv,Zb4,Zaj,Zbj,ZgR,ne_eq,Zfj]at h
 obtain⟨⟨⟨⟨⟨⟨h1,h2⟩,h3⟩,h4⟩,h5⟩,h6⟩,h7⟩:=h
 refine⟨h1,h2,h3,h4,fun u hu e=> ?_,fun u hu=> ?_,fun _ _ _ _ _=>rfl⟩
 ·rcases h5 u hu with z |z
  ·exact absurd e z
  ·simpa using z
 ·simp only[Zao,Zbk,Zca]at hu
  rcases hu with rfl |rfl
  ·exact h6
  ·exact h7
def vQ {X:Cx}{x y z:Str}{i j l:Nat}(a:LN X x i) (b:LN X y j) (c:LN X z l):∀(k:Nat) u m,([x,y,z]:List Str)[k]? =some u->([i,j,l]:List Nat)[k]? =some m->LN X u m
 |0,_,_,h1,h2=>by cases h1;cases h2;exact a
 |1,_,_,h1,h2=>by cases h1;cases h2;exact b
 |2,_,_,h1,h2=>by cases h1;cases h2;exact c
def rV {X:Cx}{x y:Str}{i j:Nat}(a:LN X x i) (b:LN X y j):∀(k:Nat) u m,([x,y]:List Str)[k]? =some u->([i,j]:List Nat)[k]? =some m->LN X u m
 |0,_,_,h1,h2=>by cases h1;cases h2;exact a
 |1,_,_,h1,h2=>by cases h1;cases h2;exact b
def xk {σ:L2.St}{x y z:V}{i j l:Nat}(a:σ[i]? =some (some x)) (b:σ[j]? =some (some y)) (c:σ[l]? =some (some z)):∀(k m:Nat) (v:V),([i,j,l]:List Nat)[k]? =some m->([x,y,z]:List V)[k]? =some v->σ[m]? =some (some v)
 |0,_,_,h1,h2=>by cases h1;cases h2;exact a
 |1,_,_,h1,h2=>by cases h1;cases h2;exact b
 |2,_,_,h1,h2=>by cases h1;cases h2;exact c
def at2 {σ:L2.St}{x y:V}{i j:Nat}(a:σ[i]? =some (some x)) (b:σ[j]? =some (some y)):∀(k m:Nat) (v:V),([i,j]:List Nat)[k]? =some m->([x,y]:List V)[k]? =some v->σ[m]? =some (some v)
 |0,_,_,h1,h2=>by cases h1;cases h2;exact a
 |1,_,_,h1,h2=>by cases h1;cases h2;exact b
end
section
variable {P:Program}{w:World}{K:Zht}{mg:Str->Option Value}{base:Heap}{cB cL:Addr}
abbrev vd:Stmt:=top 21
def yu (K:Zht):Sp:=fun vs H Q _=> ∃x a b,vs=[x,.int a,.int b]/\bR K H x/\bz x a b=true/\Q .af H
def CU:bh ["number", "least", "most"] ["number", "least", "most"] (ay vd):=ZN (by decide+kernel)
def Tw (F:aG K "need_whole_within" "need_whole_within" vd f fd) (D1:Def P w K mg base 2 "is_whole_within" ["thing", "least", "most"] (pB K)):aA P w K mg base aE 3 f fd ["number", "least", "most"] (yu K):=by
 refine F.ok CU (fun vs H Q E h=> ?_) (fun ao A outer s H vs Q E hr h=> ?_)
 ·obtain⟨x,a,b,rfl,_⟩:=h
  rfl
 ·obtain⟨x,a,b,rfl,t,hw,q⟩:=h
  refine⟨_,Zj (ZQ (ZZ (ZM (Zh D1 hr (Za (pv 0) (Za (pv 1) (Za (pv 2) Zb)))))) Zr Zv),?_⟩
  refine⟨x,rfl,_,rfl,_,rfl,x,a,b,rfl,t,_,rfl,?_⟩
  rw[hw]
  exact aP q
def yt (K:Zht) (cN:Addr):Sp:=fun vs H _ E=> ∃x b,vs=[x,.int 0,.int b]/\0<=b/\b<=12/\bR K H x/\bz x 0 b=false/\∀e H',ae H H'->E (.ref e) (some cN) H'
def Xa (F:aG K "need_whole_within" "need_whole_within" vd f fd) (X:Exc K mg "NoNumber" cN) (D1:Def P w K mg base 2 "is_whole_within" ["thing", "least", "most"] (pB K)):aA P w K mg base (aC P w) 3 f fd ["number", "least", "most"] (yt K cN):=by
 refine F.fO CU (fun vs H Q E h=> ?_) (fun ao A outer s H vs Q E hr h=> ?_)
 ·obtain⟨x,b,rfl,_⟩:=h
  rfl
 ·obtain⟨x,b,rfl,b0,b1,t,hw,q⟩:=h
  refine⟨_,Zj (ZQ (ZZ (ZM (Zh D1 hr (Za (pv 0) (Za (pv 1) (Za (pv 2) Zb)))))) (Zj (YQ Zdf X.m X.x rfl (Za (Im ZS (pv 1) ZS (pv 2) ZS) Zb))) Zv),?_⟩
  refine⟨x,rfl,_,rfl,_,rfl,x,0,b,rfl,t,_,rfl,?_⟩
  rw[hw]
  have c:b=0∨b=1∨b=2∨b=3∨b=4∨b=5∨b=6∨b=7∨b=8∨b=9∨b=10∨b=11∨b=12:=.o
  refine aX ⟨_,rfl,.d,_,rfl,0,rfl,.d,.d,_,rfl,.d,_,rfl,b,rfl,?_,?_,_,rfl,?_,fun z=> ⟨bZ,fun e=>q e H (ae.refl H)⟩⟩<;>
   rcases c with rfl |rfl |rfl |rfl |rfl |rfl |rfl |rfl |rfl |rfl |rfl |rfl |rfl<;>decide
end
section
def cE (wd c:Int):Int:=if c<2 then 0 else wd - 1
def de (hg c:Int):Int:=if c%2=0 then 0 else hg - 1
end
section
variable {P:Program}{w:World}{K:Zht}{mg:Str->Option Value}{base:Heap}{aB aL aN:Addr}
abbrev vf:Stmt:=top 37
def uO (K:Zht):Sp:=fun vs H Q _=> ∃(x:V) (l:Addr) (xs:List V) (wd hg c:Int),vs=[x,.ref l,.int c]/\bL K H x l xs wd hg/\0<=c/\c<=3/\∀H',ae H H'->Q .af H'
def CW:bh ["board", "lay", "corner"] ["board", "lay", "corner"] (ay vf):=ZN (by decide+kernel)
def T6 (hL:mg "LAST_CORNER" =some (.int 3 tk)) (F:aG K "need_corner" "need_corner" vf f fd) (D1:Def P w K mg base 6 "need_lay" ["board", "lay"] (lG K)) (D2:Def P w K mg base 3 "need_whole_within" ["number", "least", "most"] (yu K)):aA P w K mg base aE 7 f fd ["board", "lay", "corner"] (uO K):=by
 refine F.ok CW (fun vs H Q E h=> ?_) (fun ao A outer s H vs Q E hr h=> ?_)
 ·obtain⟨x,l,xs,wd,hg,c,rfl,_⟩:=h
  rfl
 ·obtain⟨x,l,xs,wd,hg,c,rfl,la,c0,c3,q⟩:=h
  refine⟨_,Zc (Zz (Zh D1 hr (Za (pv 0) (Za (pv 1) Zb))))
   (Zj (Zz (Zh D2 (hr.mono .d) (Za (pv 2) (Za Zd (Za (Yi (v:=.int 3) rfl hL ⟨_,rfl⟩) Zb)))))),?_⟩
  refine Zl ⟨_,rfl,_,rfl,x,.ref l,wd,hg,rfl,la.bd,la.pl,by rw[Zn la.at_];exact la.ly,fun H1 s1=> ?_⟩
  dsimp only
  exact⟨_,rfl,.int c,0,3,rfl,⟨_,.int c⟩,Hw c0 c3,q H1 s1⟩
def Km (K:Zht) (aB aL aN:Addr) (H:Hp) (x y z:V) (C:Addr):Prop:=
 Kl K aB aL H x y C∨(C=aN/\∃(l:Addr) (xs:List V) (wd hg:Int),y=.ref l/\bL K H x l xs wd hg/\bR K H z/\bz z 0 3=false)
def yx (K:Zht) (aB aL aN:Addr):Sp:=fun vs H _ E=> ∃x y z C,vs=[x,y,z]/\Km K aB aL aN H x y z C/\∀e H',ae H H'->E (.ref e) (some C) H'
def Tt (hL:mg "LAST_CORNER" =some (.int 3 tk)) (F:aG K "need_corner" "need_corner" vf f fd) (D1:Def P w K mg base 6 "need_lay" ["board", "lay"] (lG K)) (R1:aY P w K mg base 6 "need_lay" ["board", "lay"] (yv K aB aL)) (R2:aY P w K mg base 3 "need_whole_within" ["number", "least", "most"] (yt K aN)):aA P w K mg base (aC P w) 7 f fd ["board", "lay", "corner"] (yx K aB aL aN):=by
 refine F.fO CW (fun vs H Q E h=> ?_) (fun ao A outer s H vs Q E hr h=> ?_)
 ·obtain⟨x,y,z,C,rfl,_⟩:=h
  rfl
 ·obtain⟨x,y,z,C,rfl,b,q⟩:=h
  rcases b with b |⟨rfl,l,xs,wd,hg,rfl,la,t,hz⟩
  ·refine⟨_,Zc (Zz (ZW R1 hr (Za (pv 0) (Za (pv 1) Zb)))) Zr,?_⟩
   exact⟨x,rfl,y,rfl,x,y,C,rfl,b,q⟩
  ·refine⟨_,Zc (Zz (Zh D1 hr (Za (pv 0) (Za (pv 1) Zb))))
    (Zj (Zz (ZW R2 (hr.mono .d) (Za (pv 2) (Za Zd (Za (Yi (v:=.int 3) rfl hL ⟨_,rfl⟩) Zb)))))),?_⟩
   refine Zl ⟨_,rfl,_,rfl,x,.ref l,wd,hg,rfl,la.bd,la.pl,by rw[Zn la.at_];exact la.ly,fun H1 s1=> ?_⟩
   dsimp only
   exact⟨z,rfl,z,3,rfl,.d,.d,s1.iD t,hz,fun e H' s'=>q e H' (s1.trans s')⟩
abbrev zi:Stmt:=top 38
def yO (K:Zht):Sp:=fun vs H Q _=> ∃(x:V) (wd hg c:Int),vs=[x,.int c]/\ck H x wd hg/\0<=c/\c<=3/\∀(t:Addr) H',ae H H'->H' t=some (.tup [.int (cE wd c),.int (de hg c)])->Q (.ref t) H'
def uX:bh ["board", "corner", "wide", "high", "found"] ["board", "corner"] (ay zi):=ZN (by decide+kernel)
def Vz (F:aG K "corner_point" "corner_point" zi f fd):aA P w K mg base aE 1 f fd ["board", "corner"] (yO K):=by
 refine F.ok uX (fun vs H Q E h=> ?_) (fun ao A outer s H vs Q E hr h=> ?_)
 ·obtain⟨x,wd,hg,c,rfl,_⟩:=h
  rfl
 ·obtain⟨x,wd,hg,c,rfl,bd,c0,c3,q⟩:=h
  obtain⟨a,rfl,ha⟩:=Zu bd.1
  refine⟨_,Zc (YK (pv 0) (Z1 rfl (Zm (ZE (i:=2) uX.nd rfl (Or.inl rfl)) (Zm (ZE (i:=3) uX.nd rfl (Or.inl rfl)) ZR))))
   (Zc (Zy (i:=4) uX.nd rfl (Or.inl rfl) (ZH (Za (Zs (Za Zd (Za Zd Zb))) (Za (Zs (Za Zd (Za (Zo ZU (pv 3) Zd) Zb))) (Za (Zs (Za (Zo ZU (pv 2) Zd) (Za Zd Zb))) (Za (Zs (Za (Zo ZU (pv 2) Zd) (Za (Zo ZU (pv 3) Zd) Zb))) Zb))))))
   (Zj (Zw (ZF ZY (pv 4) (pv 1) (fun _ _=>rfl))))),?_⟩
  refine Zl (ZB ⟨_,rfl,a,_,rfl,ah.of ha,rfl,_,_,rfl,_,_,rfl,rfl,?_⟩)
  dsimp only[List.set]
  refine Zl (ZB ⟨aZ,fun t1 h1=> ?_⟩)
  obtain⟨H1,zz,s1,e1⟩:=aH (o:=.tup [V.int 0,V.int 0]) h1
  rw[zz]
  refine⟨_,rfl,_,_,rfl,rfl,aZ,fun t2 h2=> ?_⟩
  obtain⟨H2,zz,s2,e2⟩:=aH (o:=.tup [V.int 0,V.int (hg - 1)]) h2
  rw[zz]
  refine⟨_,rfl,_,_,rfl,rfl,aZ,fun t3 h3=> ?_⟩
  obtain⟨H3,zz,s3,e3⟩:=aH (o:=.tup [V.int (wd - 1),V.int 0]) h3
  rw[zz]
  refine⟨_,rfl,_,_,rfl,rfl,_,rfl,_,_,rfl,rfl,aZ,fun t4 h4=> ?_⟩
  obtain⟨H4,zz,s4,e4⟩:=aH (o:=.tup [V.int (wd - 1),V.int (hg - 1)]) h4
  rw[zz]
  refine⟨qZ,fun L hL=>Zt ?_⟩
  dsimp only[List.set]
  obtain⟨H5,zz,s5,e5⟩:=aH (o:=.lst [V.ref t1,V.ref t2,V.ref t3,V.ref t4]) hL
  rw[zz]
  have sA:=s1.trans (s2.trans (s3.trans (s4.trans s5)))
  refine⟨_,rfl,_,rfl,L,[V.ref t1,V.ref t2,V.ref t3,V.ref t4],c,?_⟩
  rcases (by omega:c=0∨c=1∨c=2∨c=3) with rfl |rfl |rfl |rfl
  ·exact⟨V.ref t1,rfl,rfl,ag.of e5,rfl,q _ _ sA ((s2.trans (s3.trans (s4.trans s5))) _ _ e1)⟩
  ·exact⟨V.ref t2,rfl,rfl,ag.of e5,rfl,q _ _ sA ((s3.trans (s4.trans s5)) _ _ e2)⟩
  ·exact⟨V.ref t3,rfl,rfl,ag.of e5,rfl,q _ _ sA ((s4.trans s5) _ _ e3)⟩
  ·exact⟨V.ref t4,rfl,rfl,ag.of e5,rfl,q _ _ sA (s5 _ _ e4)⟩
end
section
variable {P:Program}{w:World}{K:Zht}{mg:Str->Option Value}{base:Heap}
abbrev y9:Stmt:=top 53
def yp (K:Zht):Sp:=fun vs H Q _=> ∃(q:Addr) (b:Int),vs=[.ref q,.int 0,.int b]/\cj H q/\0<=b/\b<=12/\∀v H',au q H H'->cj H' q->bR K H' v->bz v 0 b=false->v≠.ref q->Q v H'
def CQ:bh ["_law_state_here", "_law_low", "_law_high", "_law_some"] ["_law_state_here", "_law_low", "_law_high"] (ay y9):=ZN (by decide+kernel)
def Tv (F:aG K "_law_no_number" "_law_no_number" y9 f fd) (D1:Def P w K mg base 1 "_law_take" ["_law_state_here", "_law_many"] ki):aA P w K mg base aE 2 f fd ["_law_state_here", "_law_low", "_law_high"] (yp K):=by
 refine F.ok CQ (fun vs H Q E h=> ?_) (fun ao A outer s H vs Q E hr h=> ?_)
 ·obtain⟨q,b,rfl,_⟩:=h
  rfl
 ·obtain⟨q,b,rfl,st,b0,b1,k⟩:=h
  refine⟨_,Zc (Zy (i:=3) CQ.nd rfl (Or.inl rfl) (ZH (Za (Zo ZU (pv 1) Zd) (Za (Zo ZT (pv 2) Zd) (Za Yn (Za Wb (Za ZS (Za (Zs (Za (pv 1) Zb)) (Za (ZH (Za (pv 1) Zb)) (Za (Zo Wy Zd Zd) (Za (Zo ZU Zd (Zo Wy Zd Zd)) (Za Wb Zb))))))))))))
   (Zj (Zw (ZF ZY (pv 3) (Zh D1 hr (Za (pv 0) (Za Zd Zb))) (fun _ _=>rfl)))),?_⟩
  refine Zl (ZB ⟨_,rfl,_,_,rfl,rfl,_,rfl,_,_,rfl,rfl,_,rfl,bZ,fun t ht=> ?_⟩)
  obtain⟨H1,zz,s1,e1⟩:=aH (o:=.tup [V.int 0]) ht
  rw[zz]
  refine⟨_,rfl,bZ,fun m hm=> ?_⟩
  have s2:=Zq (o:=.lst [V.int 0]) hm
  have e2:upd H1 m (.lst [V.int 0]) m=some (.lst [V.int 0]):=Ze
  have nm:=s1.free hm
  generalize upd H1 m (HO.lst [V.int 0])=H2 at s2 e2
  refine⟨_,_,rfl,rfl,⟨.d,.d,.d⟩,_,_,rfl,rfl,⟨.d,.d,.d⟩,_,_,rfl,rfl,(by show 10<=sizeLine;decide),fun L hL=>Zt ?_⟩
  dsimp only[List.set]
  generalize hS:[V.int (0 - 1),V.int (b+1),V.af,V.bl true,V.str "0",V.ref t,V.ref m,V.int (10^(39:Int).toNat),V.int (0 - 10^(39:Int).toNat),V.bl false]=S
  have lS:S.length=10:=by rw[<-hS];rfl
  show ya _ _ [some (.ref q),some (.int 0),some (.int b),some (.ref L)] (upd H2 L (.lst S))
  obtain⟨H3,zz,s3,e3⟩:=aH (o:=.lst S) hL
  rw[zz]
  have sA:=s1.trans (s2.trans s3)
  have ba:=st.same sA
  obtain⟨u0,v0,gq,_⟩:=id st
  have Dq:t≠q:=fun z=>by rw[z,gq]at ht;cases ht
  have Dy:m≠q:=fun z=>by rw[z,gq]at nm;cases nm
  have NL:L≠q:=fun z=>by
   have:=(s1.trans s2) _ _ gq
   rw[<-z,hL]at this
   cases this
  refine⟨_,rfl,_,rfl,q,10,rfl,ba,.d,.d,fun r o h0 h10 cX=> ?_⟩
  have x4:au q H3 (upd H3 q o):=au.upd
  have az:r.toNat<S.length:=by rw[lS];omega
  have sQ:=Zal az
  have jP:=Yv sQ
  rw[Zb9 h0]at jP
  refine⟨L,_,_,_,rfl,rfl,ag.of (x4 _ _ e3 NL),jP,?_⟩
  have cH:S[r.toNat]∈S:=ZeC az
  generalize S[r.toNat]=v at cH
  have zw:(1000:Int)<=10^(39:Int).toNat:=.d
  have good:bR K (upd H3 q o) v/\bz v 0 b=false/\v≠.ref q:=by
   rw[<-hS]at cH
   generalize (10:Int)^(39:Int).toNat=Lr at cH zw
   have wf:∀i:Int,(i<0∨b<i)->bz (.int i) 0 b=false:=fun i h=>by
    show(decide (0<=i)&&decide (i<=b))=false
    rcases h with h |h
    ·rw[ZaK .o,Zek]
    ·rw[ZaK (show ¬i<=b by omega),Zel]
   simp only[Zao,Zbk,Zca]at cH
   rcases cH with rfl |rfl |rfl |rfl |rfl |rfl |rfl |rfl |rfl |rfl
   ·exact⟨⟨_,.int _⟩,wf _ .o,fun z=>by cases z⟩
   ·exact⟨⟨_,.int _⟩,wf _ .o,fun z=>by cases z⟩
   ·exact⟨⟨_,.af⟩,rfl,fun z=>by cases z⟩
   ·exact⟨⟨_,.bl _⟩,rfl,fun z=>by cases z⟩
   ·exact⟨⟨_,.str _⟩,rfl,fun z=>by cases z⟩
   ·exact⟨⟨_,.tup (x4 _ _ ((s2.trans s3) _ _ e1) Dq)⟩,rfl,fun z=>Dq (by cases z;rfl)⟩
   ·exact⟨⟨_,.lst (x4 _ _ (s3 _ _ e2) Dy)⟩,rfl,fun z=>Dy (by cases z;rfl)⟩
   ·exact⟨⟨_,.int _⟩,wf _ .o,fun z=>by cases z⟩
   ·exact⟨⟨_,.int _⟩,wf _ .o,fun z=>by cases z⟩
   ·exact⟨⟨_,.bl _⟩,rfl,fun z=>by cases z⟩
  exact k v _ (fun c u hc hn=>x4 _ _ (sA _ _ hc) hn) cX good.1 good.2.1 good.2.2
end
section
def BI (h:1<=wd):0<=cE wd c/\cE wd c<wd:=by
 unfold cE
 split<;>omega
def BF (h:1<=hg):0<=de hg c/\de hg c<hg:=by
 unfold de
 split<;>omega
end
section
variable {P:Program}{w:World}{K:Zht}{mg:Str->Option Value}{base:Heap}
abbrev zd:Stmt:=top 55
def yG (K:Zht):Sp:=fun vs H Q _=> ∃(x:V) (wd hg c:Int),vs=[x,.int c]/\ck H x wd hg/\0<=c/\c<=3/\∀(t:Addr) H',ae H H'->H' t=some (.tup [.int (cE wd c),.int (de hg c)])->Q (.ref t) H'
def LU:bh ["_law_board", "_law_corner_here"] ["_law_board", "_law_corner_here"] (ay zd):=ZN (by decide+kernel)
def VE (F:aG K "_law_corner" "_law_corner" zd f fd):aA P w K mg base aE 1 f fd ["_law_board", "_law_corner_here"] (yG K):=by
 refine F.ok LU (fun vs H Q E h=> ?_) (fun ao A outer s H vs Q E hr h=> ?_)
 ·obtain⟨x,wd,hg,c,rfl,_⟩:=h
  rfl
 ·obtain⟨x,wd,hg,c,rfl,bd,c0,c3,q⟩:=h
  obtain⟨a,rfl,ha⟩:=Zu bd.1
  refine⟨_,Zj (Zw (ZF ZY (ZH (Za (Zs (Za Zd (Za Zd Zb))) (Za (Zs (Za Zd (Za (Zo ZU (ZF ZP (pv 0) Zd (fun _ _=>rfl)) Zd) Zb))) (Za (Zs (Za (Zo ZU (ZF ZP (pv 0) Zd (fun _ _=>rfl)) Zd) (Za Zd Zb))) (Za (Zs (Za (Zo ZU (ZF ZP (pv 0) Zd (fun _ _=>rfl)) Zd) (Za (Zo ZU (ZF ZP (pv 0) Zd (fun _ _=>rfl)) Zd) Zb))) Zb))))) (pv 1) (fun _ _=>rfl))),?_⟩
  refine⟨aZ,fun t1 h1=> ?_⟩
  obtain⟨H1,zz,s1,e1⟩:=aH (o:=.tup [V.int 0,V.int 0]) h1
  rw[zz]
  refine⟨_,rfl,a,_,_,_,rfl,rfl,ah.of (s1 _ _ ha),bQ,_,_,rfl,rfl,aZ,fun t2 h2=> ?_⟩
  obtain⟨H2,zz,s2,e2⟩:=aH (o:=.tup [V.int 0,V.int (hg - 1)]) h2
  rw[zz]
  refine⟨_,rfl,a,_,_,_,rfl,rfl,ah.of ((s1.trans s2) _ _ ha),gM,_,_,rfl,rfl,aZ,fun t3 h3=> ?_⟩
  obtain⟨H3,zz,s3,e3⟩:=aH (o:=.tup [V.int (wd - 1),V.int 0]) h3
  rw[zz]
  refine⟨_,rfl,a,_,_,_,rfl,rfl,ah.of ((s1.trans (s2.trans s3)) _ _ ha),gM,_,_,rfl,rfl,_,rfl,a,_,_,_,rfl,rfl,ah.of ((s1.trans (s2.trans s3)) _ _ ha),bQ,_,_,rfl,rfl,aZ,fun t4 h4=> ?_⟩
  obtain⟨H4,zz,s4,e4⟩:=aH (o:=.tup [V.int (wd - 1),V.int (hg - 1)]) h4
  rw[zz]
  refine⟨qZ,fun L hL=> ?_⟩
  obtain⟨H5,zz,s5,e5⟩:=aH (o:=.lst [V.ref t1,V.ref t2,V.ref t3,V.ref t4]) hL
  rw[zz]
  have sA:=s1.trans (s2.trans (s3.trans (s4.trans s5)))
  refine⟨_,rfl,L,[V.ref t1,V.ref t2,V.ref t3,V.ref t4],c,?_⟩
  rcases (by omega:c=0∨c=1∨c=2∨c=3) with rfl |rfl |rfl |rfl
  ·exact⟨V.ref t1,rfl,rfl,ag.of e5,rfl,q _ _ sA ((s2.trans (s3.trans (s4.trans s5))) _ _ e1)⟩
  ·exact⟨V.ref t2,rfl,rfl,ag.of e5,rfl,q _ _ sA ((s3.trans (s4.trans s5)) _ _ e2)⟩
  ·exact⟨V.ref t3,rfl,rfl,ag.of e5,rfl,q _ _ sA ((s4.trans s5) _ _ e3)⟩
  ·exact⟨V.ref t4,rfl,rfl,ag.of e5,rfl,q _ _ sA (s5 _ _ e4)⟩
end
section
def z1 (k:Int):Int:=if k=0 then 1 else 0
end
end U
namespace U.S
open PySem L2 PyProof.Rows
section
variable {P:Program}{w:World}{K:Zht}{mg:Str->Option Value}{base:Heap}
structure j7 (wd hg:Int) (xs:List V):Prop where
 len:(xs.length:Int)=wd
 row:∀r∈rowsOf xs,bz r 0 (hg - 1)=true
 nd:(rowsOf xs).Nodup
def j7.is (h:j7 wd hg xs):bI wd hg (some xs)=true:=by
 show(decide ((xs.length:Int)=wd)&&((rowsOf xs).all fun r=>bz r 0 (hg - 1))&&decide (rowsOf xs).Nodup)=true
 rw[ZaT h.len,ZaT h.nd,Zbj.mpr h.row]
 rfl
end
section
def pO:V->Option Int
 | .int r=>some r
 |_=>none
def rowAt (xs:List V) (i:Nat):Option Int:=xs[i]?.bind pO
abbrev aT:=Int×Int×Int×Int
def uH (xs:List V) (o l:Nat):Option aT:=(rowAt xs l).bind fun a=> (rowAt xs o).map fun b=> ((o:Int) - l,b - a,(l:Int),(o:Int))
def uG (xs:List V) (o j:Nat):List aT:=(List.range j).filterMap (uH xs o)
def iG (xs:List V) (n:Nat):List aT:=(List.range n).flatMap fun o=>uG xs o o
def qE (H:Hp) (v:V) (q:aT):Prop:=∃t t':Addr,v=.ref t/\H t=some (.tup [.ref t',.int q.2.2.1,.int q.2.2.2])/\H t'=some (.tup [.int q.1,.int q.2.1])
def tQ (xs:List V):Prop:=∀x∈xs,x=.af∨∃i,x=.int i
def j7.ok {wd hg:Int}{xs:List V}(h:j7 wd hg xs):tQ xs:=fun x hx=>by
 by_cases e:x=.af
 ·exact .inl e
 ·have m:x∈rowsOf xs:=ZbM.mpr ⟨hx,by simp[e]⟩
  have q:=h.row x m
  cases x with
  |int i=>exact .inr ⟨i,rfl⟩
  |_=>cases q
end
section
variable {P:Program}{w:World}{K:Zht}{mg:Str->Option Value}{base:Heap}
def Paired.at {α β:Type}{F:α->β->Prop} :∀{lQ:List α}{lP:List β}{i:Nat}{a:α},Paired F lQ lP->lQ[i]? =some a->∃b,lP[i]? =some b/\F a b
 |_,_,_,_,.nil,e=>by simp at e
 |_,_,0,_,.cons r _,e=>by simp at e;subst e;exact⟨_,rfl,r⟩
 |_,_,i+1,a,.cons _ t,e=>by
  obtain⟨u,h1,h2⟩:=Paired.at (i:=i) (a:=a) t (by simpa using e)
  exact⟨u,by simpa using h1,h2⟩
end
section
def Mx (K:Zht):R2:=fun x y H Q=> ∃a b ys,x=.ref a/\y=.ref b/\ah K H a []/\ah K H b ys/\Q (.ref b) H
def ko (K:Zht):R2:=fun x y H Q=>Mx K x y H Q∨zr K x y H Q
def kA {X:Cx} :bu X (binaryOp .Add) (ko X.K):=Ij.or HM
def bD (xs:List V):List (Int×Int):=(List.range xs.length).filterMap fun l=> (rowAt xs l).map fun r=> ((l:Int),r)
def tT (H:Hp) (v:V) (q:Int×Int):Prop:=∃t:Addr,v=.ref t/\H t=some (.tup [.int q.1,.int q.2])
def jz (H:Hp) (v:V) (q:aT):Prop:=∃t:Addr,v=.ref t/\H t=some (.tup [.int q.1,.int q.2.1,.int q.2.2.1,.int q.2.2.2])
def tT.same (h:tT H v q) (s:ae H H'):tT H' v q:=by
 obtain⟨t,e,h1⟩:=h
 exact⟨t,e,s _ _ h1⟩
def jz.same (h:jz H v q) (s:ae H H'):jz H' v q:=by
 obtain⟨t,e,h1⟩:=h
 exact⟨t,e,s _ _ h1⟩
def pairsOf (ps:List (Int×Int)) (a:Int×Int) (j:Nat):List aT:=((ps.take j).filter fun b=>decide (a.1<b.1)).map fun b=> (a.1,a.2,b.1,b.2)
def jI (ps:List (Int×Int)) (i:Nat):List aT:=(ps.take i).flatMap fun a=>pairsOf ps a ps.length
def eR (ps:List (Int×Int)):List aT:=jI ps ps.length
def UY (h:ps[j]? =some b):pairsOf ps a (j+1)=pairsOf ps a j++(if decide (a.1<b.1)=true then [(a.1,a.2,b.1,b.2)] else []):=by
 unfold pairsOf
 rw[ZbO,h,Zej,ZbC]
 cases hh:decide (a.1<b.1)<;>simp_all
def UX {ps:List (Int×Int)}(h:ps[i]? =some a):jI ps (i+1)=jI ps i++pairsOf ps a ps.length:=by
 unfold jI
 rw[ZbO,h,Zg1]
 simp
end
section
variable {P:Program}{w:World}{K:Zht}{mg:Str->Option Value}{base:Heap}
abbrev lJ:Stmt:=top 27
def bL (H:Hp) (x y:V) (wd hg:Int) (xs:List V):Prop:=ck H x wd hg/\bA H y=some xs/\j7 wd hg xs
def bL.same (h:bL H x y wd hg xs) (s:ae H H'):bL H' x y wd hg xs:=⟨h.1.same s,s.bA h.2.1,h.2.2⟩
def bL.pl {H:Hp}{x y:V}{wd hg:Int}{xs:List V}(h:bL H x y wd hg xs):fe K H y:=by
 obtain⟨a,rfl,ha⟩:=Zu h.2.1
 refine⟨⟨_,.tup ha⟩,fun zs e z hz=> ?_⟩
 rw[h.2.1]at e
 cases e
 rcases h.2.2.ok z hz with rfl |⟨i,rfl⟩
 ·exact⟨_,.af⟩
 ·exact⟨_,.int i⟩
def lG:Sp:=fun vs H Q _=> ∃x y wd hg xs,vs=[x,y]/\bL H x y wd hg xs/\∀H',ae H H'->Q .af H'
def rE:bh ["board", "lay"] ["board", "lay"] (ay lJ):=ZN (by decide+kernel)
def zD (F:aG K "need_lay" "need_lay" lJ f fd) (D1:Def P w K mg base 5 "is_lay" ["board", "thing"] (pF K)):aA P w K mg base aE 6 f fd ["board", "lay"] lG:=by
 refine F.ok rE (fun vs H Q E h=> ?_) (fun ao A outer s H vs Q E hr h=> ?_)
 ·obtain⟨x,y,wd,hg,xs,rfl,_⟩:=h
  rfl
 ·obtain⟨x,y,wd,hg,xs,rfl,l,q⟩:=h
  refine⟨_,Zj (ZQ (ZZ (ZM (Zh D1 hr (Za (pv 0) (Za (pv 1) Zb))))) Zr Zv),?_⟩
  refine⟨x,rfl,y,rfl,x,y,wd,hg,rfl,l.1,l.pl,fun H' sm=> ⟨_,rfl,?_⟩⟩
  rw[l.2.1,l.2.2.is]
  exact aP (q H' sm)
def yn:Sp:=fun vs H Q _=> ∃x y wd hg xs,vs=[x,y]/\bL H x y wd hg xs/\∀(l:Addr) (H':Hp) (ps:List V),ae H H'->H l=none->H' l=some (.lst ps)->Paired (tT H') ps (bD xs)->Q (.ref l) H'
abbrev u9:Stmt:=top 30
def yo:Sp:=fun vs H Q _=> ∃x y wd hg xs,vs=[x,y]/\bL H x y wd hg xs/\∀(l:Addr) (H':Hp) (ps:List V),ae H H'->H l=none->H' l=some (.lst ps)->Paired (jz H') ps (eR (bD xs))->Q (.ref l) H'
def uW:bh ["board", "lay", "found"] ["board", "lay"] (ay u9):=ZN (by decide+kernel)
def M6 (F:aG K "point_pairs" "point_pairs" u9 f fd) (D1:Def P w K mg base 7 "points" ["board", "lay"] yn):aA P w K mg base aE 8 f fd ["board", "lay"] yo:=by
 refine F.ok uW (fun vs H Q E h=> ?_) (fun ao A outer s H vs Q E hr h=> ?_)
 ·obtain⟨x,y,wd,hg,xs,rfl,_⟩:=h
  rfl
 ·obtain⟨x,y,wd,hg,xs,rfl,l,q⟩:=h
  refine⟨_,Zc (Zy (i:=2) uW.nd rfl (Or.inr rfl) (Zh D1 hr (Za (pv 0) (Za (pv 1) Zb))))
   (Zj (Zw (Yc ["line", "row", "other", "there", "found"] 4 [2] (Ys (pv 2))
    (fun C s H fp=>show PG (aS _ _ _ C s H fp) _ (js K 2 (cV (cg 0) (cV (cg 1) jt))) from Z1 rfl (Zm (pb 0) (Zm (pb 1) ZR))) (fun C s H fp=>Z8)
    (fun C s H fp D=>XD rfl rfl rfl (show PI (aS _ _ _ C s H fp) _ _ (DZ K (kg 4)) from Ys (pv 4))
     (show PG (aS _ _ _ C s H fp) _ (js K 2 (cV (cg 2) (cV (cg 3) jt))) from Z1 rfl (Zm (pb 2) (Zm (pb 3) ZR)))
     (Yr (ZO xn (pv 0) (pv 2) (bO _))) (ZI rfl (Zs (Za (pv 0) (Za (pv 1) (Za (pv 2) (Za (pv 3) Zb)))))) (by intro _;rfl) (by intro g' h;cases h))))),?_⟩
  refine⟨x,rfl,y,rfl,x,y,wd,hg,xs,rfl,l,fun fa H1 ps s1 fG hf pr=> ?_⟩
  generalize Eo:bD xs=qs at pr q
  have wt:ps.length=qs.length:=Zcf pr
  have aay:qs.length<=12:=by
   rw[<-Eo]
   unfold bD
   have:=Zfe (fun l:Nat=> (rowAt xs l).map fun r=> ((l:Int),r)) (List.range xs.length)
   rw[Zcb]at this
   have h1:=l.2.2.len
   have h2:=l.1.2.2.1
   omega
  refine⟨_,rfl,fa,rfl,⟨ps,ag.of hf⟩,?_⟩
  refine Ye (xs:=ps) (fun i ys σ H2=> ∃v0 v1 v2 v3,σ=[v0,v1,v2,v3,some (.ref fa)]/\ae H1 H2/\Paired (jz H2) ys (jI qs i)/\ys.length<=i*12) ⟨_,_,_,_,rfl,ae.refl _,.nil,Za2 _⟩ (fun i ys σ H2 _ ⟨_,_,_,_,_,s2,_⟩=>ag.of (s2 _ _ hf)) ?_ ?_
  ·rintro i v ys σ H2 hv ⟨v0,v1,v2,v3,rfl,s2,gE,gZ⟩
   obtain⟨a,Pd,t,rfl,ht⟩:=Paired.at pr hv
   have hi:i<ps.length:=(Zab.mp hv).1
   refine⟨t,_,rfl,ah.of (s2 _ _ ht),rfl,_,_,rfl,_,_,rfl,rfl,?_⟩
   refine⟨_,rfl,fa,rfl,⟨ps,ag.of (s2 _ _ hf)⟩,?_⟩
   refine Ye (xs:=ps) (fun j ys σ H3=> ∃v2 v3,σ=[some (.int a.1),some (.int a.2),v2,v3,some (.ref fa)]/\ae H1 H3/\Paired (jz H3) ys (jI qs i++pairsOf qs a j)/\ys.length<=i*12+j) ⟨_,_,rfl,s2,by simpa[pairsOf] using gE,gZ⟩ (fun i ys σ H2 _ ⟨_,_,_,s2,_⟩=>ag.of (s2 _ _ hf)) ?_ ?_
   ·rintro j v ys σ H3 kJ ⟨v2,v3,rfl,s3,iB,mq⟩
    obtain⟨b,Pc,t',rfl,me⟩:=Paired.at pr kJ
    have hj:j<ps.length:=(Zab.mp kJ).1
    have es:=UY (a:=a) Pc
    refine⟨t',_,rfl,ah.of (s3 _ _ me),rfl,_,_,rfl,_,_,rfl,rfl,?_⟩
    refine⟨_,rfl,_,rfl,_,_,rfl,rfl,_,rfl,?_⟩
    cases hh:decide (a.1<b.1) with
    |true=>
     rw[hh]at es
     refine aX ?_
     refine⟨_,rfl,_,rfl,_,rfl,_,rfl,qZ,fun t4 nV=> ⟨by rw[ZaP];omega,?_⟩⟩
     have s4:ae H3 (upd H3 t4 (.tup [.int a.1,.int a.2,.int b.1,.int b.2])):=fun c o hc=>by rw[Zg (Zi hc nV)];exact hc
     refine⟨_,_,rfl,s3.trans s4,?_,by rw[Zas];simp;omega⟩
     rw[es,Zaq rfl,<-Zbp]
     exact Ze5 (Paired.dS iB fun v q' hq=>hq.same s4) ⟨t4,rfl,Ze⟩
    |false=>
     rw[hh]at es
     refine aP ⟨_,_,rfl,s3,?_,.o⟩
     rw[es,Zam Zav,ZbP]
     exact iB
   ·rintro ys σ H3 ⟨v2,v3,rfl,s3,iB,mq⟩
    refine⟨_,_,_,_,rfl,s3,?_,.o⟩
    rw[UX Pd,<-wt]
    exact iB
  ·rintro ys σ H2 ⟨v0,v1,v2,v3,rfl,s2,gE,gZ⟩ p hp
   have s4:ae H2 (upd H2 p (.lst ys)):=fun c o hc=>by rw[Zg (Zi hc hp)];exact hc
   refine q p _ ys (s1.trans (s2.trans s4)) ((s1.trans s2).free hp) Ze ?_
   rw[wt]at gE
   exact Paired.dS gE fun v q' hq=>hq.same s4
end
section
def nz (xs:List V) (n:Nat):List (Int×Int):=(List.range n).filterMap fun l=> (rowAt xs l).map fun r=> ((l:Int),r)
def Js (xs:List V) (n:Nat):nz xs (n+1)=nz xs n++((rowAt xs n).map fun r=> ((n:Int),r)).toList:=by
 unfold nz
 rw[Zeq,ZgM]
 cases h:rowAt xs n<;>simp[h]
end
section
variable {P:Program}{w:World}{K:Zht}{mg:Str->Option Value}{base:Heap}
abbrev u7:Stmt:=top 28
def CP:bh ["board", "lay"] ["board", "lay"] (ay u7):=ZN (by decide+kernel)
def M4 (F:aG K "points" "points" u7 f fd) (G:Gs mg) (D1:Def P w K mg base 6 "need_lay" ["board", "lay"] lG):aA P w K mg base aE 7 f fd ["board", "lay"] yn:=by
 refine F.ok CP (fun vs H Q E h=> ?_) (fun ao A outer s H vs Q E hr h=> ?_)
 ·obtain⟨x,y,wd,hg,xs,rfl,_⟩:=h
  rfl
 ·obtain⟨x,y,wd,hg,xs,rfl,l,q⟩:=h
  refine⟨_,Zc (Zz (Zh D1 hr (Za (pv 0) (Za (pv 1) Zb))))
   (Zj (Zw (Yc ["line", "row"] 2 [] (HU rfl G.enumerate (Za (pv 1) Zb))
    (fun C s H fp=>show PG (aS _ _ _ C s H fp) _ (js K 2 (cV (cg 0) (cV (cg 1) jt))) from Z1 rfl (Zm (pb 0) (Zm (pb 1) ZR)))
    (fun C s H fp=>Yr (YJ (Wl (pv 1)))) (fun C s H fp D=>ZI rfl (Zs (Za (pv 0) (Za (pv 1) Zb))))))),?_⟩
  refine⟨x,rfl,y,rfl,x,y,wd,hg,xs,rfl,l,fun H1 s1=> ?_⟩
  obtain⟨a,rfl,ha⟩:=Zu (l.same s1).2.1
  have hlen:xs.length<=12:=by
   have h1:=l.2.2.len
   have h2:=l.1.2.2.1
   omega
  refine⟨_,rfl,a,rfl,⟨xs,ah.of ha⟩,?_⟩
  refine ZcD (xs:=xs) (fun i ys σ H2=> ∃v0 v1,σ=[v0,v1]/\ae H1 H2/\Paired (tT H2) ys (nz xs i)/\ys.length<=i) ⟨_,_,rfl,ae.refl _,.nil,Za2 _⟩ (fun i ys σ H2 _ ⟨_,_,_,s2,_⟩=>ah.of (s2 _ _ ha)) ?_ ?_
  ·rintro i v T ys σ H2 hv hT ⟨v0,v1,rfl,s2,gE,gZ⟩
   have hi:i<xs.length:=(Zab.mp hv).1
   have sT:ae H2 (upd H2 T (.par [.int (i:Int),v])):=fun c o hc=>by rw[Zg (Zi hc hT)];exact hc
   have er:rowAt xs i=pO v:=by unfold rowAt;rw[hv];rfl
   refine⟨T,_,rfl,ah.pU Ze,rfl,_,_,rfl,_,_,rfl,rfl,?_⟩
   refine⟨_,rfl,_,rfl,?_⟩
   generalize Fo:upd H2 T (HO.par [V.int (i:Int),v])=H3 at sT
   rcases l.2.2.ok v (Zbc hv) with rfl |⟨r,rfl⟩
   ·refine aP ⟨_,_,rfl,s2.trans sT,?_,.o⟩
    rw[Js,er]
    exact(by simpa[pO] using Paired.dS gE fun v q' hq=>hq.same sT)
   ·refine aX ?_
    refine⟨_,rfl,_,rfl,aZ,fun t ht=> ⟨by rw[ZaP];omega,?_⟩⟩
    have s4:ae H3 (upd H3 t (.tup [.int (i:Int),.int r])):=fun c o hc=>by rw[Zg (Zi hc ht)];exact hc
    refine⟨_,_,rfl,s2.trans (sT.trans s4),?_,by rw[Zas];simp;omega⟩
    rw[Js,er]
    exact Ze5 (Paired.dS gE fun v q' hq=>hq.same (sT.trans s4)) ⟨t,rfl,Ze⟩
  ·rintro ys σ H2 ⟨v0,v1,rfl,s2,gE,gZ⟩ p hp
   have s4:ae H2 (upd H2 p (.lst ys)):=fun c o hc=>by rw[Zg (Zi hc hp)];exact hc
   exact q p _ ys (s1.trans (s2.trans s4)) ((s1.trans s2).free hp) Ze (Paired.dS gE fun v q' hq=>hq.same s4)
end
end U.S
namespace U.S
open PySem L2 PyProof.Rows PyProof.Rows.jV
section
def fh (p:aT):aT:=(p.2.2.1 - p.1,p.2.2.2 - p.2.1,p.1,p.2.2.1)
def oR (ks:List aT):Prop:=(ks.map bF).Pairwise fun a b=>aO b a=false
def qE.same {H H':Hp}{v:V}{q:aT}(h:qE H v q) (s:ae H H'):qE H' v q:=by
 obtain⟨t,t',e,h1,h2⟩:=h
 exact⟨t,t',e,s _ _ h1,s _ _ h2⟩
def Xm (xs:List V):(bD xs).length<=xs.length:=by
 unfold bD
 have:=Zfe (fun l:Nat=> (rowAt xs l).map fun r=> ((l:Int),r)) (List.range xs.length)
 rw[Zcb]at this
 exact this
def IG (f:α->List β) (n:Nat):∀l:List α,(∀a∈l,(f a).length<=n)->(l.flatMap f).length<=l.length*n
 | [],_=>by simp
 |a::l,h=>by
  have h1:=h a Zau
  have h2:=IG f n l fun b hb=>h b (Zap _ hb)
  rw[Zgf,Zas,ZbA,Nat.succ_mul]
  omega
def Zcv (ps:List (Int×Int)):(eR ps).length<=ps.length*ps.length:=by
 unfold eR jI
 rw[Zb1]
 refine IG _ _ _ fun a _=> ?_
 unfold pairsOf
 rw[Zat]
 refine Zcd (ZeP ..) ?_
 rw[ZaU]
 exact Nat.min_le_right ..
def Oc {xs:List V}(l:bL H x y wd hg xs):xs.length<=12:=by
 have h1:=l.2.2.len
 have h2:=l.1.2.2.1
 omega
def Dl (l:bL H x y wd hg xs):(eR (bD xs)).length<=144:=by
 have h1:=Zcv (bD xs)
 have h2:=Xm xs
 have h3:=Oc l
 have h4:(bD xs).length<=12:=.o
 have h5:=Nat.mul_le_mul h4 h4
 omega
end
section
variable {P:Program}{w:World}{K:Zht}{mg:Str->Option Value}{base:Heap}
abbrev u5:Stmt:=top 31
def yk:Sp:=fun vs H Q _=> ∃x y wd hg xs,vs=[x,y]/\bL H x y wd hg xs/\∀(l:Addr) (H':Hp) (rs:List V) (ks:List aT),ae H H'->H l=none->H' l=some (.lst rs)->Paired (qE H') rs ks->ks.Perm ((eR (bD xs)).map fh)->oR ks->Q (.ref l) H'
def CN:bh ["board", "lay"] ["board", "lay"] (ay u5):=ZN (by decide+kernel)
def M0 (F:aG K "steps" "steps" u5 f fd) (G:Gs mg) (D1:Def P w K mg base 8 "point_pairs" ["board", "lay"] yo):aA P w K mg base aE 9 f fd ["board", "lay"] yk:=by
 refine F.ok CN (fun vs H Q E h=> ?_) (fun ao A outer s H vs Q E hr h=> ?_)
 ·obtain⟨x,y,wd,hg,xs,rfl,_⟩:=h
  rfl
 ·obtain⟨x,y,wd,hg,xs,rfl,l,q⟩:=h
  have hu:=hr.units
  refine⟨_,Zj (Zw (Zp (JR (Zee (Ze4 (by decide:2<=64) _) hu)) rfl G.sorted PyProof.Rows.Boot.«sorted» (Za (Yc ["line", "row", "other", "there"] 4 [] (Ys (Zh D1 hr (Za (pv 0) (Za (pv 1) Zb))))
    (fun C s H fp=>show PG (aS _ _ _ C s H fp) _ (js K 4 (cV (cg 0) (cV (cg 1) (cV (cg 2) (cV (cg 3) jt))))) from Z1 rfl (Zm (pb 0) (Zm (pb 1) (Zm (pb 2) (Zm (pb 3) ZR))))) (fun C s H fp=>Z8)
    (fun C s H fp D=>ZI rfl (Zs (Za (Zs (Za (Zo ZU (pv 2) (pv 0)) (Za (Zo ZU (pv 3) (pv 1)) Zb))) (Za (pv 0) (Za (pv 2) Zb)))))) Zb))),?_⟩
  refine⟨x,rfl,y,rfl,x,y,wd,hg,xs,rfl,l,fun fa H1 ps s1 fG hf pr=> ?_⟩
  have hlen:=Dl l
  generalize Eo:eR (bD xs)=qs at pr q hlen
  have wt:ps.length=qs.length:=Zcf pr
  refine⟨fa,rfl,⟨ps,ag.of hf⟩,?_⟩
  refine Ye (xs:=ps) (fun i ys σ H2=> ∃v0 v1 v2 v3,σ=[v0,v1,v2,v3]/\ae H1 H2/\Paired (qE H2) ys ((qs.take i).map fh)/\ys.length<=i) ⟨_,_,_,_,rfl,ae.refl _,.nil,Za2 _⟩ (fun i ys σ H2 _ ⟨_,_,_,_,_,s2,_⟩=>ag.of (s2 _ _ hf)) ?_ ?_
  ·rintro i v ys σ H2 hv ⟨v0,v1,v2,v3,rfl,s2,gE,gZ⟩
   obtain⟨⟨a,b,c,d⟩,hq,tt,rfl,wb⟩:=Jm pr hv
   have hi:i<ps.length:=(Zab.mp hv).1
   refine⟨tt,_,rfl,ah.of (s2 _ _ wb),rfl,_,_,rfl,_,_,rfl,_,_,rfl,_,_,rfl,rfl,?_⟩
   refine⟨_,rfl,_,rfl,c,a,rfl,rfl,_,rfl,_,rfl,d,b,rfl,rfl,aZ,fun t' me=> ?_⟩
   refine⟨_,rfl,_,rfl,yf,fun t ht=> ⟨by rw[ZaP];omega,?_⟩⟩
   generalize AZ:upd H2 t' (HO.tup [V.int (c - a),V.int (d - b)])=H4 at ht
   have s4:ae H2 H4:=fun e o hc=>by rw[<-AZ,Zg (Zi hc me)];exact hc
   have nV:H4 t'=some (.tup [V.int (c - a),V.int (d - b)]):=by rw[<-AZ];exact Ze
   generalize tE:upd H4 t (HO.tup [V.ref t',V.int a,V.int c])=H5
   have s5:ae H4 H5:=fun e o hc=>by rw[<-tE,Zg (Zi hc ht)];exact hc
   have O1:H5 t=some (.tup [V.ref t',V.int a,V.int c]):=by rw[<-tE];exact Ze
   refine⟨_,_,_,_,rfl,s2.trans (s4.trans s5),?_,by rw[Zas];simp;omega⟩
   rw[ZbO,hq,ZbC]
   exact Ze5 (Paired.dS gE fun v q' hq=>hq.same (s4.trans s5)) ⟨t,t',rfl,O1,s5 _ _ nV⟩
  ·rintro ys σ H2 ⟨v0,v1,v2,v3,rfl,s2,gE,gZ⟩ p hp
   have s4:ae H2 (upd H2 p (.lst ys)):=fun c o hc=>by rw[Zg (Zi hc hp)];exact hc
   rw[wt,Zb1]at gE
   refine⟨p,ys,qs.map fh,rfl,ag.of Ze,Paired.dS gE fun v q' hq=>hq.same s4,.o,fun r ph rY En Ph Pe iB=> ?_⟩
   have s5:ae (upd H2 p (.lst ys)) (upd (upd H2 p (.lst ys)) r (.lst ph)):=fun c o hc=>by rw[Zg (Zi hc En)];exact hc
   exact q r _ ph rY (s1.trans (s2.trans (s4.trans s5))) ((s1.trans (s2.trans s4)).free En) Ze (Paired.dS iB fun v q' hq=>qE.same hq s5) Ph Pe
end
section
def Jd (a b:Int) (l m:List Int):aO (a::l) (b::m)=true↔a<b∨(a=b/\aO l m=true):=by
 have z:aO (a::l) (b::m)=if a=b then aO l m else decide (a<b):=rfl
 rw[z]
 by_cases e:a=b
 ·rw[Zaq e]
  constructor
  ·exact fun h=> .inr ⟨e,h⟩
  ·rintro(h |h)
   ·omega
   ·exact h.2
 ·rw[Zam e,Zb4]
  constructor
  ·exact fun h=> .inl h
  ·rintro(h |h)
   ·exact h
   ·exact absurd h.1 e
def JJ:aO [] []=true↔False:=by simp[aO]
def dP (a b:aT):Prop:=a.1=b.1/\a.2.1=b.2.1
instance (a b:aT):Decidable (dP a b):=inferInstanceAs (Decidable (_/\_))
def four (a b:aT):aT:=(a.2.2.1,a.2.2.2,b.2.2.1,b.2.2.2)
def iE (a b:aT):Bool:=aO [a.2.2.1,a.2.2.2] [b.2.2.1,b.2.2.2]
def mP (S:List aT):Option aT->Prop
 |none=> ∀a∈S,∀b∈S,dP a b->iE a b=false
 |some k=> (∃a∈S,∃b∈S,dP a b/\iE a b=true/\k=four a b)/\∀a∈S,∀b∈S,dP a b->iE a b=true->aO (bF (four a b)) (bF k)=false
def mJ (ks:List aT):List (aT×aT):=ks.zip (ks.drop 1)
def i5 (ks:List aT):List aT:=((mJ ks).filter fun p=>decide (dP p.1 p.2)).map fun p=>four p.1 p.2
def nf :b=false↔¬b=true:=by cases b<;>simp
def mid (h1:aO (bF d) (bF h)=false) (h2:aO (bF b) (bF d)=false) (s:dP h b):dP h d/\aO (bF (four h b)) (bF (four h d))=false:=by
 unfold bF at *
 unfold dP at *
 unfold four
 rw[nf]at *
 simp only[Jd,JJ,Zhs,Zca,false_or]at *
 omega
def GS (s:dP a b):aO (bF a) (bF b)=true↔iE a b=true:=by
 unfold bF iE dP at *
 simp only[Jd,JJ,Zhs,Zca]at *
 omega
def GB (hr:oR ks):∀a∈ks,∀b∈ks,dP a b->iE a b=true->∃p∈mJ ks,dP p.1 p.2/\aO (bF (four a b)) (bF (four p.1 p.2))=false:=by
 induction ks with
 |nil=>intro a ha;cases ha
 |cons h r ih=>
  have dn:oR r:=(ZbU.mp hr).2
  have hh:∀d∈r,aO (bF d) (bF h)=false:=fun d hd=> (ZbU.mp hr).1 _ (ZdY hd)
  intro a ha b hb s l
  have kl:=(GS s).mpr l
  rcases Zao.mp ha with rfl |AV
  ·have cT:b∈r:=by
    rcases Zao.mp hb with rfl |hb
    ·have:=YS _ _ kl
     rw[kl]at this;cases this
    ·exact hb
   cases r with
   |nil=>cases cT
   |cons d r'=>
    have g9:aO (bF b) (bF d)=false:=by
     rcases Zao.mp cT with rfl |kN
     ·cases hx:aO (bF b) (bF b) with
      |false=>rfl
      |true=>
       have:=YS _ _ hx
       rw[hx]at this;cases this
     ·exact(ZbU.mp dn).1 _ (ZdY kN)
    obtain⟨m1,m2⟩:=mid (hh d Zau) g9 s
    exact⟨(a,d),Zau,m1,m2⟩
  ·have cT:b∈r:=by
    rcases Zao.mp hb with rfl |hb
    ·have:=hh a AV
     rw[kl]at this;cases this
    ·exact hb
   obtain⟨p,hp,q1,q2⟩:=ih dn a AV b cT s l
   refine⟨p,?_,q1,q2⟩
   cases r with
   |nil=>cases AV
   |cons d r'=>exact Zap _ hp
def Vc {ks:List aT}(hr:oR ks) (hn:ks.Nodup):∀p∈mJ ks,dP p.1 p.2->p.1∈ks/\p.2∈ks/\iE p.1 p.2=true:=by
 induction ks with
 |nil=>intro p hp;cases hp
 |cons h r ih=>
  have dn:oR r:=(ZbU.mp hr).2
  have hh:∀d∈r,aO (bF d) (bF h)=false:=fun d hd=> (ZbU.mp hr).1 _ (ZdY hd)
  have sI:=(Zdv.mp hn)
  intro p hp s
  cases r with
  |nil=>cases hp
  |cons d r'=>
   rcases Zao.mp (show p∈(h,d)::mJ (d::r') from hp) with rfl |hp
   ·refine⟨Zau,Zap _ Zau,(GS s).mp ?_⟩
    cases hx:aO (bF h) (bF d) with
    |true=>rfl
    |false=>
     have e:=Zd0 (HC _ _ hx (hh d Zau))
     rw[e]at sI
     exact absurd Zau sI.1
   ·obtain⟨q1,q2,q3⟩:=ih dn sI.2 p hp s
    exact⟨Zap _ q1,Zap _ q2,q3⟩
def J5 :k∈i5 ks↔∃p∈mJ ks,dP p.1 p.2/\four p.1 p.2=k:=by
 unfold i5
 rw[ZbF]
 constructor
 ·rintro⟨p,hp,e⟩
  rw[ZbM,Zb4]at hp
  exact⟨p,hp.1,hp.2,e⟩
 ·rintro⟨p,hp,s,e⟩
  exact⟨p,ZbM.mpr ⟨hp,ZaT s⟩,e⟩
def Zbh (hr:oR ks) (h:i5 ks=[]):mP ks none:=fun a ha b hb s=>by
 cases hl:iE a b with
 |false=>rfl
 |true=>
  obtain⟨p,hp,q,_⟩:=GB hr a ha b hb s hl
  have:four p.1 p.2∈i5 ks:=J5.mpr ⟨p,hp,q,rfl⟩
  rw[h]at this;cases this
def Zbg {ks:List aT}(hr:oR ks) (hn:ks.Nodup) (hk:k∈i5 ks) (hm:∀k'∈i5 ks,aO (bF k') (bF k)=false):mP ks (some k):=by
 obtain⟨p,hp,s,e⟩:=J5.mp hk
 obtain⟨m1,m2,m3⟩:=Vc hr hn p hp s
 refine⟨⟨p.1,m1,p.2,m2,s,m3,e.symm⟩,fun a ha b hb s' l=> ?_⟩
 obtain⟨p',An,q1,q2⟩:=GB hr a ha b hb s' l
 exact Y6 _ _ _ (hm _ (J5.mpr ⟨p',An,q1,rfl⟩)) q2
def BX (xs:List V) (q:aT):Prop:=∃l o:Nat,l<o/\o<xs.length/\uH xs o l=some q
def Yu {xs:List V} :p∈bD xs↔∃l:Nat,l<xs.length/\rowAt xs l=some p.2/\p.1=(l:Int):=by
 unfold bD
 rw[Zc4]
 constructor
 ·rintro⟨l,hl,e⟩
  rw[Zbs]at e
  obtain⟨r,hr,rfl⟩:=e
  exact⟨l,Zbt.mp hl,hr,rfl⟩
 ·rintro⟨l,hl,hr,e⟩
  refine⟨l,Zbt.mpr hl,?_⟩
  rw[hr,ZeN,<-e]
def V4 {xs:List V} :q∈iG xs xs.length↔BX xs q:=by
 unfold iG uG BX
 simp only[ZeD,Zc4,Zbt]
 constructor
 ·rintro⟨o,ho,l,hl,e⟩
  exact⟨l,o,hl,ho,e⟩
 ·rintro⟨l,o,hl,ho,e⟩
  exact⟨o,ho,l,hl,e⟩
def Yw :uH xs o l=some q↔∃a b,rowAt xs l=some a/\rowAt xs o=some b/\q=((o:Int) - l,b - a,(l:Int),(o:Int)):=by
 unfold uH
 cases h1:rowAt xs l with
 |none=>simp
 |some a=>
  cases h2:rowAt xs o with
  |none=>simp
  |some b=>
   simp only[Option.bind_some,ZeN,Option.some.injEq]
   constructor
   ·rintro rfl
    exact⟨a,b,rfl,rfl,rfl⟩
   ·rintro⟨_,_,rfl,rfl,rfl⟩
    rfl
def X2 :q∈(eR (bD xs)).map fh↔BX xs q:=by
 unfold eR jI
 rw[Zb1]
 simp only[ZbF,ZeD,pairsOf,Zb1,ZbM,Zb4]
 constructor
 ·rintro⟨_,⟨a,ha,b,⟨hb,az⟩,rfl⟩,rfl⟩
  obtain⟨l,hl,hr,e⟩:=Yu.mp ha
  obtain⟨o,ho,dn,e'⟩:=Yu.mp hb
  refine⟨l,o,.o,ho,Yw.mpr ⟨a.2,b.2,hr,dn,?_⟩⟩
  unfold fh
  rw[e,e']
 ·rintro⟨l,o,hl,ho,e⟩
  obtain⟨a,b,h1,h2,rfl⟩:=Yw.mp e
  exact⟨((l:Int),a,(o:Int),b),⟨((l:Int),a),Yu.mpr ⟨l,.o,h1,rfl⟩,((o:Int),b),⟨Yu.mpr ⟨o,ho,h2,rfl⟩,by show(l:Int)< (o:Int);omega⟩,rfl⟩,rfl⟩
def Uv (xs:List V) (n:Nat):(iG xs n).Nodup:=by
 unfold iG
 rw[ZbE,ZgN]
 refine⟨fun o _=> ?_,?_⟩
 ·unfold uG
  rw[Zez]
  refine Zdo ?_ (ZbE.mp Zea)
  intro l l' cG q hq q' eW e
  obtain⟨_,_,_,_,rfl⟩:=Yw.mp hq
  obtain⟨_,_,_,_,rfl⟩:=Yw.mp eW
  simp only[Zgo]at e
  omega
 ·refine Zdo ?_ (ZbE.mp Zea)
  intro o o' cG q hq q' eW e
  unfold uG at hq eW
  rw[Zc4]at hq eW
  obtain⟨l,_,hq⟩:=hq
  obtain⟨l',_,eW⟩:=eW
  obtain⟨_,_,_,_,rfl⟩:=Yw.mp hq
  obtain⟨_,_,_,_,rfl⟩:=Yw.mp eW
  simp only[Zgo]at e
  omega
def GO (xs:List V):(bD xs).Pairwise fun a b=>a.1≠b.1:=by
 unfold bD
 rw[Zez]
 refine Zdo ?_ (ZbE.mp Zea)
 intro l l' cG q hq q' eW
 rw[Zbs]at hq eW
 obtain⟨_,_,rfl⟩:=hq
 obtain⟨_,_,rfl⟩:=eW
 show(l:Int)≠(l':Int)
 omega
def WA (xs:List V):((eR (bD xs)).map fh).Nodup:=by
 unfold eR jI
 rw[Zb1,ZbE,Zdn,ZgN]
 refine⟨fun a _=> ?_,?_⟩
 ·unfold pairsOf
  rw[Zb1,Zdn]
  refine Zdo ?_ ((GO xs).filter _)
  intro b b' cG e
  unfold fh at e
  simp only[Zgo]at e
  exact cG e.2.2.2
 ·refine Zdo ?_ (GO xs)
  intro a a' cG q hq q' eW e
  unfold pairsOf at hq eW
  rw[ZbF]at hq eW
  obtain⟨b,_,rfl⟩:=hq
  obtain⟨b',_,rfl⟩:=eW
  unfold fh at e
  simp only[Zgo]at e
  exact cG e.2.2.1
def Yx (xs:List V):((eR (bD xs)).map fh).Perm (iG xs xs.length):=
 (Zd5 (WA xs) (Uv xs _)).mpr fun q=>X2.trans V4.symm
def SU (vs:List V):dk vs (some 1) none=vs.drop 1:=by
 unfold dk HT.aK
 cases vs with
 |nil=>rfl
 |cons a r=>simp
def qb (ks:List aT) (i:Nat):List aT:=(((mJ ks).take i).filter fun p=>decide (dP p.1 p.2)).map fun p=>four p.1 p.2
def U7 {ks:List aT}(h1:ks[i]? =some a) (h2:(ks.drop 1)[i]? =some b):qb ks (i+1)=qb ks i++(if decide (dP a b)=true then [four a b] else []):=by
 have e:(mJ ks)[i]? =some (a,b):=Zf6.mpr ⟨h1,h2⟩
 unfold qb
 rw[ZbO,e,Zej,ZbC]
 by_cases h:dP a b<;>simp[h]
def aaf (H:Hp) (v:V):Option aT->Prop
 |none=>v=.af
 |some k=>jz H v k
end
section
variable {P:Program}{w:World}{K:Zht}{mg:Str->Option Value}{base:Heap}
abbrev vm:Stmt:=top 32
def yI:Sp:=fun vs H Q _=> ∃x y wd hg xs,vs=[x,y]/\bL H x y wd hg xs/\∀(H':Hp) (v:V) (r:Option aT),ae H H'->mP (iG xs xs.length) r->aaf H' v r->Q v H'
def rJ:bh ["board", "lay", "told", "likes"] ["board", "lay"] (ay vm):=ZN (by decide+kernel)
def Nh (F:aG K "first_like" "first_like" vm f fd) (G:Gs mg) (D1:Def P w K mg base 9 "steps" ["board", "lay"] yk):aA P w K mg base aE 10 f fd ["board", "lay"] yI:=by
 refine F.ok rJ (fun vs H Q E h=> ?_) (fun ao A outer s H vs Q E hr h=> ?_)
 ·obtain⟨x,y,wd,hg,xs,rfl,_⟩:=h
  rfl
 ·obtain⟨x,y,wd,hg,xs,rfl,l,q⟩:=h
  have hu:=xq hr
  refine⟨_,Zc (Zy (i:=2) rJ.nd rfl (Or.inl rfl) (Zh D1 hr (Za (pv 0) (Za (pv 1) Zb))))
   (Zc (Jb ["step", "line", "other", "beside", "here", "there"] 6 [] (i:=3) rJ.nd rfl (Or.inl rfl) (HV rfl G.zip (Za (pv 2) (Za (Yy Ht (pv 2) (YW Zd) YX) Zb)))
    (fun C s H fp=>show PG (aS _ _ _ C s H fp) _ (js K 2 (cV (js K 3 (cV (cg 0) (cV (cg 1) (cV (cg 2) jt)))) (cV (js K 3 (cV (cg 3) (cV (cg 4) (cV (cg 5) jt)))) jt))) from
     Z1 rfl (Zm (Z1 rfl (Zm (pb 0) (Zm (pb 1) (Zm (pb 2) ZR)))) (Zm (Z1 rfl (Zm (pb 3) (Zm (pb 4) (Zm (pb 5) ZR)))) ZR)))
    (fun C s H fp=>Yr (ZO (show bu (aS _ _ _ C s H fp) (compareOp .Eq) (fun x y H Q=> ∃(a b:Addr) (ns ms:List Int),x=.ref a/\y=.ref b/\ah K H a (ns.map V.int)/\ah K H b (ms.map V.int)/\Q (.bl (decide (ns=ms))) H) from HN hr.xS) (pv 0) (pv 3) (bO _)))
    (fun C s H fp D=>ZI rfl (Zs (Za (pv 1) (Za (pv 2) (Za (pv 4) (Za (pv 5) Zb)))))))
   (Zj (Zw (Xi rfl hu rfl G.min (pv 3))))),?_⟩
  refine⟨x,rfl,y,rfl,x,y,wd,hg,xs,rfl,l,fun fa H1 ps ks s1 fG hf pr perm rise=> ?_⟩
  have PH:ps.length=ks.length:=Zcf pr
  have hlen:ks.length<=144:=by
   rw[perm.length_eq,Zat]
   exact Dl l
  refine⟨_,rfl,_,rfl,_,rfl,fa,ps,rfl,ag.of hf,fun c hc=> ?_⟩
  generalize kP:upd H1 c (HO.lst (dk ps (some 1) none))=H2
  have s2:ae H1 H2:=fun b o hb=>by rw[<-kP,Zg (Zi hb hc)];exact hb
  have jk:H2 c=some (.lst (ps.drop 1)):=by rw[<-kP,SU];exact Ze
  have mC:=s2 _ _ hf
  refine⟨fa,c,rfl,⟨_,_,ag.of mC,ag.of jk⟩,?_⟩
  refine Uy (xs:=ps) (zs:=ps.drop 1) (fun i ys σ H3=> ∃v0 v1 v2 v3 v4 v5,σ=[v0,v1,v2,v3,v4,v5]/\ae H2 H3/\Paired (jz H3) ys (qb ks i)/\ys.length<=i) ⟨_,_,_,_,_,_,rfl,ae.refl _,.nil,Za2 _⟩
   (fun i ys σ H3 _ ⟨_,_,_,_,_,_,_,s3,_⟩=> ⟨ag.of (s3 _ _ mC),ag.of (s3 _ _ jk)⟩) ?_ ?_
  ·rintro i va vb T ys σ H3 Ef OL hT ⟨v0,v1,v2,v3,v4,v5,rfl,s3,iB,mq⟩
   have hi:i<ps.length:=(Zab.mp Ef).1
   obtain⟨a,oh,ta,KP,rfl,OY,OX⟩:=Jm pr Ef
   have OK:ps[1+i]? =some vb:=by rw[<-ZdI];exact OL
   obtain⟨b,og,tb,KL,rfl,sj,OU⟩:=Jm pr OK
   have Ay:(ks.drop 1)[i]? =some b:=by rw[ZdI];exact og
   have es:=U7 oh Ay
   have sT:ae H3 (upd H3 T (.par [.ref ta,.ref tb])):=fun e o hc=>by rw[Zg (Zi hc hT)];exact hc
   have sA:ae H1 (upd H3 T (.par [.ref ta,.ref tb])):=s2.trans (s3.trans sT)
   refine⟨T,_,rfl,ah.pU Ze,rfl,_,_,rfl,ta,_,rfl,ah.of (sA _ _ OY),rfl,_,_,rfl,_,_,rfl,_,_,rfl,rfl,_,_,rfl,tb,_,rfl,ah.of (sA _ _ sj),rfl,_,_,rfl,_,_,rfl,_,_,rfl,rfl,rfl,?_⟩
   generalize AZ:upd H3 T (HO.par [V.ref ta,V.ref tb])=H4 at sT sA
   refine⟨_,rfl,_,rfl,KP,KL,[a.1,a.2.1],[b.1,b.2.1],rfl,rfl,ah.of (sA _ _ OX),ah.of (sA _ _ OU),_,rfl,?_⟩
   by_cases hs:dP a b
   ·rw[ZaT hs,Zaq rfl]at es
    have ed:decide ([a.1,a.2.1]=[b.1,b.2.1])=true:=ZaT (by rw[hs.1,hs.2])
    rw[ed]
    refine aX ?_
    refine⟨_,rfl,_,rfl,_,rfl,_,rfl,qZ,fun t4 nV=> ⟨by rw[ZaP];omega,?_⟩⟩
    generalize tE:upd H4 t4 (HO.tup [V.int a.2.2.1,V.int a.2.2.2,V.int b.2.2.1,V.int b.2.2.2])=H5
    have s5:ae H4 H5:=fun e o hc=>by rw[<-tE,Zg (Zi hc nV)];exact hc
    refine⟨_,_,_,_,_,_,rfl,s3.trans (sT.trans s5),?_,by rw[Zas];simp;omega⟩
    rw[es]
    exact Ze5 (Paired.dS iB fun v q' hq=>hq.same (sT.trans s5)) ⟨t4,rfl,by rw[<-tE];exact Ze⟩
   ·rw[ZaK hs,Zam Zav,ZbP]at es
    have ed:decide ([a.1,a.2.1]=[b.1,b.2.1])=false:=ZaK (fun e=>hs (by simp only[List.cons.injEq,and_true]at e;exact e))
    rw[ed]
    refine aP ⟨_,_,_,_,_,_,rfl,s3.trans sT,?_,.o⟩
    rw[es]
    exact Paired.dS iB fun v q' hq=>hq.same sT
  ·rintro ys σ H3 ⟨v0,v1,v2,v3,v4,v5,rfl,s3,iB,mq⟩ p hp
   have s4:ae H3 (upd H3 p (.lst ys)):=fun e o hc=>by rw[Zg (Zi hc hp)];exact hc
   have et:qb ks (min ps.length (ps.drop 1).length)=i5 ks:=by
    unfold qb i5
    rw[ZbY]
    unfold mJ
    rw[List.length_zip,ZbD,ZbD,PH]
    exact Zae _
   rw[et]at iB
   have lN:Paired (jz (upd H3 p (.lst ys))) ys (i5 ks):=Paired.dS iB fun v q' hq=>hq.same s4
   have sA:ae H (upd H3 p (.lst ys)):=s1.trans (s2.trans (s3.trans s4))
   have cP:∀z,z∈ks↔z∈iG xs xs.length:=fun z=> (perm.trans (Yx xs)).mem_iff
   have jL:ks.Nodup:=(perm.trans (Yx xs)).nodup_iff.mpr (Uv xs _)
   have conv:∀r,mP ks r->mP (iG xs xs.length) r:=fun r hr=>by
    cases r with
    |none=>exact fun a ha b hb s=>hr a ((cP a).mpr ha) b ((cP b).mpr hb) s
    |some k=>
     obtain⟨⟨a,ha,b,hb,w⟩,h2⟩:=hr
     exact⟨⟨a,(cP a).mp ha,b,(cP b).mp hb,w⟩,fun a ha b hb s l=>h2 a ((cP a).mpr ha) b ((cP b).mpr hb) s l⟩
   refine⟨_,rfl,p,ys,(i5 ks).map bF,rfl,ag.of Ze,?_,fun e=> ?_,fun v k hv hk qh Py=> ?_⟩
   ·have:∀{ys:List V}{ls:List aT},Paired (jz (upd H3 p (.lst ys))) ys ls->Paired (dG (upd H3 p (.lst ys))) ys (ls.map bF):=by
     intro ys ls h
     generalize (upd H3 p (.lst ys))=H9 at h
     induction h with
     |nil=>exact .nil
     |cons h1 _ ih=>exact .cons h1 ih
    exact this lN
   ·subst e
    have el:i5 ks=[]:=by
     have:=Zcf lN
     exact List.length_eq_zero_iff.mp this.symm
    exact q _ .af none sA (conv _ (Zbh rise el)) rfl
   ·obtain⟨k4,Az,rfl⟩:=ZbF.mp hk
    exact q _ v (some k4) sA (conv _ (Zbg rise jL Az fun k' aQ=>Py _ (ZdY aQ))) qh
abbrev uZ:Stmt:=top 33
def pC:Sp:=fun vs H Q _=> ∃x y wd hg xs,vs=[x,y]/\bL H x y wd hg xs/\∀(H':Hp) (r:Option aT),ae H H'->mP (iG xs xs.length) r->Q (.bl r.isNone) H'
def CM:bh ["board", "lay"] ["board", "lay"] (ay uZ):=ZN (by decide+kernel)
def MY (F:aG K "is_unlike" "is_unlike" uZ f fd) (D1:Def P w K mg base 10 "first_like" ["board", "lay"] yI):aA P w K mg base aE 11 f fd ["board", "lay"] pC:=by
 refine F.ok CM (fun vs H Q E h=> ?_) (fun ao A outer s H vs Q E hr h=> ?_)
 ·obtain⟨x,y,wd,hg,xs,rfl,_⟩:=h
  rfl
 ·obtain⟨x,y,wd,hg,xs,rfl,l,q⟩:=h
  refine⟨_,Zj (Zw (UW (YL (Zh D1 hr (Za (pv 0) (Za (pv 1) Zb)))))),?_⟩
  refine⟨x,rfl,y,rfl,x,y,wd,hg,xs,rfl,l,fun H1 v r s1 hf ho=> ?_⟩
  have:=q H1 r s1 hf
  cases r with
  |none=>
   have e:v=.af:=ho
   subst e
   exact this
  |some k=>
   obtain⟨t,rfl,_⟩:=(show jz H1 v k from ho)
   exact this
end
end U.S
namespace U.S
open PySem L2 PyProof.Rows
section
structure Ke (K:Zht) (mg:Str->Option Value) (cB cL:Addr):Prop where
 mB:mg "NoBoard" =some (.ref cB)
 xB:PySem.W.excIn K cB tM "ValueError.__new__" =true
 mL:mg "NoLay" =some (.ref cL)
 xL:PySem.W.excIn K cL tM "ValueError.__new__" =true
def Kn (K:Zht) (cB cL:Addr) (H:Hp) (x y:V) (C:Addr):Prop:=
 (C=cB/\iU K H x)∨(C=cL/\∃wd hg,ck H x wd hg/\fe K H y/\bI wd hg (bA H y)=false)
end
section
variable {P:Program}{w:World}{K:Zht}{mg:Str->Option Value}{base:Heap}{cB cL:Addr}
def eO (K:Zht) (cB cL:Addr):Sp:=fun vs H _ E=> ∃x y C,vs=[x,y]/\Kn K cB cL H x y C/\∀e H',ae H H'->E (.ref e) (some C) H'
def zC (F:aG K "need_lay" "need_lay" lJ f fd) (X:Ke K mg cB cL) (D1:aY P w K mg base 5 "is_lay" ["board", "thing"] (uP K cB)) (D2:Def P w K mg base 5 "is_lay" ["board", "thing"] (pF K)):
  aA P w K mg base (aC P w) 6 f fd ["board", "lay"] (eO K cB cL):=by
 refine F.fO rE (fun vs H Q E h=> ?_) (fun ao A outer s H vs Q E hr h=> ?_)
 ·obtain⟨x,y,C,rfl,_⟩:=h
  rfl
 ·obtain⟨x,y,C,rfl,b,q⟩:=h
  rcases b with ⟨rfl,b⟩ |⟨rfl,wd,hg,b1,b2,b3⟩
  ·refine⟨_,Zj (ZQ (ZZ (ZM (ZW D1 hr (Za (pv 0) (Za (pv 1) Zb))))) Zr Zv),?_⟩
   exact⟨x,rfl,y,rfl,x,y,rfl,b,q⟩
  ·refine⟨_,Zj (ZQ (ZZ (ZM (Zh D2 hr (Za (pv 0) (Za (pv 1) Zb))))) (Zj (YQ Zdf X.mL X.xL rfl (Za ZS Zb))) Zv),?_⟩
   refine⟨x,rfl,y,rfl,x,y,wd,hg,rfl,b1,b2,fun H' sm=> ⟨_,rfl,?_⟩⟩
   rw[b3]
   exact aX ⟨bZ,fun e=>q e H' sm⟩
def M3 (F:aG K "points" "points" u7 f fd) (D1:aY P w K mg base 6 "need_lay" ["board", "lay"] (eO K cB cL)):aA P w K mg base (aC P w) 7 f fd ["board", "lay"] (eO K cB cL):=by
 refine F.fO CP (fun vs H Q E h=> ?_) (fun ao A outer s H vs Q E hr h=> ?_)
 ·obtain⟨x,y,C,rfl,_⟩:=h
  rfl
 ·obtain⟨x,y,C,rfl,b,q⟩:=h
  refine⟨_,Zc (Zz (ZW D1 hr (Za (pv 0) (Za (pv 1) Zb)))) Zr,?_⟩
  exact⟨x,rfl,y,rfl,x,y,C,rfl,b,q⟩
def M5 (F:aG K "point_pairs" "point_pairs" u9 f fd) (D1:aY P w K mg base 7 "points" ["board", "lay"] (eO K cB cL)):aA P w K mg base (aC P w) 8 f fd ["board", "lay"] (eO K cB cL):=by
 refine F.fO uW (fun vs H Q E h=> ?_) (fun ao A outer s H vs Q E hr h=> ?_)
 ·obtain⟨x,y,C,rfl,_⟩:=h
  rfl
 ·obtain⟨x,y,C,rfl,b,q⟩:=h
  refine⟨_,Zc (Zy (i:=2) uW.nd rfl (Or.inr rfl) (ZW D1 hr (Za (pv 0) (Za (pv 1) Zb)))) Zr,?_⟩
  exact⟨x,rfl,y,rfl,x,y,C,rfl,b,q⟩
end
end U.S
namespace U.S
open PySem L2 PyProof.Rows PyProof.Rows.jV
section
variable {P:Program}{w:World}{K:Zht}{mg:Str->Option Value}{base:Heap}{cB cL:Addr}
def MZ (F:aG K "steps" "steps" u5 f fd) (G:Gs mg) (D1:aY P w K mg base 8 "point_pairs" ["board", "lay"] (eO K cB cL)):aA P w K mg base (aC P w) 9 f fd ["board", "lay"] (eO K cB cL):=by
 refine F.fO CN (fun vs H Q E h=> ?_) (fun ao A outer s H vs Q E hr h=> ?_)
 ·obtain⟨x,y,C,rfl,_⟩:=h
  rfl
 ·obtain⟨x,y,C,rfl,b,q⟩:=h
  have hu:=hr.units
  refine⟨_,Zj (Zw (Zp (JR (Zee (Ze4 (by decide:2<=64) _) hu)) rfl G.sorted PyProof.Rows.Boot.«sorted» (Za (Yc ["line", "row", "other", "there"] 4 [] (Ys (ZW D1 hr (Za (pv 0) (Za (pv 1) Zb))))
    (fun C s H fp=>show PG (aS _ _ _ C s H fp) _ (js K 4 (cV (cg 0) (cV (cg 1) (cV (cg 2) (cV (cg 3) jt))))) from Z1 rfl (Zm (pb 0) (Zm (pb 1) (Zm (pb 2) (Zm (pb 3) ZR))))) (fun C s H fp=>Z8)
    (fun C s H fp D=>ZI rfl (Zs (Za (Zs (Za (Zo ZU (pv 2) (pv 0)) (Za (Zo ZU (pv 3) (pv 1)) Zb))) (Za (pv 0) (Za (pv 2) Zb)))))) Zb))),?_⟩
  exact⟨x,rfl,y,rfl,x,y,C,rfl,b,q⟩
def Ng (F:aG K "first_like" "first_like" vm f fd) (D1:aY P w K mg base 9 "steps" ["board", "lay"] (eO K cB cL)):aA P w K mg base (aC P w) 10 f fd ["board", "lay"] (eO K cB cL):=by
 refine F.fO rJ (fun vs H Q E h=> ?_) (fun ao A outer s H vs Q E hr h=> ?_)
 ·obtain⟨x,y,C,rfl,_⟩:=h
  rfl
 ·obtain⟨x,y,C,rfl,b,q⟩:=h
  refine⟨_,Zc (Zy (i:=2) rJ.nd rfl (Or.inl rfl) (ZW D1 hr (Za (pv 0) (Za (pv 1) Zb)))) Zr,?_⟩
  exact⟨x,rfl,y,rfl,x,y,C,rfl,b,q⟩
def MX (F:aG K "is_unlike" "is_unlike" uZ f fd) (D1:aY P w K mg base 10 "first_like" ["board", "lay"] (eO K cB cL)):aA P w K mg base (aC P w) 11 f fd ["board", "lay"] (eO K cB cL):=by
 refine F.fO CM (fun vs H Q E h=> ?_) (fun ao A outer s H vs Q E hr h=> ?_)
 ·obtain⟨x,y,C,rfl,_⟩:=h
  rfl
 ·obtain⟨x,y,C,rfl,b,q⟩:=h
  refine⟨_,Zj (Zw (UW (YL (ZW D1 hr (Za (pv 0) (Za (pv 1) Zb)))))),?_⟩
  exact⟨x,rfl,y,rfl,x,y,C,rfl,b,q⟩
end
section
def TN (xs:List V):(bD xs).Pairwise fun a b=>a.1<b.1:=by
 unfold bD
 refine Zez.mpr (Zdo ?_ (Zfo (n:=xs.length)))
 intro a b tj p hp q hq
 obtain⟨r,hr,rfl⟩:=Zbs.mp hp
 obtain⟨r',dn,rfl⟩:=Zbs.mp hq
 show(a:Int)< (b:Int)
 omega
def nB (ps:List (Int×Int)):List aT:=ps.flatMap fun a=> (ps.filter fun b=>decide (a.1<b.1)).map fun b=> (a.1,a.2,b.1,b.2)
def Us (ps:List (Int×Int)):eR ps=nB ps:=by
 unfold eR jI nB pairsOf
 rw[Zb1]
def Ua {α β:Type}{f:α->β}{l:List α}(h:l.Nodup):(l.map f).Nodup↔∀a∈l,∀b∈l,f a=f b->a=b:=by
 rw[ZbE,Zdn]
 constructor
 ·intro pw a ha b hb e
  obtain⟨i,hi,rfl⟩:=Zdb ha
  obtain⟨j,hj,rfl⟩:=Zdb hb
  have p:=ZeY.mp pw
  rcases Zgd i j with q |q |q
  ·exact absurd e (p i j hi hj q)
  ·subst q;rfl
  ·exact absurd e.symm (p j i hj hi q)
 ·intro inj
  refine Zfd ?_ (ZbE.mp h)
  intro a b ha hb ne e
  exact ne (inj a ha b hb e)
def Zaw (xs:List V):(eR (bD xs)).Nodup:=by
 have:=WA xs
 rw[ZbE,Zdn]at this
 exact ZbE.mpr (Zdo (fun h e=>h (by rw[e])) this)
def HR {xs:List V} :p∈eR (bD xs)↔∃l o:Nat,l<o/\o<xs.length/\∃a b,rowAt xs l=some a/\rowAt xs o=some b/\p=((l:Int),a,(o:Int),b):=by
 rw[Us]
 unfold nB
 rw[ZeD]
 constructor
 ·rintro⟨a,ha,hq⟩
  obtain⟨b,hb,rfl⟩:=ZbF.mp hq
  obtain⟨dN,kN⟩:=ZbM.mp hb
  obtain⟨l,hl,hr,e⟩:=Yu.mp ha
  obtain⟨o,ho,dn,e'⟩:=Yu.mp dN
  have:=Zdk kN
  refine⟨l,o,.o,ho,a.2,b.2,hr,dn,by rw[e,e']⟩
 ·rintro⟨l,o,h1,h2,a,b,h3,h4,rfl⟩
  exact⟨((l:Int),a),Yu.mpr ⟨l,.o,h3,rfl⟩,ZbF.mpr ⟨((o:Int),b),ZbM.mpr ⟨Yu.mpr ⟨o,h2,h4,rfl⟩,ZaT (by show(l:Int)<o;omega)⟩,rfl⟩⟩
def BN (xs:List V):Prop:=∀p∈eR (bD xs),∀q∈eR (bD xs),dP (fh p) (fh q)->p=q
def Vy (h:a.2.2.1≠b.2.2.1∨a.2.2.2≠b.2.2.2):iE a b=true∨iE b a=true:=by
 unfold iE
 simp only[Jd,JJ,Zhs,Zca]
 omega
def VJ {xs:List V}{r:Option aT}(f:mP (iG xs xs.length) r):r.isNone=true↔BN xs:=by
 have mem:∀{p:aT},p∈eR (bD xs)->fh p∈iG xs xs.length:=fun hp=> (Yx xs).mem_iff.mp (ZdY hp)
 cases r with
 |none=>
  refine⟨fun _ p hp q hq s=> ?_,fun _=>rfl⟩
  refine Zcc fun ne=> ?_
  obtain⟨l,o,_,_,a,b,g1,g2,rfl⟩:=HR.mp hp
  obtain⟨l',o',_,_,a',b',g3,g4,rfl⟩:=HR.mp hq
  have d:(l:Int)≠(l':Int)∨(o:Int)≠(o':Int):=by
   refine Zcc fun c=>ne ?_
   have e1:l=l':=.o
   have e2:o=o':=.o
   subst e1 e2
   rw[g1]at g3
   rw[g2]at g4
   cases g3
   cases g4
   rfl
  rcases Vy (a:=fh ((l:Int),a,(o:Int),b)) (b:=fh ((l':Int),a',(o':Int),b')) d with z |z
  ·have:=f _ (mem hp) _ (mem hq) s
   rw[z]at this
   cases this
  ·have:=f _ (mem hq) _ (mem hp) ⟨s.1.symm,s.2.symm⟩
   rw[z]at this
   cases this
 |some k=>
  refine⟨fun h=> (by cases h),fun h=> ?_⟩
  obtain⟨⟨a,ha,b,hb,s,l,_⟩,_⟩:=f
  obtain⟨p,hp,rfl⟩:=ZbF.mp ((Yx xs).mem_iff.mpr ha)
  obtain⟨q,hq,rfl⟩:=ZbF.mp ((Yx xs).mem_iff.mpr hb)
  rw[h p hp q hq s]at l
  unfold iE at l
  simp only[Jd,JJ,Zhs,Zca]at l
  omega
end
end U.S
namespace U.S
open PySem L2 PyProof.Rows
section
def sk (a b:Int×Int):List Int:=[b.1 - a.1,b.2 - a.2]
def pk:List (Int×Int)->List (List Int)
 | []=> []
 |a::r=>r.map (sk a)++pk r
def bX (xs:List V):Bool:=decide (pk (bD xs)).Nodup
def uT (p:aT):List Int:=[p.2.2.1 - p.1,p.2.2.2 - p.2.1]
def GJ:∀{ps:List (Int×Int)},(ps.Pairwise fun a b=>a.1<b.1)->(nB ps).map uT=pk ps
 | [],_=>rfl
 |a::l,h=>by
  obtain⟨h1,h2⟩:=ZbU.mp h
  have ih:=GJ h2
  have e:nB (a::l)=(l.map fun b=> (a.1,a.2,b.1,b.2))++nB l:=by
   unfold nB
   rw[Zgf]
   congr 1
   ·rw[ZdP (by simp),List.filter_eq_self.mpr fun b hb=>ZaT (h1 b hb)]
   ·rw[List.flatMap_def,List.flatMap_def]
    congr 1
    refine List.map_congr_left fun c hc=> ?_
    rw[ZdP (by have:=h1 c hc;simp;omega)]
  rw[e,ZbC,ih,Zf1]
  rfl
def Ho (p q:aT):dP (fh p) (fh q)↔uT p=uT q:=by
 unfold dP fh uT
 simp
def Zc7 (xs:List V):bX xs=true↔BN xs:=by
 unfold bX
 rw[Zf3,<-GJ (TN xs),<-Us,Ua (Zaw xs)]
 unfold BN
 constructor
 ·intro h p hp q hq s
  exact h p hp q hq ((Ho p q).mp s)
 ·intro h p hp q hq s
  exact h p hp q hq ((Ho p q).mpr s)
def xR {xs:List V}{r:Option aT}(f:mP (iG xs xs.length) r):r.isNone=bX xs:=by
 have h1:=VJ f
 have h2:=Zc7 xs
 cases hr:r.isNone<;>cases hu:bX xs<;>simp_all
def A6 (hg:Nat) (xs:List V) (l:Nat):List Int:=((List.range hg).map fun(k:Nat)=> (k:Int)).filter fun r=> !iI (.int r) xs&&bX (xs.set l (.int r))
def gm (wd hg:Nat):Nat->List (List V)
 |0=> [List.replicate wd .af]
 |i+1=> (gm wd hg i).flatMap fun xs=> (V.af::(A6 hg xs i).map V.int).map fun v=>xs.set i v
def Y2 {H:Hp}{p:Addr}{o:HO}(h:H p=none):ae H (upd H p o):=fun b u hb=>by rw[Zg (Zi hb h)];exact hb
def Ir (hv:v≠.af):∀{xs:List V}{i:Nat},xs[i]? =some V.af->(rowsOf (xs.set i v)).Perm (v::rowsOf xs)
 | [],_,h=>by simp at h
 |x::xs,0,h=>by
  have:x=.af:=by simpa using h
  subst this
  rw[Zhb]
  unfold rowsOf
  rw[ZdO (by simpa using hv),ZdP (by simp)]
 |x::xs,i+1,h=>by
  have ih:=Ir hv (xs:=xs) (i:=i) (by simpa using h)
  rw[List.set_cons_succ]
  unfold rowsOf at ih |-
  by_cases z:(!decide (x=V.af))=true
  ·rw[ZdO (p:=fun x=> !decide (x=V.af)) z,ZdO (p:=fun x=> !decide (x=V.af)) z]
   exact(ih.cons x).trans (List.Perm.swap v x _)
  ·rw[ZdP (p:=fun x=> !decide (x=V.af)) z,ZdP (p:=fun x=> !decide (x=V.af)) z]
   exact ih
def ZcR (h:V.int r∈xs):iI (.int r) xs=true:=by
 unfold iI
 exact List.any_eq_true.mpr ⟨_,h,by simp[fb]⟩
def V2 {xs:List V}(h:j7 wd hg xs) (hi:xs[i]? =some V.af) (h0:0<=r) (h1:r<hg) (hn:iI (.int r) xs=false):j7 wd hg (xs.set i (.int r)):=by
 have pm:=Ir (v:=.int r) (by intro z;cases z) hi
 refine⟨by rw[List.length_set];exact h.len,fun x hx=> ?_,pm.nodup_iff.mpr (Zdv.mpr ⟨fun m=> ?_,h.nd⟩)⟩
 ·rcases Zao.mp (pm.mem_iff.mp hx) with rfl |hx
  ·show(decide (0<=r)&&decide (r<=hg - 1))=true
   rw[ZaT h0,ZaT .o]
   rfl
  ·exact h.row x hx
 ·have:=ZcR (ZbM.mp m).1
  rw[hn]at this
  cases this
def BE {K:Zht}{H:Hp}{a b:Addr}{xs ys:List V}{Q:VK}(h1:H a=some (.tup xs)) (h2:H b=some (.tup ys)) (hl:xs.length+ys.length<=1000) (q:∀t H',ae H H'->H' t=some (.tup (xs++ys))->Q (.ref t) H'):ko K (.ref a) (.ref b) H Q:=by
 cases xs with
 |nil=>exact .inl ⟨a,b,ys,rfl,rfl,ah.of h1,ah.of h2,q b H (ae.refl _) h2⟩
 |cons x xs=>
  refine .inr ⟨a,b,_,_,rfl,rfl,ah.of h1,ah.of h2,by simp,by rw[ZaP];omega,fun e=> ?_,fun _ p hp=>q p _ (Y2 hp) Ze⟩
  subst e
  exact q a H (ae.refl _) (by rw[ZbP];exact h1)
def Bl {xs:List V}{i:Nat}(h:i<xs.length):dk xs (some ((i:Int)+1)) none=xs.drop (i+1):=by
 unfold dk
 rw[show(i:Int)+1=((i+1:Nat):Int) from rfl,HT.vj,HT.vk,Zep .o]
 exact ZbY (by simp)
end
section
variable {P:Program}{w:World}{K:Zht}{mg:Str->Option Value}{base:Heap}
abbrev ve:Stmt:=top 34
def uN:Sp:=fun vs H Q _=> ∃x y wd hg xs,vs=[x,y]/\bL H x y wd hg xs/\bX xs=true/\∀(H':Hp),ae H H'->Q .af H'
def CV:bh ["board", "lay"] ["board", "lay"] (ay ve):=ZN (by decide+kernel)
def M8 (F:aG K "need_unlike" "need_unlike" ve f fd) (D1:Def P w K mg base 11 "is_unlike" ["board", "lay"] pC):aA P w K mg base aE 12 f fd ["board", "lay"] uN:=by
 refine F.ok CV (fun vs H Q E h=> ?_) (fun ao A outer s H vs Q E hr h=> ?_)
 ·obtain⟨x,y,wd,hg,xs,rfl,_⟩:=h
  rfl
 ·obtain⟨x,y,wd,hg,xs,rfl,l,u,q⟩:=h
  refine⟨_,Zj (ZQ (ZZ (ZM (Zh D1 hr (Za (pv 0) (Za (pv 1) Zb))))) Zr Zv),?_⟩
  refine⟨x,rfl,y,rfl,x,y,wd,hg,xs,rfl,l,fun H' r sm fi=> ⟨_,rfl,?_⟩⟩
  rw[xR fi,u]
  exact aP (q H' sm)
abbrev vg:Stmt:=top 25
def yC:Sp:=fun vs H Q _=> ∃(b:Addr) (wd hg W T:Int),vs=[.ref b,.int W,.int T]/\H b=some (.tup [.int wd,.int hg])/\wd<=W/\hg<=T/\Q .af H
def CY:bh ["board", "wide", "high"] ["board", "wide", "high"] (ay vg):=ZN (by decide+kernel)
def Na (F:aG K "need_at_most" "need_at_most" vg f fd):aA P w K mg base aE 1 f fd ["board", "wide", "high"] yC:=by
 refine F.ok CY (fun vs H Q E h=> ?_) (fun ao A outer s H vs Q E hr h=> ?_)
 ·obtain⟨b,wd,hg,W,T,rfl,_⟩:=h
  rfl
 ·obtain⟨b,wd,hg,W,T,rfl,hb,h1,h2,q⟩:=h
  refine⟨_,Zj (ZQ (PW.pt (Jl (ZO Uu (ZF ZP (pv 0) Zd (fun _ _=>rfl)) (pv 1) (bO _)) (YI (ZO Uu (ZF ZP (pv 0) Zd (fun _ _=>rfl)) (pv 2) (bO _))))) Zr Zv),?_⟩
  refine⟨_,rfl,b,_,0,.int wd,rfl,rfl,ah.of hb,rfl,_,rfl,_,_,rfl,rfl,_,rfl,?_⟩
  rw[ZaK .o]
  refine aP ?_
  refine⟨_,rfl,b,_,1,.int hg,rfl,rfl,ah.of hb,rfl,_,rfl,_,_,rfl,rfl,_,rfl,?_⟩
  rw[ZaK .o]
  exact aP q
end
section
def Iq (n:Nat):rowsOf (List.replicate n V.af)=[]:=by
 unfold rowsOf
 exact List.filter_eq_nil_iff.mpr fun x hx=>by rw[Zff hx];simp
def Xo (n:Nat):bD (List.replicate n V.af)=[]:=by
 unfold bD
 rw[Zf8]
 intro l hl
 unfold rowAt
 rw[ZdM]
 split<;>rfl
def tG (w h:Nat):∀i,∀xs∈gm w h i,j7 w h xs/\bX xs=true/\∀j,i<=j->j<w->xs[j]? =some V.af
 |0,xs,hx=>by
  have e:xs=List.replicate w V.af:=by simpa[gm] using hx
  subst e
  refine⟨⟨by rw[Zc9],fun r hr=> ?_,by rw[Iq];exact List.nodup_nil⟩,?_,fun j _ hj=>by rw[ZdM,Zaq hj]⟩
  ·rw[Iq]at hr
   cases hr
  ·unfold bX
   rw[Xo]
   rfl
 |i+1,xs,hx=>by
  unfold gm at hx
  obtain⟨ys,hy,hm⟩:=ZeD.mp hx
  obtain⟨h1,h2,h3⟩:=tG w h i ys hy
  obtain⟨v,hv,rfl⟩:=ZbF.mp hm
  have hlen:ys.length=w:=by have:=h1.len;omega
  have later:∀v j,i+1<=j->j<w->(ys.set i v)[j]? =some V.af:=fun v j hj wz=>by
   rw[Zem .o]
   exact h3 j .o wz
  by_cases hi:i<w
  ·have hn:=h3 i (Zae _) hi
   rcases Zao.mp hv with rfl |hv
   ·have e:ys.set i V.af=ys:=by
     refine Zho fun j=> ?_
     by_cases hj:i=j
     ·subst hj
      rw[ZdZ .o,hn]
     ·rw[Zem hj]
    rw[e]
    exact⟨h1,h2,fun j hj wz=>h3 j .o wz⟩
   ·obtain⟨r,hr,rfl⟩:=ZbF.mp hv
    unfold A6 at hr
    obtain⟨we,fA⟩:=ZbM.mp hr
    obtain⟨k,hk,rfl⟩:=ZbF.mp we
    rw[Zbt]at hk
    rw[ZaR,Zbv]at fA
    exact⟨V2 h1 hn .o .o fA.1,fA.2,later _⟩
  ·have e:∀v,ys.set i v=ys:=fun v=>List.set_eq_of_length_le .o
   rw[e]
   exact⟨h1,h2,fun j hj wz=>.o⟩
def pR (ps:List (Int×Int)) (i:Nat):List (List Int):=(List.range i).flatMap fun k=>match ps[k]? with
 |some a=> (ps.drop (k+1)).map (sk a)
 |none=> []
def Zct {ps:List (Int×Int)}{i:Nat}{a:Int×Int}(h:ps[i]? =some a):pR ps (i+1)=pR ps i++(ps.drop (i+1)).map (sk a):=by
 unfold pR
 rw[Zeq,Zg1]
 simp[h]
def GK:∀ps:List (Int×Int),pR ps ps.length=pk ps
 | []=>rfl
 |a::r=>by
  have ih:=GK r
  unfold pR at ih |-
  rw[ZbA,List.range_succ_eq_map,Zgf,List.flatMap_map]
  unfold pk
  rw[<-ih]
  rfl
def VH {xs:List V}{i:Nat}{r:Int}(h:rowAt xs i=some r):gA xs (i:Int)=some (.int r):=by
 refine Yv ?_
 unfold rowAt at h
 cases e:xs[i]? with
 |none=>rw[e]at h;cases h
 |some v=>
  rw[e]at h
  cases v with
  |int y=>have:y=r:=ZaQ h;rw[this]
  |_=>cases h
def Vb {xs:List V}{q:Int×Int}(h:q∈bD xs):gA xs q.1=some (.int q.2):=by
 obtain⟨l,hl,hr,e⟩:=Yu.mp h
 rw[e]
 exact VH hr
def Iz {H:Hp}{L:Addr}{zs:List V}{o:HO}(e:H L=some (.lst zs)) {v:V}{k:List Int}(h:dG H v k):dG (upd H L o) v k:=by
 obtain⟨t,rfl,ht⟩:=h
 refine⟨t,rfl,?_⟩
 rw[Zg (fun z=> ?_)]
 ·exact ht
 ·subst z
  rw[e]at ht
  cases ht
def uY {H H1:Hp}{L:Addr}{o:HO}(s:ae H H1) (n:H L=none):ae H (upd H1 L o):=fun b u h=>by
 rw[Zg (Zi h n)]
 exact s b u h
def Wv {α β:Type}{F:α->β->Prop} :∀{a c:List α}{b d:List β},Paired F a b->Paired F c d->Paired F (a++c) (b++d)
 |_,_,_,_,.nil,h=>h
 |_,_,_,_,.cons x y,h=> .cons x (Wv y h)
def XF (xs:List V):(bD xs).length<=xs.length:=by
 unfold bD
 refine Zcd (Zfe _ _) ?_
 rw[Zcb]
 exact Zae _
end
section
variable {P:Program}{w:World}{K:Zht}{mg:Str->Option Value}{base:Heap}
abbrev zb:Stmt:=top 47
def yE:Sp:=fun vs H Q _=> ∃(a:Addr) (xs:List V),vs=[.ref a]/\H a=some (.tup xs)/\tQ xs/\xs.length<=12/\∀(q:Addr) (H':Hp) (ts:List V),ae H H'->H q=none->H' q=some (.lst ts)->Paired (dG H') ts (pk (bD xs))->ts.length<=144->Q (.ref q) H'
abbrev NN:List Str:=["_law_lay_here", "_law_some", "_law_found", "_law_at", "_law_line"]
def rH:bh NN ["_law_lay_here"] (ay zb):=ZN (by decide+kernel)
def Nc {f:Addr}{fd:FuncData}(F:aG K "_law_steps" "_law_steps" zb f fd) (G:Gs mg):aA P w K mg base aE 1 f fd ["_law_lay_here"] yE:=by
 refine F.ok rH (fun vs H Q E h=> ?_) (fun ao A outer s H vs Q E hr h=> ?_)
 ·obtain⟨a,xs,rfl,_⟩:=h
  rfl
 ·obtain⟨a,xs,rfl,ha,ok,DS,q⟩:=h
  refine⟨_,Zc (Jb ["_law_line", "_law_lay_here"] 1 [0] (i:=1) rH.nd rfl (Or.inl rfl) (Z0 rfl G.range (Za (Zp ZG rfl G.len ZeU (Za (pv 0) Zb)) Zb)) (fun C s H fp=>pb 0)
    (fun C s H fp=>Yr (YJ (Wl (ZF (show oX (aS _ _ _ C s H fp) (rO K) from ZP) (pv 1) (pv 0) (fun _ _=>rfl))))) (fun C s H fp D=>ZI rfl (pv 0)))
   (Zc (Zy (i:=2) rH.nd rfl (Or.inl rfl) (ZH Zb))
   (Zc (Jt Zew rfl (XB rfl G.enumerate (Za (pv 1) Zb)) (Z1 rfl (Zm (ZE (i:=3) rH.nd rfl (Or.inl rfl)) (Zm (ZE (i:=4) rH.nd rfl (Or.inr rfl)) ZR)))
    (Zj (Zz (Yq Zbm PySem.F.slot_list_extend PySem.F.type_list_extend ZcF (pv 2) (Za
     (Yc ["_law_other", "_law_lay_here", "_law_line"] 1 [0,4] (Ys (Yy Ht (pv 1) (YW (Zo ZT (pv 3) Zd)) YX)) (fun C s H fp=>pb 0) (fun C s H fp=>Z8)
      (fun C s H fp D=>ZI rfl (Zs (Za (Zo ZU (pv 0) (pv 2)) (Za (Zo ZU (ZF (show oX (aS _ _ _ C s H fp) (rO K) from ZP) (pv 1) (pv 0) (fun _ _=>rfl)) (ZF (show oX (aS _ _ _ C s H fp) (rO K) from ZP) (pv 1) (pv 2) (fun _ _=>rfl))) Zb))))) Zb)))))
   (Zj (Zw (pv 2))))),?_⟩
  have N7:=XF xs
  refine Zl ⟨_,rfl,a,xs,rfl,.inr (ah.of ha),_,rfl,.o,.o,?_⟩
  refine YC (fun k ys σ H1=> ∃v,σ=[v,some (.ref a)]/\ae H H1/\ys=((nz xs k).map (·.1)).map V.int/\ys.length<=k) ⟨_,rfl,ae.refl _,rfl,Za2 _⟩ ?_ ?_
  ·rintro k ys σ H1 hk ⟨v,rfl,s1,rfl,hlen⟩
   have aQ:k<xs.length:=.o
   rw[ZeQ]
   refine Zt ?_
   dsimp only[List.set]
   obtain⟨v,hv⟩:∃v,xs[k]? =some v:=⟨_,Zal aQ⟩
   have jP:gA xs (k:Int)=some v:=Yv hv
   refine⟨_,rfl,_,rfl,a,xs,(k:Int),v,rfl,rfl,ah.of (s1 _ _ ha),jP,_,rfl,?_⟩
   have er:rowAt xs k=pO v:=by unfold rowAt;rw[hv];rfl
   have es:=Js xs k
   rw[er]at es
   rcases ok v (Zbc hv) with rfl |⟨r,rfl⟩
   ·refine aP ⟨_,rfl,s1,?_,.o⟩
    rw[es]
    simp[pO]
   ·refine aX ⟨_,rfl,by rw[ZaP];omega,⟨_,rfl,s1,?_,by rw[Zas];simp at hlen |-;omega⟩⟩
    rw[es]
    simp[pO]
  ·rintro ys σ H1 ⟨v,rfl,s1,rfl,hlen⟩ m hm
   have e0:nz xs (Int.toNat (xs.length:Int))=bD xs:=by rw[ZdT];rfl
   obtain⟨H2,zz,sm,em⟩:=aH (o:=.lst (((nz xs (Int.toNat (xs.length:Int))).map (·.1)).map V.int)) hm
   rw[zz]
   rw[e0]at em
   have cP:∀q'∈bD xs,gA xs q'.1=some (.int q'.2):=fun q' h=>Vb h
   generalize bD xs=ps at em N7 q cP
   have nm:H m=none:=s1.free hm
   have C5:=s1.trans sm
   dsimp only[List.set]
   refine Zl (ZB ⟨Ly,fun L hL=>Zt ?_⟩)
   dsimp only[List.set]
   have nL:H L=none:=C5.free hL
   have Pz:m≠L:=Zi em hL
   obtain⟨H3,zz,sL,eL⟩:=aH (o:=.lst []) hL
   rw[zz]
   have vv:=C5.trans sL
   refine Zl ⟨_,rfl,m,rfl,⟨_,ag.of (sL _ _ em)⟩,?_⟩
   refine ZcU (xs:=(ps.map (·.1)).map V.int) (fun i σ H4=> ∃zs v3 v4,σ=[some (.ref a),some (.ref m),some (.ref L),v3,v4]/\ae H H4/\H4 m=some (.lst ((ps.map (·.1)).map V.int))/\H4 L=some (.lst zs)/\Paired (dG H4) zs (pR ps i)/\zs.length<=i*12) ⟨_,_,_,rfl,vv,sL _ _ em,eL,.nil,Za2 _⟩ (fun i σ H4 _ ⟨_,_,_,_,_,e,_⟩=>ag.of e) ?_ ?_
   ·rintro i v T σ H4 hv hT ⟨zs,v3,v4,rfl,s4,Bf,jS,lN,wx⟩
    rw[ZbG,ZbG]at hv
    obtain⟨z,hz,rfl⟩:=Zbs.mp hv
    obtain⟨p0,Am,rfl⟩:=Zbs.mp hz
    have hi:i<ps.length:=(Zab.mp Am).1
    have sT:=Y2 (o:=.par [.int (i:Int),.int p0.1]) hT
    refine⟨T,_,rfl,ah.pU Ze,rfl,_,_,rfl,_,_,rfl,rfl,?_⟩
    generalize upd H4 T (HO.par [V.int (i:Int),V.int p0.1])=H5 at sT
    have Si:=sT _ _ jS
    have RH:=sT _ _ Bf
    refine⟨_,rfl,.inl ⟨rfl,_,ag.of Si⟩,?_⟩
    refine⟨_,rfl,_,rfl,_,_,rfl,rfl,_,rfl,m,_,rfl,ag.of RH,fun p6 Pk=> ?_⟩
    have Qm:dk ((ps.map (·.1)).map V.int) (some ((i:Int)+1)) none=((ps.drop (i+1)).map (·.1)).map V.int:=by
     rw[Bl (by simpa using hi),<-List.map_drop,<-List.map_drop]
    rw[Qm]
    obtain⟨H6,zz,s6,e6⟩:=aH (o:=.lst (((ps.drop (i+1)).map (·.1)).map V.int)) Pk
    rw[zz]
    refine⟨p6,rfl,⟨_,ag.of e6⟩,?_⟩
    have es:=Zct Am
    have mf:∀q'∈ps.drop (i+1),gA xs q'.1=some (.int q'.2):=fun q' h=>cP q' (ZbH h)
    have Od:(ps.drop (i+1)).length<=12:=by rw[ZbD];omega
    generalize ps.drop (i+1)=rs at e6 es mf Od
    have Qv:=(s4.trans (sT.trans s6)) _ _ ha
    have h0:=cP p0 (Zbc Am)
    refine Ye (xs:=(rs.map (·.1)).map V.int) (fun j ys σ H7=> ∃v,σ=[v,some (.ref a),some (.int p0.1)]/\ae H6 H7/\Paired (dG H7) ys ((rs.take j).map (sk p0))/\ys.length<=j) ⟨_,rfl,ae.refl _,.nil,Za2 _⟩ (fun i ys σ H2 _ ⟨_,_,s2,_⟩=>ag.of (s2 _ _ e6)) ?_ ?_
    ·rintro j v ys σ H7 kJ ⟨v0,rfl,s7,rQ,EB⟩
     rw[ZbG,ZbG]at kJ
     obtain⟨z,bj,rfl⟩:=Zbs.mp kJ
     obtain⟨p1,qj,rfl⟩:=Zbs.mp bj
     have hj:j<rs.length:=(Zab.mp qj).1
     have h1:=mf p1 (Zbc qj)
     have Fd:=ah.of (K:=K) (s7 _ _ Qv)
     refine Zt ?_
     dsimp only[List.set]
     try unfold xY
     refine aX ?_
     refine⟨_,rfl,_,rfl,_,_,rfl,rfl,_,rfl,_,rfl,a,xs,p1.1,_,rfl,rfl,Fd,h1,_,rfl,_,rfl,a,xs,p0.1,_,rfl,rfl,Fd,h0,_,_,rfl,rfl,aZ,fun t8 Ad=> ⟨by rw[ZaP];omega,?_⟩⟩
     have s8:=Y2 (o:=.tup [.int (p1.1 - p0.1),.int (p1.2 - p0.2)]) Ad
     refine⟨_,rfl,s7.trans s8,?_,by rw[Zas];simp;omega⟩
     rw[ZbO,qj,ZbC]
     exact Ze5 (Paired.dS rQ fun v q' hq=>hq.same s8) ⟨t8,rfl,Ze⟩
    ·rintro ys σ H7 ⟨v0,rfl,s7,rQ,EB⟩ p8 Pj
     rw[Zat,Zat]at rQ EB
     rw[Zb1]at rQ
     obtain⟨H8,zz,s8,e8⟩:=aH (o:=.lst ys) Pj
     rw[zz]
     have vp:=sT.trans (s6.trans (s7.trans s8))
     have Bh:=vp _ _ jS
     have RG:=vp _ _ Bf
     refine⟨L,p8,zs,ys,rfl,rfl,Bh,e8,by rw[ZaP];omega,?_⟩
     refine⟨_,_,_,rfl,uY (s4.trans vp) nL,?_,Ze,?_,by rw[Zas];omega⟩
     ·rw[Zg Pz]
      exact RG
     ·rw[es]
      exact Wv (Paired.dS lN fun v q' hq=>Iz Bh (hq.same vp)) (Paired.dS rQ fun v q' hq=>Iz Bh (hq.same s8))
   ·rintro σ H4 ⟨zs,v3,v4,rfl,s4,Bf,jS,lN,wx⟩
    rw[Zat,Zat]at lN wx
    rw[GK]at lN
    exact⟨_,rfl,q L H4 zs s4 nL jS lN .o⟩
abbrev vi:Stmt:=top 48
def rm:Sp:=fun vs H Q _=> ∃(a:Addr) (xs:List V),vs=[.ref a]/\H a=some (.tup xs)/\tQ xs/\xs.length<=12/\∀(H':Hp),ae H H'->Q (.bl (bX xs)) H'
def CZ:bh ["_law_lay_here", "_law_some"] ["_law_lay_here"] (ay vi):=ZN (by decide+kernel)
def Nb (F:aG K "_law_unlike" "_law_unlike" vi f fd) (G:Gs mg) (Dls:Def P w K mg base 1 "_law_steps" ["_law_lay_here"] yE):aA P w K mg base aE 2 f fd ["_law_lay_here"] rm:=by
 refine F.ok CZ (fun vs H Q E h=> ?_) (fun ao A outer s H vs Q E hr h=> ?_)
 ·obtain⟨a,xs,rfl,_⟩:=h
  rfl
 ·obtain⟨a,xs,rfl,ha,ok,DS,q⟩:=h
  have hu:(aF aE P w K mg base ["_law_lay_here", "_law_some"] "_law_unlike" (ay vi) f ao A outer s H E).dg.A.units+4<cLine:=Zee (Ze4 (by decide:4<=64) _) hr.units
  refine⟨_,Zc (Zy (i:=1) CZ.nd rfl (Or.inl rfl) (Zh Dls hr (Za (pv 0) Zb)))
   (Zj (Zw (Z5 Y4 (Zcu rfl hu rfl G.len rfl G.set (pv 1)) (Zp ZG rfl G.len ZeU (Za (pv 1) Zb)) (bO _)))),?_⟩
  refine Zl (ZB ⟨_,rfl,a,xs,rfl,ha,ok,DS,fun t H1 ts s1 nt e1 pr aax=>Zt ?_⟩)
  dsimp only[List.set]
  have lk:=Zcf pr
  refine⟨_,rfl,t,ts,_,rfl,ag.of e1,pr,.o,_,rfl,t,ts,rfl,.inl (ag.of e1),rfl,?_⟩
  have z:decide (V.int (i6 (pk (bD xs)):Int)=V.int (ts.length:Int))=bX xs:=by
   unfold bX
   rw[Zgx,lk,<-V3]
   constructor
   ·intro h
    injection h with h
    omega
   ·intro h
    rw[h]
  rw[z]
  exact q H1 s1
end
section
def IH {α β:Type}{f g:α->Option β} :∀{l:List α},(∀x∈l,f x=g x)->l.filterMap f=l.filterMap g
 | [],_=>rfl
 |a::l,h=>by
  rw[ZdW,ZdW,h a Zau,IH fun x hx=>h x (Zap _ hx)]
def Xn (xs:List V) (n:Nat):bD (xs++List.replicate n V.af)=bD xs:=by
 unfold bD
 rw[Zas,Zc9,List.range_add,ZgM]
 have e2:(((List.range n).map fun x=>xs.length+x).filterMap fun l=> (rowAt (xs++List.replicate n V.af) l).map fun r=> ((l:Int),r))=[]:=by
  rw[Zf8]
  intro l hl
  obtain⟨k,hk,rfl⟩:=ZbF.mp hl
  unfold rowAt
  rw[Zdd .o,ZdM]
  split<;>rfl
 rw[e2,ZbP]
 refine IH fun l hl=> ?_
 rw[Zbt]at hl
 unfold rowAt
 rw[Zdt hl]
def Hs {x v:V}{t:List V} :∀{fs:List V},(fs++x::t).set fs.length v=fs++v::t
 | []=>rfl
 |a::fs=>by
  show a::(fs++x::t).set fs.length v=_
  rw[Hs]
  rfl
abbrev dZ (w:Nat) (fs:List V):List V:=fs++List.replicate (w - fs.length) V.af
def Xv {fs:List V}(h:fs.length<w):dZ w fs=fs++V.af::List.replicate (w - (fs.length+1)) V.af:=by
 unfold dZ
 rw[show w - fs.length=(w - (fs.length+1))+1 by omega,Zdi]
def Ww {fs:List V}(h:fs.length<w):dZ w (fs++[v])=(dZ w fs).set fs.length v:=by
 rw[Xv h,Hs]
 unfold dZ
 rw[Zas,Zbp]
 rfl
def Vi :iI (.int r) (dZ w fs)=iI (.int r) fs:=by
 unfold iI dZ
 rw[List.any_append]
 have:((List.replicate (w - fs.length) V.af).any fun y=>fb y (.int r))=false:=by
  rw[Zhi]
  intro x hx
  rw[Zff hx]
  simp[fb]
 rw[this,Bool.or_false]
def XR {w h:Nat}{fs:List V}(hm:dZ w fs∈gm w h fs.length) (hi:fs.length<w):dZ w (fs++[V.af])∈gm w h (fs.length+1):=by
 rw[Ww hi]
 exact ZeD.mpr ⟨_,hm,ZbF.mpr ⟨_,Zau,rfl⟩⟩
def XQ {w h:Nat}{fs:List V}{r:Int}(hm:dZ w fs∈gm w h fs.length) (hi:fs.length<w) (h0:0<=r) (h1:r<h) (hn:iI (.int r) fs=false) (hu:bX (fs++[.int r])=true):dZ w (fs++[V.int r])∈gm w h (fs.length+1):=by
 rw[Ww hi]
 refine ZeD.mpr ⟨_,hm,ZbF.mpr ⟨_,Zap _ (ZdY ?_),rfl⟩⟩
 unfold A6
 refine ZbM.mpr ⟨ZbF.mpr ⟨r.toNat,Zbt.mpr .o,.o⟩,?_⟩
 rw[Vi,hn,<-Ww hi]
 have:bX (dZ w (fs++[V.int r]))=bX (fs++[V.int r]):=by
  unfold bX dZ
  rw[Xn]
 rw[this,hu]
 rfl
def TH {w h:Nat}{fs:List V}{i:Nat}(hm:dZ w fs∈gm w h i):tQ fs:=fun x hx=> (tG w h i _ hm).1.ok x (Za7 _ hx)
end
section
variable {P:Program}{w:World}{K:Zht}{mg:Str->Option Value}{base:Heap}
abbrev zf:Stmt:=top 50
def uQ:Sp:=fun vs H Q _=> ∃(p b:Addr) (wd hg n:Int),vs=[.ref p,.ref b,.int n]/\cj H p/\ck H (.ref b) wd hg/\∀(l:Addr) (H':Hp) (xs:List V),au p H H'->cj H' p->H' l=some (.tup xs)->l≠p->xs∈gm wd.toNat hg.toNat wd.toNat->Q (.ref l) H'
abbrev NP:List Str:=["_law_state_here", "_law_board", "_law_bare", "_law_found", "_law_line", "_law_first", "_law_none", "_law_rows", "_law_good"]
def lI:bh NP ["_law_state_here", "_law_board", "_law_bare"] (ay zf):=ZN (by decide+kernel)
def Nd {f:Addr}{fd:FuncData}(F:aG K "_law_grown" "_law_grown" zf f fd) (G:Gs mg) (jB:Def P w K mg base 1 "_law_take" ["_law_state_here", "_law_many"] ki) (ua:Def P w K mg base 2 "_law_unlike" ["_law_lay_here"] rm):aA P w K mg base aE 3 f fd ["_law_state_here", "_law_board", "_law_bare"] uQ:=by
 refine F.ok lI (fun vs H Q E h=> ?_) (fun ao A outer s H vs Q E hr h=> ?_)
 ·obtain⟨p,b,wd,hg,n,rfl,_⟩:=h
  rfl
 ·obtain⟨p,b,wd,hg,n,rfl,st,bd,q⟩:=h
  have we:=hr.mono (show 1<=2 by decide)
  refine⟨_,Zc (Zy (i:=3) lI.nd rfl (Or.inr rfl) (Zs Zb))
   (Zc (Jt Zew rfl (Z0 rfl G.range (Za (ZF ZP (pv 1) Zd (fun _ _=>rfl)) Zb)) (ZE (i:=4) lI.nd rfl (Or.inl rfl))
    (Zc (YK (Zs (Za (Zh jB we (Za (pv 0) (Za (ZF ZP (pv 1) Zd (fun _ _=>rfl)) Zb))) (Za (Zh jB we (Za (pv 0) (Za Zd Zb))) Zb))) (Z1 rfl (Zm (ZE (i:=5) lI.nd rfl (Or.inr rfl)) (Zm (ZE (i:=6) lI.nd rfl (Or.inl rfl)) ZR))))
    (Zc (Jb ["_law_k", "_law_board", "_law_first"] 1 [1,5] (i:=7) lI.nd rfl (Or.inl rfl) (Z0 rfl G.range (Za (ZF ZP (pv 1) Zd (fun _ _=>rfl)) Zb)) (fun C s H fp=>pb 0) (fun C s H fp=>Z8)
     (fun C s H fp D=>ZI rfl (Zo Ju (Zo ZT (pv 2) (pv 0)) (ZF (show oX (aS _ _ _ C s H fp) (rO K) from ZP) (pv 1) Zd (fun _ _=>rfl)))))
    (Zc (Jb ["_law_row", "_law_found"] 1 [3] (i:=8) lI.nd rfl (Or.inl rfl) (Ys (pv 7)) (fun C s H fp=>pb 0)
     (fun C s H fp=>Yr (PW.pt (BL (ZO (show bu (aS _ _ _ C s H fp) (compareOp .NotIn) (C9 K true) from U0) (pv 0) (pv 1) rfl) (UV (ZM (Zh ua hr (Za (Zo (show bu (aS _ _ _ C s H fp) (binaryOp .Add) (ko K) from kA) (pv 1) (Zs (Za (pv 0) Zb))) Zb))))))) (fun C s H fp D=>ZI rfl (pv 0)))
    (Zj (Zy (i:=3) lI.nd rfl (Or.inr rfl) (Zo kA (pv 3) (Wu (PW.pt (Jl (ZO (Tz hr.xS) (pv 8) (ZH Zb) (bO _)) (YI (ZO xn (pv 6) (pv 2) (bO _))))) (Zs (Za Yn Zb)) (Zs (Za (ZF ZY (pv 8) Zd (fun _ _=>rfl)) Zb))))))))))
   (Zj (Zw (pv 3)))),?_⟩
  obtain⟨a,e,hb⟩:=Zu bd.1
  cases e
  obtain⟨_,w1,w2,g1,g2⟩:=id bd
  obtain⟨u0,v0,e0,_⟩:=id st
  have EW:b≠p:=Ym hb e0 (by intro z;cases z)
  have eH:(hg.toNat:Int)=hg:=.o
  refine Zl (ZB ⟨Za2 _,fun f0 qr=>Zt ?_⟩)
  dsimp only[List.set]
  obtain⟨H0,zz,s0,RO⟩:=aH (o:=.tup []) qr
  rw[zz]
  have fj:=st.same s0
  refine Zl ⟨_,rfl,b,_,_,_,rfl,rfl,ah.of (s0 _ _ hb),gM,wd,rfl,.o,.o,?_⟩
  refine YV (n:=wd.toNat) (fun i σ H2=> ∃(fa:Addr) (fs:List V) (x4 x5 x6 x7 x8:Option V),σ=[some (.ref p),some (.ref b),some (.int n),some (.ref fa),x4,x5,x6,x7,x8]/\au p H H2/\cj H2 p/\H2 fa=some (.tup fs)/\fs.length=i/\dZ wd.toNat fs∈gm wd.toNat hg.toNat i)
   ⟨f0,[],none,none,none,none,none,rfl,s0.x,fj,RO,rfl,by simp[dZ,gm]⟩ ?_ ?_
  ·rintro i σ H2 hi ⟨fa,fs,x4,x5,x6,x7,x8,rfl,k2,ak,mC,rfl,hm⟩
   rw[ZeQ]
   refine Zt ?_
   dsimp only[List.set]
   have bg:fs.length<wd.toNat:=hi
   have C8:=TH hm
   have flat:fs.all gp=true:=Zbj.mpr fun x hx=>by
    rcases C8 x hx with z |⟨j,z⟩<;>rw[z]<;>rfl
   have kN:=k2 _ _ hb EW
   refine Zl (ZB ⟨_,rfl,_,rfl,b,_,_,_,rfl,rfl,ah.of kN,bQ,p,hg,rfl,ak,.o,.o,fun c1 o3 _ _ ba=> ⟨_,rfl,p,6,rfl,ba,.d,.d,fun c2 o4 _ _ cX=> ⟨aZ,fun tt Eh=> ⟨tt,_,rfl,ah.of Ze,rfl,_,_,rfl,_,_,rfl,rfl,?_⟩⟩⟩⟩)
   have xO:au p H2 (upd (upd H2 p o3) p o4):=au.upd.trans au.upd
   generalize upd (upd H2 p o3) p o4=H4 at cX xO Eh
   have s5:=Y2 (o:=.tup [.int c1,.int c2]) Eh
   generalize upd H4 tt (HO.tup [V.int c1,V.int c2])=H5 at s5
   have dr:=cX.same s5
   have k5:au p H H5:=k2.trans (xO.trans s5.x)
   obtain⟨uz,vz,ez,_⟩:=id ak
   have AD:fa≠p:=Ym mC ez (by intro z;cases z)
   have wD:=s5 _ _ (xO _ _ mC AD)
   have wK:=k5 _ _ hb EW
   dsimp only[List.set]
   refine Zl ⟨_,rfl,b,_,_,_,rfl,rfl,ah.of wK,bQ,hg,rfl,.o,.o,?_⟩
   refine YC (fun k ys aj H'=> ∃v rs,aj=[v,some (.ref b),some (.int c1)]/\H'=H5/\ys=rs.map V.int/\(∀r∈rs,0<=r/\r<hg)/\rs.length<=k) ⟨_,[],rfl,rfl,rfl,(fun r h=>by cases h),Za2 _⟩ ?_ ?_
   ·rintro k ys aj H' hk ⟨v,rs,rfl,rfl,rfl,Ai,PF⟩
    refine Zt ?_
    dsimp only[List.set]
    try unfold xY
    refine aX ?_
    refine⟨_,rfl,_,rfl,_,_,rfl,rfl,_,rfl,b,_,_,_,rfl,rfl,ah.of wK,bQ,_,_,rfl,rfl,.o,by rw[ZaP,Zat];omega,?_⟩
    refine⟨_,rs++[_],rfl,rfl,by rw[ZbC];rfl,fun r dn=> ?_,by rw[Zas];simp;omega⟩
    rcases ZaL.mp dn with z |z
    ·exact Ai r z
    ·rw[ZaI.mp z]
     exact⟨Zes _ .o,ZdK _ .o⟩
   ·rintro ys aj H' ⟨v,rs,rfl,rfl,rfl,Ai,PF⟩ L hL
    obtain⟨H6,zz,s6,eL⟩:=aH (o:=.lst (rs.map V.int)) hL
    rw[zz]
    dsimp only[List.set]
    refine Zl ⟨_,rfl,L,rfl,⟨_,ag.of eL⟩,?_⟩
    refine Ye (xs:=rs.map V.int) (fun j ys aj Kd=> ∃v gs,aj=[v,some (.ref fa)]/\ae H6 Kd/\ys=gs.map V.int/\(∀r∈gs,0<=r/\r<hg/\iI (.int r) fs=false/\bX (fs++[.int r])=true)/\gs.length<=j) ⟨_,[],rfl,ae.refl _,rfl,(fun r h=>by cases h),Za2 _⟩ (fun j ys aj Kd _ ⟨_,_,_,s',_⟩=>ag.of (s' _ _ eL)) ?_ ?_
    ·rintro j y ys aj H7 hy ⟨v,gs,rfl,s7,rfl,sU,PL⟩
     rw[ZbG]at hy
     obtain⟨r,sv,rfl⟩:=Zbs.mp hy
     have hj:j<rs.length:=(Zab.mp sv).1
     obtain⟨r0,r1⟩:=Ai r (Zbc sv)
     have EO:=s7 _ _ (s6 _ _ wD)
     refine Zt ?_
     dsimp only[List.set]
     refine⟨_,rfl,_,rfl,fa,fs,rfl,.inr (ah.of EO),rfl,flat,_,rfl,?_⟩
     cases hn:iI (.int r) fs with
     |true=>exact aP (aP ⟨_,gs,rfl,s7,rfl,sU,.o⟩)
     |false=>
      refine aX ?_
      refine⟨_,rfl,_,rfl,bZ,fun t8 Ad=> ?_⟩
      obtain⟨H8,zz,s8,e8⟩:=aH (o:=.tup [.int r]) Ad
      rw[zz]
      refine BE (s8 _ _ EO) e8 (by simp;omega) fun t9 H9 s9 e9=> ?_
      refine⟨t9,_,rfl,e9,fun x hx=> ?_,by rw[Zas];simp;omega,fun gB gP=> ⟨_,rfl,?_⟩⟩
      ·rcases ZaL.mp hx with z |z
       ·exact C8 x z
       ·exact .inr ⟨r,ZaI.mp z⟩
      have C1:=s7.trans (s8.trans (s9.trans gP))
      cases hu:bX (fs++[.int r]) with
      |true=>
       refine aX ⟨_,rfl,by rw[ZaP,Zat];omega,⟨_,gs++[r],rfl,C1,by rw[ZbC];rfl,fun r' dn=> ?_,by rw[Zas];simp;omega⟩⟩
       rcases ZaL.mp dn with z |z
       ·exact sU r' z
       ·rw[ZaI.mp z]
        exact⟨r0,r1,hn,hu⟩
      |false=>exact aP ⟨_,gs,rfl,C1,rfl,sU,.o⟩
    ·rintro ys aj H7 ⟨v,gs,rfl,s7,rfl,sU,PL⟩ M hM
     obtain⟨H8,zz,s8,eM⟩:=aH (o:=.lst (gs.map V.int)) hM
     rw[zz]
     dsimp only[List.set]
     have zk:=s6.trans (s7.trans s8)
     have hf8:=zk _ _ wD
     refine ZB ⟨_,rfl,_,rfl,Ly,fun c hc=> ⟨M,c,_,rfl,rfl,ag.of (Y2 hc _ _ eM),ag.of Ze,_,rfl,?_⟩⟩
     have s9:=Y2 (o:=.lst []) hc
     generalize upd H8 c (HO.lst [])=H9 at s9
     have Dv:∀{gB:Hp},ae H9 gB->∀t,gB t=none->ko K (.ref fa) (.ref t) (upd gB t (.tup [.af])) fun v H'=>cg 3 v [some (.ref p),some (.ref b),some (.int n),some (.ref fa),some (.int (fs.length:Int)),some (.int c1),some (.int c2),some (.ref L),some (.ref M)] H' fun aV H2=> ∃(fa:Addr) (oE:List V) (x4 x5 x6 x7 x8:Option V),aV=[some (.ref p),some (.ref b),some (.int n),some (.ref fa),x4,x5,x6,x7,x8]/\au p H H2/\cj H2 p/\H2 fa=some (.tup oE)/\oE.length=fs.length+1/\dZ wd.toNat oE∈gm wd.toNat hg.toNat (fs.length+1):=by
      intro gB gP t ht
      have jG:=Y2 (o:=.tup [.af]) ht
      have nk:=zk.trans (s9.trans (gP.trans jG))
      refine BE (nk _ _ wD) Ze (by simp;omega) fun t9 iS iY e12=>Zt ?_
      exact⟨t9,_,_,_,_,_,_,rfl,k5.trans (nk.trans iY).x,dr.same (nk.trans iY),e12,by simp,XR hm bg⟩
     cases gs with
     |nil=>exact aX ⟨bZ,Dv (ae.refl _)⟩
     |cons g gs=>
      refine aP ⟨_,rfl,_,rfl,_,_,rfl,rfl,_,rfl,?_⟩
      cases decide (c2<n) with
      |true=>exact aX ⟨bZ,Dv (ae.refl _)⟩
      |false=>
       refine aP ⟨_,rfl,M,_,0,.int g,rfl,rfl,ag.of (s9 _ _ eM),(Yv (j:=0) rfl:gA (List.map V.int (g::gs)) ((0:Nat):Int)=some (.int g)),bZ,fun t ht=> ?_⟩
       have jG:=Y2 (o:=.tup [.int g]) ht
       have nk:=zk.trans (s9.trans jG)
       obtain⟨m0,m1,m2,m3⟩:=sU g Zau
       refine BE (nk _ _ wD) Ze (by simp;omega) fun t9 iS iY e12=>Zt ?_
       exact⟨t9,_,_,_,_,_,_,rfl,k5.trans (nk.trans iY).x,dr.same (nk.trans iY),e12,by simp,XQ hm bg m0 .o m2 m3⟩
  ·rintro σ H2 ⟨fa,fs,x4,x5,x6,x7,x8,rfl,k2,ak,mC,P9,hm⟩
   obtain⟨uz,vz,ez,_⟩:=id ak
   have AD:fa≠p:=Ym mC ez (by intro z;cases z)
   have e:dZ wd.toNat fs=fs:=by
    unfold dZ
    rw[P9,Nat.sub_self]
    exact ZbP _
   rw[e]at hm
   exact⟨_,rfl,q fa H2 fs k2 ak mC AD hm⟩
end
end U.S
namespace U
open PySem L2 PyProof.Rows
def HB {xs:List V} :bI wd hg (some xs)=true↔(xs.length:Int)=wd/\(∀v∈xs,v=.af∨bz v 0 (hg - 1)=true)/\xs.Pairwise fun a b=>a=b->a=.af:=by
 have pw:(rowsOf xs).Nodup↔xs.Pairwise fun a b=>a=b->a=.af:=by
  unfold rowsOf List.Nodup
  rw[List.pairwise_filter]
  constructor
  ·intro h
   refine h.imp fun {a b} h e=> ?_
   by_cases z:a=.af
   ·exact z
   ·exact absurd e (h (by simp[z]) (by rw[<-e];simp[z]))
  ·intro h
   refine h.imp fun {a b} h p1 p2 e=> ?_
   rw[h e]at p1
   simp at p1
 have al:((rowsOf xs).all fun r=>bz r 0 (hg - 1))=true↔∀v∈xs,v=.af∨bz v 0 (hg - 1)=true:=by
  rw[Zbj]
  unfold rowsOf
  constructor
  ·intro h v hv
   by_cases z:v=.af
   ·exact .inl z
   ·exact .inr (h v (ZbM.mpr ⟨hv,by simp[z]⟩))
  ·intro h v hv
   obtain⟨h1,h2⟩:=ZbM.mp hv
   rcases h v h1 with z |z
   ·rw[z]at h2;simp at h2
   ·exact z
 unfold bI
 rw[ZaR,ZaR,Zf3,Zf3,al,pw,and_assoc]
def cO (row:Int):V->V
 | .int i=>if i<row then .int i else .int (i+1)
 |v=>v
def putL (xs:List V) (line:Nat) (row:Int):List V:=(xs.map (cO row)).take line++[V.int row]++(xs.map (cO row)).drop line
def Hn (xs:List V) (line:Nat) (row:Int):(putL xs line row).length=xs.length+1:=by
 unfold putL
 rw[Zas,Zas,ZaU,ZbD,Zat]
 simp
 omega
def XX (h:cO row (.int i)=cO row (.int j)):i=j:=by
 unfold cO at h
 by_cases h1:i<row<;>by_cases h2:j<row<;>simp only[h1,h2,ZeL,Zdp]at h<;>have h':=V.int.inj h<;>omega
def Hj :bz (.int i) a b=true↔a<=i/\i<=b:=by
 show(decide (a<=i)&&decide (i<=b))=true↔_
 rw[ZaR,Zb4,Zb4]
def Hl {xs:List V}(h:bI wd hg (some xs)=true) (hr:0<=row) (dn:row<=hg) (hl:line<=xs.length):bI (wd+1) (hg+1) (some (putL xs line row))=true:=by
 obtain⟨h1,h2,h3⟩:=HB.mp h
 have items:∀v∈xs.map (cO row),v=.af∨∃i:Int,v=.int i/\0<=i/\i<=hg/\i≠row:=fun v hv=>by
  obtain⟨u,hu,rfl⟩:=ZbF.mp hv
  rcases Yk h hu with rfl |⟨i,rfl,i0,i1⟩
  ·exact .inl rfl
  ·refine .inr ?_
   unfold cO
   by_cases z:i<row
   ·exact⟨i,by simp[z],.o,.o,.o⟩
   ·exact⟨i+1,by simp[z],.o,.o,.o⟩
 have pw:(xs.map (cO row)).Pairwise fun a b=>a=b->a=.af:=by
  rw[Zdn]
  refine Zfd ?_ h3
  intro a b ha hb tj e
  rcases Yk h ha with rfl |⟨i,rfl,_⟩
  ·rfl
  ·rcases Yk h hb with rfl |⟨j,rfl,_⟩
   ·rw[e];rfl
   ·have:=XX e
    subst this
    cases tj rfl
 refine HB.mpr ⟨by rw[Hn];omega,fun v hv=> ?_,?_⟩
 ·unfold putL at hv
  have ok:v∈xs.map (cO row)->v=.af∨bz v 0 (hg+1 - 1)=true:=fun hm=>by
   rcases items v hm with z |⟨i,rfl,i0,i1,_⟩
   ·exact .inl z
   ·exact .inr (Hj.mpr ⟨i0,.o⟩)
  rcases ZaL.mp hv with hv |hv
  ·rcases ZaL.mp hv with hv |hv
   ·exact ok (Zce hv)
   ·rw[ZaI.mp hv]
    exact .inr (Hj.mpr ⟨hr,.o⟩)
  ·exact ok (ZbH hv)
 ·unfold putL
  have sp:((xs.map (cO row)).take line++(xs.map (cO row)).drop line).Pairwise fun a b=>a=b->a=.af:=by rw[Zbw];exact pw
  obtain⟨p1,p2,p3⟩:=Zbr.mp sp
  have nr:∀v∈xs.map (cO row),v≠.int row:=fun v hv z=>by
   rcases items v hv with y |⟨i,y,_,_,ni⟩
   ·rw[y]at z;cases z
   ·rw[y]at z;cases z;exact ni rfl
  refine Zbr.mpr ⟨Zbr.mpr ⟨p1,ZdN _ _,fun a ha b hb e=> ?_⟩,p2,fun a ha b hb e=> ?_⟩
  ·rw[ZaI.mp hb]at e
   exact absurd e (nr a (Zce ha))
  ·rcases ZaL.mp ha with ha |ha
   ·exact p3 a ha b hb e
   ·rw[ZaI.mp ha]at e
    exact absurd e.symm (nr b (ZbH hb))
section
variable {P:Program}{w:World}{K:Zht}{mg:Str->Option Value}{base:Heap}
abbrev ze:Stmt:=top 39
def rn:Sp:=fun vs H Q _=> ∃(x:V) (wd hg:Int),vs=[x]/\ck H x wd hg/\∀(t:Addr) H',ae H H'->H' t=some (.tup [.int (wd+1),.int (hg+1)])->Q (.ref t) H'
def LV:bh ["board"] ["board"] (ay ze):=ZN (by decide+kernel)
def VB (F:aG K "grown" "grown" ze f fd):aA P w K mg base aE 1 f fd ["board"] rn:=by
 refine F.ok LV (fun vs H Q E h=> ?_) (fun ao A outer s H vs Q E hr h=> ?_)
 ·obtain⟨x,wd,hg,rfl,_⟩:=h
  rfl
 ·obtain⟨x,wd,hg,rfl,bd,q⟩:=h
  obtain⟨a,rfl,ha⟩:=Zu bd.1
  refine⟨_,Zj (Zw (Zs (Za (Zo ZT (ZF ZP (pv 0) Zd (fun _ _=>rfl)) Zd) (Za (Zo ZT (ZF ZP (pv 0) Zd (fun _ _=>rfl)) Zd) Zb)))),?_⟩
  refine⟨_,rfl,a,_,_,_,rfl,rfl,ah.of ha,gM,_,_,rfl,rfl,_,rfl,a,_,_,_,rfl,rfl,ah.of ha,bQ,_,_,rfl,rfl,aZ,fun t ht=> ?_⟩
  exact q t _ (Zq ht) Ze
abbrev u6:Stmt:=top 40
def pE (K:Zht):Sp:=fun vs H Q _=> ∃(x:V) (l:Addr) (xs:List V) (wd hg c:Int),vs=[x,.ref l,.int c]/\bL K H x l xs wd hg/\wd<=11/\hg<=11/\0<=c/\c<=3/\
 ∀(t:Addr) H',ae H H'->H' t=some (.tup (putL xs (cE (wd+1) c).toNat (de (hg+1) c)))->Q (.ref t) H'
def rB:bh ["board", "lay", "corner", "line", "row", "moved"] ["board", "lay", "corner"] (ay u6):=ZN (by decide+kernel)
def Xs {xs:List V}(h:k<=xs.length):dk xs none (some (k:Int))=xs.take k:=by
 unfold dk
 rw[HT.vj,HT.vk,ZeF,Zhr,Zep h]
def ZcZ {xs:List V}(h:k<=xs.length):dk xs (some (k:Int)) none=xs.drop k:=by
 unfold dk
 rw[HT.vj,HT.vk,Zep h]
 exact ZbY (by rw[ZbD];omega)
def T8 (F:aG K "put_to" "put_to" u6 f fd) (G:Gs mg) (D1:Def P w K mg base 7 "need_corner" ["board", "lay", "corner"] (uO K)) (Dna:Def P w K mg base 1 "need_at_most" ["board", "wide", "high"] S.yC) (ub:Def P w K mg base 1 "grown" ["board"] rn) (D2:Def P w K mg base 1 "corner_point" ["board", "corner"] (yO K)):aA P w K mg base aE 8 f fd ["board", "lay", "corner"] (pE K):=by
 obtain⟨tk,hL⟩:=G.longest
 refine F.ok rB (fun vs H Q E h=> ?_) (fun ao A outer s H vs Q E hr h=> ?_)
 ·obtain⟨x,l,xs,wd,hg,c,rfl,_⟩:=h
  rfl
 ·obtain⟨x,l,xs,wd,hg,c,rfl,la,jD,kT,c0,c3,q⟩:=h
  refine⟨_,Zc (Zz (Zh D1 hr (Za (pv 0) (Za (pv 1) (Za (pv 2) Zb)))))
   (Zc (Zz (Zh Dna (hr.mono .d) (Za (pv 0) (Za (Zo ZU (Yi (v:=.int 12) rfl hL ⟨_,rfl⟩) Zd) (Za (Zo ZU (Yi (v:=.int 12) rfl hL ⟨_,rfl⟩) Zd) Zb)))))
   (Zc (YK (Zh D2 (hr.mono .d) (Za (Zh ub (hr.mono .d) (Za (pv 0) Zb)) (Za (pv 2) Zb))) (Z1 rfl (Zm (ZE (i:=3) rB.nd rfl (Or.inl rfl)) (Zm (ZE (i:=4) rB.nd rfl (Or.inr rfl)) ZR))))
   (Zc (Zy (i:=5) rB.nd rfl (Or.inl rfl) (Z2 Jp rfl G.tuple Zev (Za (Yc ["at", "row"] 1 [4] (BJ (pv 1)) (fun C s H fp=>pb 0) (fun C s H fp=>Z8)
    (fun C s H fp D=>ZI rfl (Wu (PW.pt (Jl (YJ (YL (pv 0))) (YI (ZO xn (pv 0) (pv 1) (bO _))))) (pv 0) (Zo ZT (pv 0) Zd)))) Zb)))
   (Zj (Zw (Zo kA (Zo kA (Yy JD (pv 5) YX (YW (pv 3))) (Zs (Za (pv 4) Zb))) (Yy JD (pv 5) (YW (pv 3)) YX))))))),?_⟩
  obtain⟨a,rfl,ha⟩:=Zu la.bd.1
  obtain⟨_,w1,_,g1,_⟩:=id la.bd
  obtain⟨k0,k1⟩:=BI (wd:=wd+1) (c:=c) .o
  obtain⟨r0,r1⟩:=BF (hg:=hg+1) (c:=c) .o
  have ll:=Yj la.ly
  refine Zl ⟨_,rfl,_,rfl,_,rfl,.ref a,l,xs,wd,hg,c,rfl,la,c0,c3,fun H1 s1=> ?_⟩
  dsimp only
  refine Zl ⟨_,rfl,_,_,rfl,rfl,_,_,rfl,rfl,a,wd,hg,11,11,rfl,s1 _ _ ha,jD,kT,?_⟩
  dsimp only
  refine Zl (ZB ⟨_,rfl,.ref a,wd,hg,rfl,la.bd.same s1,fun t2 H2 s2 e2=> ?_⟩)
  refine⟨_,rfl,.ref t2,wd+1,hg+1,c,rfl,⟨Zn e2,.o,.o,.o,.o⟩,c0,c3,fun t3 H3 s3 e3=> ⟨t3,_,rfl,ah.of e3,rfl,_,_,rfl,_,_,rfl,rfl,?_⟩⟩
  dsimp only[List.set]
  have vv:=s1.trans (s2.trans s3)
  have items:∀v∈xs,v=.af∨∃i:Int,v=.int i/\0<=i/\i<hg:=fun v hv=>Yk la.ly hv
  unfold putL at q
  generalize cE (wd+1) c=k at *
  generalize de (hg+1) c=row at *
  have mq:=vv _ _ la.at_
  refine Zl (ZB ⟨_,rfl,l,rfl,⟨xs,ah.of mq⟩,?_⟩)
  refine WC (xs:=xs) (fun j ys σ H6=>ys=(xs.take j).map (cO row)/\H6=H3/\∃v,σ=[v,some (.int row)]) ⟨rfl,rfl,none,rfl⟩ (fun j ys σ H6 _ ⟨_,e,_⟩=>by rw[e];exact ah.of mq) ?_ ?_
  ·rintro j y ys σ H6 hy ⟨rfl,rfl,v,rfl⟩
   have hj:=(Zab.mp hy).1
   have eu:(xs.take (j+1)).map (cO row)=(xs.take j).map (cO row)++[cO row y]:=by
    rw[ZbO,hy,ZbC]
    rfl
   have fin:∀u,cO row y=u->((xs.take j).map (cO row)).length<sizeLine/\((xs.take j).map (cO row)++[u]=(xs.take (j+1)).map (cO row)/\H6=H6/\∃v,[some y,some (V.int row)]=[v,some (.int row)]):=fun u e=>by
    refine⟨?_,?_,rfl,_,rfl⟩
    ·rw[Zat,ZaU,ZaP];omega
    ·rw[eu,e]
   rcases items y (Zbc hy) with rfl |⟨i,rfl,i0,i1⟩
   ·exact⟨_,rfl,_,rfl,aX (aX ⟨_,rfl,fin _ rfl⟩)⟩
   ·refine⟨_,rfl,_,rfl,aP ⟨_,rfl,_,rfl,_,_,rfl,rfl,_,rfl,?_⟩⟩
    by_cases az:i<row
    ·rw[ZaT az]
     exact aX ⟨_,rfl,fin _ (by show(if i<row then _ else _)=_;rw[Zaq az])⟩
    ·rw[ZaK az]
     exact aP ⟨_,rfl,_,_,rfl,rfl,fin _ (by show(if i<row then _ else _)=_;rw[Zam az])⟩
  rintro ys σ H6 ⟨rfl,rfl,v,rfl⟩ L hL
  rw[Zb1]
  have lm:(xs.map (cO row)).length=xs.length:=Zat _
  generalize xs.map (cO row)=ms at lm q hL |-
  refine⟨L,_,rfl,.inl ⟨ag.of Ze,fun t4 nV=>Zt ?_⟩⟩
  dsimp only[List.set]
  have s4:=(Zq (o:=.lst ms) hL).trans (Zq (o:=.tup ms) nV)
  have e4:upd (upd H6 L (.lst ms)) t4 (.tup ms) t4=some (.tup ms):=Ze
  generalize upd (upd H6 L (.lst ms)) t4 (HO.tup ms)=H7 at s4 e4
  have ek:k=(k.toNat:Int):=.o
  have c1:=Xs (xs:=ms) (k:=k.toNat) .o
  have c2:dk ms (some (k.toNat:Int)) none=ms.drop k.toNat:=ZcZ .o
  rw[<-ek]at c1 c2
  refine⟨_,rfl,_,rfl,_,rfl,t4,_,rfl,e4,fun t5 H8 s5 e5=> ⟨_,rfl,bZ,fun t6 O0=> ?_⟩⟩
  rw[c1]at e5
  obtain⟨H9,zz,s6,e6⟩:=aH (o:=.tup [V.int row]) O0
  rw[zz]
  refine qC (s6 _ _ e5) e6 (by rw[ZaP,ZaU];simp;omega) fun t7 gB s7 e7=> ?_
  have C2:=s5.trans (s6.trans s7)
  refine⟨_,rfl,_,rfl,_,rfl,t4,_,rfl,C2 _ _ e4,fun t8 xI s8 e8=> ?_⟩
  rw[c2]at e8
  refine qC (s8 _ _ e7) e8 (by rw[ZaP,Zas,ZaU,ZbD];simp;omega) fun t9 iS s9 e9=> ?_
  exact q t9 iS (vv.trans (s4.trans (C2.trans (s8.trans s9)))) e9
end
end U
namespace U.S
open PySem L2 PyProof.Rows
def qf (h:bI wd hg (some xs)=true):j7 wd hg xs:=by
 have h':(decide ((xs.length:Int)=wd)&&((rowsOf xs).all fun r=>bz r 0 (hg - 1))&&decide (rowsOf xs).Nodup)=true:=h
 simp only[ZaR,Zb4,Zbj]at h'
 exact⟨h'.1.1,h'.1.2,h'.2⟩
end U.S
namespace U
open PySem L2 PyProof.Rows
def jQ (wd hg:Int) (xs:List V) (n:Nat):List Int:=((List.range n).filter fun(c:Nat)=>S.bX (putL xs (cE (wd+1) c).toNat (de (hg+1) c))).map fun(c:Nat)=> (c:Int)
def Jg (wd hg:Int) (xs:List V) (n:Nat):jQ wd hg xs (n+1)=jQ wd hg xs n++(if S.bX (putL xs (cE (wd+1) n).toNat (de (hg+1) n))=true then [(n:Int)] else []):=by
 unfold jQ
 rw[Zeq,Zej,ZbC]
 congr 1
 by_cases h:S.bX (putL xs (cE (wd+1) n).toNat (de (hg+1) n))=true
 ·simp[h]
 ·simp[h]
def WO (wd hg:Int) (xs:List V) (n:Nat):(jQ wd hg xs n).length<=n:=by
 unfold jQ
 rw[Zat]
 exact Zcd (ZeP _ _) (by rw[Zcb];exact Zae _)
section
variable {P:Program}{w:World}{K:Zht}{mg:Str->Option Value}{base:Heap}
abbrev rK:Stmt:=top 41
def rp (K:Zht):Sp:=fun vs H Q _=> ∃(x:V) (l:Addr) (xs:List V) (wd hg:Int),vs=[x,.ref l]/\bL K H x l xs wd hg/\S.bX xs=true/\wd<=11/\hg<=11/\∀(L:Addr) H',ae H H'->H L=none->H' L=some (.lst ((jQ wd hg xs 4).map V.int))->Q (.ref L) H'
def yR:bh ["board", "lay"] ["board", "lay"] (ay rK):=ZN (by decide+kernel)
def VC (F:aG K "good_corners" "good_corners" rK f fd) (G:Gs mg) (B7:Def P w K mg base 12 "need_unlike" ["board", "lay"] S.uN) (B6:Def P w K mg base 11 "is_unlike" ["board", "lay"] S.pC) (ub:Def P w K mg base 1 "grown" ["board"] rn) (tZ:Def P w K mg base 8 "put_to" ["board", "lay", "corner"] (pE K)):aA P w K mg base aE 13 f fd ["board", "lay"] (rp K):=by
 obtain⟨tk,hL⟩:=G.last
 refine F.ok yR (fun vs H Q E h=> ?_) (fun ao A outer s H vs Q E hr h=> ?_)
 ·obtain⟨x,l,xs,wd,hg,rfl,_⟩:=h
  rfl
 ·obtain⟨x,l,xs,wd,hg,rfl,la,un,jD,kT,q⟩:=h
  refine⟨_,Zc (Zz (Zh B7 hr (Za (pv 0) (Za (pv 1) Zb))))
   (Zj (Zw (Yc ["corner", "board", "lay"] 1 [0,1] (Z0 rfl G.range (Za (Zo ZT (Yi (v:=.int 3) rfl hL ⟨_,rfl⟩) Zd) Zb)) (fun C s H fp=>pb 0)
    (fun C s H fp=>Yr (ZM (Zh B6 (hr.mono .d) (Za (Zh ub (hr.mono .d) (Za (pv 1) Zb)) (Za (Zh tZ (hr.mono .d) (Za (pv 1) (Za (pv 2) (Za (pv 0) Zb)))) Zb)))))
    (fun C s H fp D=>ZI rfl (pv 0))))),?_⟩
  obtain⟨a,rfl,ha⟩:=Zu la.bd.1
  obtain⟨_,w1,_,g1,_⟩:=id la.bd
  have ll:=Yj la.ly
  refine Zl ⟨_,rfl,_,rfl,.ref a,.ref l,wd,hg,xs,rfl,⟨la.bd,Zn la.at_,S.qf la.ly⟩,un,fun H1 s1=> ?_⟩
  dsimp only
  refine⟨_,_,rfl,rfl,4,rfl,.d,.d,?_⟩
  refine YC (n:=4) (fun j ys σ H'=> ∃v0,σ=[v0,some (.ref a),some (.ref l)]/\ae H1 H'/\ys=(jQ wd hg xs j).map V.int) ⟨_,rfl,ae.refl _,rfl⟩ ?_ ?_
  ·rintro j ys σ H' hj ⟨v0,rfl,s',rfl⟩
   rw[ZeQ]
   refine Zt ?_
   dsimp only[List.set]
   have s0:=s1.trans s'
   have zQ:bL K H' (.ref a) l xs wd hg:=⟨la.bd.same s0,s0 _ _ la.at_,la.ly⟩
   refine⟨_,rfl,.ref a,wd,hg,rfl,zQ.bd,fun t2 H2 s2 e2=> ?_⟩
   refine⟨_,rfl,_,rfl,_,rfl,.ref a,l,xs,wd,hg,(j:Int),rfl,⟨zQ.bd.same s2,s2 _ _ zQ.at_,la.ly⟩,jD,kT,.o,.o,fun t3 H3 s3 e3=> ?_⟩
   obtain⟨k0,k1⟩:=BI (wd:=wd+1) (c:=(j:Int)) .o
   obtain⟨r0,r1⟩:=BF (hg:=hg+1) (c:=(j:Int)) .o
   have pl:=Hl (row:=de (hg+1) j) (line:=(cE (wd+1) j).toNat) la.ly r0 .o .o
   refine⟨.ref t2,.ref t3,wd+1,hg+1,_,rfl,⟨⟨Zn (s3 _ _ e2),.o,.o,.o,.o⟩,Zn e3,S.qf pl⟩,fun H4 r4 s4 f4=> ⟨_,rfl,?_⟩⟩
   rw[S.xR f4]
   have sA:=s'.trans (s2.trans (s3.trans s4))
   have gl:=WO wd hg xs j
   by_cases hu:S.bX (putL xs (cE (wd+1) (j:Int)).toNat (de (hg+1) (j:Int)))=true
   ·rw[hu]
    refine aX ⟨_,rfl,by rw[Zat,ZaP];omega,_,rfl,sA,?_⟩
    rw[Jg,Zaq hu,ZbC]
    rfl
   ·rw[Zfs.mpr hu]
    refine aP ⟨_,rfl,sA,?_⟩
    rw[Jg,Zam hu,ZbP]
  ·rintro ys σ H' ⟨v0,rfl,s',rfl⟩ L AY
   have n0:H L=none:=by
    cases h:H L with
    |none=>rfl
    |some u=>rw[(s1.trans s') _ _ h]at AY;cases AY
   exact q L _ (s1.trans (s'.trans (Zq AY))) n0 Ze
end
end U
namespace U.S
open PySem L2 PyProof.Rows
section
variable {P:Program}{w:World}{K:Zht}{mg:Str->Option Value}{base:Heap}{cB cN cM:Addr}
def aai (H:Hp) (x:V):Prop:=∃wd hg,ck H x wd hg/\(11<wd∨11<hg)
def yz (cM:Addr):Sp:=fun vs H _ E=> ∃x,vs=[x,.int 11,.int 11]/\aai H x/\∀e H',ae H H'->E (.ref e) (some cM) H'
def M9 (F:aG K "need_at_most" "need_at_most" vg f fd) (X:Exc K mg "TooMany" cM):aA P w K mg base (aC P w) 1 f fd ["board", "wide", "high"] (yz cM):=by
 refine F.fO CY (fun vs H Q E h=> ?_) (fun ao A outer s H vs Q E hr h=> ?_)
 ·obtain⟨x,rfl,_⟩:=h
  rfl
 ·obtain⟨x,rfl,⟨wd,hg,bd,gr⟩,q⟩:=h
  obtain⟨b,rfl,hb⟩:=Zu bd.1
  refine⟨_,Zj (ZQ (PW.pt (Jl (ZO Uu (ZF ZP (pv 0) Zd (fun _ _=>rfl)) (pv 1) (bO _)) (YI (ZO Uu (ZF ZP (pv 0) Zd (fun _ _=>rfl)) (pv 2) (bO _)))))
   (Zj (YQ Zdf X.m X.x rfl (Za (Im ZS (pv 1) ZS (pv 2) ZS) Zb))) Zv),?_⟩
  refine⟨_,rfl,b,_,0,.int wd,rfl,rfl,ah.of hb,rfl,_,rfl,_,_,rfl,rfl,_,rfl,?_⟩
  by_cases h1:wd>11
  ·rw[ZaT h1]
   refine aX (aX ⟨_,rfl,.d,_,rfl,11,rfl,.d,.d,_,rfl,.d,_,rfl,11,rfl,.d,.d,_,rfl,.d,fun z=> ⟨bZ,fun e=>q e H (ae.refl H)⟩⟩)
  ·rw[ZaK h1]
   refine aP ⟨_,rfl,b,_,1,.int hg,rfl,rfl,ah.of hb,rfl,_,rfl,_,_,rfl,rfl,_,rfl,?_⟩
   rw[ZaT (show hg>11 by omega)]
   exact aX ⟨_,rfl,.d,_,rfl,11,rfl,.d,.d,_,rfl,.d,_,rfl,11,rfl,.d,.d,_,rfl,.d,fun z=> ⟨bZ,fun e=>q e H (ae.refl H)⟩⟩
end
end U.S
namespace U
open PySem L2 PyProof.Rows
section
variable {P:Program}{w:World}{K:Zht}{mg:Str->Option Value}{base:Heap}{aB aL aN aM:Addr}
def aan (K:Zht) (aB aL aN aM:Addr) (H:Hp) (x y z:V) (C:Addr):Prop:=Km K aB aL aN H x y z C∨(C=aM/\∃(l:Addr) (xs:List V) (wd hg c:Int),y=.ref l/\z=.int c/\0<=c/\c<=3/\bL K H x l xs wd hg/\(11<wd∨11<hg))
def pD (K:Zht) (aB aL aN aM:Addr):Sp:=fun vs H _ E=> ∃x y z C,vs=[x,y,z]/\aan K aB aL aN aM H x y z C/\∀e H',ae H H'->E (.ref e) (some C) H'
def Tx (F:aG K "put_to" "put_to" u6 f fd) (G:Gs mg) (D1:Def P w K mg base 7 "need_corner" ["board", "lay", "corner"] (uO K)) (R1:aY P w K mg base 7 "need_corner" ["board", "lay", "corner"] (yx K aB aL aN)) (R2:aY P w K mg base 1 "need_at_most" ["board", "wide", "high"] (S.yz aM)):aA P w K mg base (aC P w) 8 f fd ["board", "lay", "corner"] (pD K aB aL aN aM):=by
 obtain⟨tk,hL⟩:=G.longest
 refine F.fO rB (fun vs H Q E h=> ?_) (fun ao A outer s H vs Q E hr h=> ?_)
 ·obtain⟨x,y,z,C,rfl,_⟩:=h
  rfl
 ·obtain⟨x,y,z,C,rfl,b |⟨rfl,l,xs,wd,hg,c,rfl,rfl,c0,c3,la,gr⟩,q⟩:=h
  ·refine⟨_,Zc (Zz (ZW R1 hr (Za (pv 0) (Za (pv 1) (Za (pv 2) Zb))))) Zr,?_⟩
   exact⟨x,rfl,y,rfl,z,rfl,x,y,z,C,rfl,b,q⟩
  ·refine⟨_,Zc (Zz (Zh D1 hr (Za (pv 0) (Za (pv 1) (Za (pv 2) Zb)))))
    (Zc (Zz (ZW R2 (hr.mono .d) (Za (pv 0) (Za (Zo ZU (Yi (v:=.int 12) rfl hL ⟨_,rfl⟩) Zd) (Za (Zo ZU (Yi (v:=.int 12) rfl hL ⟨_,rfl⟩) Zd) Zb))))) Zr),?_⟩
   refine Zl ⟨_,rfl,_,rfl,_,rfl,x,l,xs,wd,hg,c,rfl,la,c0,c3,fun H1 s1=> ?_⟩
   dsimp only
   exact⟨_,rfl,_,_,rfl,rfl,_,_,rfl,rfl,x,rfl,⟨wd,hg,la.bd.same s1,gr⟩,fun e H' s'=>q e H' (s1.trans s')⟩
end
end U
namespace U.S
open PySem L2 PyProof.Rows
section
variable {P:Program}{w:World}{K:Zht}{mg:Str->Option Value}{base:Heap}{cB cL cU:Addr}
def aam (K:Zht) (cB cL cU:Addr) (H:Hp) (x y:V) (C:Addr):Prop:=Kn K cB cL H x y C∨(C=cU/\∃wd hg xs,bL H x y wd hg xs/\bX xs=false)
def jF (K:Zht) (cB cL cU:Addr):Sp:=fun vs H _ E=> ∃x y C,vs=[x,y]/\aam K cB cL cU H x y C/\∀e H',ae H H'->E (.ref e) (some C) H'
def M7 (F:aG K "need_unlike" "need_unlike" ve f fd) (X:Exc K mg "NoUnlike" cU) (D1:Def P w K mg base 11 "is_unlike" ["board", "lay"] pC) (R1:aY P w K mg base 11 "is_unlike" ["board", "lay"] (eO K cB cL)):aA P w K mg base (aC P w) 12 f fd ["board", "lay"] (jF K cB cL cU):=by
 refine F.fO CV (fun vs H Q E h=> ?_) (fun ao A outer s H vs Q E hr h=> ?_)
 ·obtain⟨x,y,C,rfl,_⟩:=h
  rfl
 ·obtain⟨x,y,C,rfl,b,q⟩:=h
  rcases b with b |⟨rfl,wd,hg,xs,la,un⟩
  ·refine⟨_,Zj (ZQ (ZZ (ZM (ZW R1 hr (Za (pv 0) (Za (pv 1) Zb))))) Zr Zv),?_⟩
   exact⟨x,rfl,y,rfl,x,y,C,rfl,b,q⟩
  ·refine⟨_,Zj (ZQ (ZZ (ZM (Zh D1 hr (Za (pv 0) (Za (pv 1) Zb))))) (Zj (YQ Zdf X.m X.x rfl (Za ZS Zb))) Zv),?_⟩
   refine⟨_,rfl,_,rfl,x,y,wd,hg,xs,rfl,la,fun H1 r s1 fi=> ⟨_,rfl,?_⟩⟩
   rw[xR fi,un]
   exact aX ⟨bZ,fun e=>q e H1 s1⟩
def Nf (F:aG K "good_corners" "good_corners" rK f fd) (R1:aY P w K mg base 12 "need_unlike" ["board", "lay"] (jF K cB cL cU)):aA P w K mg base (aC P w) 13 f fd ["board", "lay"] (jF K cB cL cU):=by
 refine F.fO yR (fun vs H Q E h=> ?_) (fun ao A outer s H vs Q E hr h=> ?_)
 ·obtain⟨x,y,C,rfl,_⟩:=h
  rfl
 ·obtain⟨x,y,C,rfl,b,q⟩:=h
  refine⟨_,Zc (Zz (ZW R1 hr (Za (pv 0) (Za (pv 1) Zb)))) Zr,?_⟩
  exact⟨x,rfl,y,rfl,x,y,C,rfl,b,q⟩
end
end U.S
namespace U
open PySem L2 PyProof.Rows
def jT (xs:List V) (line row d e:Int) (i:Nat) (j:Int):Option V:=
 if j=line then some (.int row) else if 0<=j - d/\j - d<i then (match xs[(j - d).toNat]? with |some (.int v)=>some (.int (v+e)) |_=>none) else none
def ZcX (h:xs[i]? =some .af) (j:Int):jT xs line row d e (i+1) j=jT xs line row d e i j:=by
 unfold jT
 by_cases y:j=line
 ·rw[Zaq y,Zaq y]
 rw[Zam y,Zam y]
 by_cases z:j - d=i
 ·rw[Zam (show ¬(0<=j - d/\j - d< (i:Nat)) by omega),Zaq .o,z,ZdT,h]
 ·by_cases y:0<=j - d/\j - d< (i:Nat)
  ·rw[Zaq y,Zaq .o]
  ·rw[Zam y,Zam .o]
def VT {xs:List V}{line row d e v:Int}{i:Nat}(hl:(i:Int)+d≠line) (h:xs[i]? =some (.int v)) (j:Int):jT xs line row d e (i+1) j=if j=i+d then some (.int (v+e)) else jT xs line row d e i j:=by
 unfold jT
 by_cases y:j=line
 ·rw[Zaq y,Zaq y,Zam .o]
 rw[Zam y,Zam y]
 by_cases z:j=i+d
 ·rw[Zaq z,Zaq .o,show(j - d).toNat=i by omega,h]
 ·rw[Zam z]
  by_cases y:0<=j - d/\j - d< (i:Nat)
  ·rw[Zaq y,Zaq .o]
  ·rw[Zam y,Zam .o]
def Xt {xs:List V}{wd hg c:Int}{j:Nat}(h:bI wd hg (some xs)=true) (w1:1<=wd) (g1:1<=hg) (hj:(j:Int)<wd+1):
  (putL xs (cE (wd+1) c).toNat (de (hg+1) c))[j]? =some ((jT xs (cE (wd+1) c) (de (hg+1) c) (z1 (cE (wd+1) c)) (z1 (de (hg+1) c)) xs.length j).getD .af):=by
 have ll:=Yj h
 have kk:cE (wd+1) c=0∨cE (wd+1) c=wd:=by unfold cE;split<;>simp
 have rr:de (hg+1) c=0∨de (hg+1) c=hg:=by unfold de;split<;>simp
 generalize cE (wd+1) c=line at *
 generalize de (hg+1) c=row at *
 have lm:(xs.map (cO row)).length=xs.length:=Zat _
 have item:∀{m:Nat} (hm:m<xs.length),cO row xs[m]=((match xs[m]? with |some (.int v)=>some (V.int (v+z1 row)) |_=>none).getD .af):=fun {m} hm=>by
  rw[Zal hm]
  rcases Yk h (ZeC hm) with z |⟨v,z,v0,v1⟩
  ·rw[z];rfl
  ·rw[z]
   show(if v<row then V.int v else V.int (v+1))=V.int (v+z1 row)
   unfold z1
   rcases rr with y |y
   ·rw[Zam .o,Zaq y]
   ·rw[Zaq .o,Zam .o,Int.add_zero]
 unfold putL jT
 rcases kk with z |z
 ·have e1:z1 line=1:=by unfold z1;rw[Zaq z]
  rw[e1,z]
  show(((xs.map (cO row)).take 0++[V.int row]++(xs.map (cO row)).drop 0))[j]? =_
  rw[ZgU,Zdy,ZeF]
  cases j with
  |zero=>rfl
  |succ j=>
   have hm:j<xs.length:=.o
   rw[Zam .o,Zaq .o,show(((j+1:Nat):Int) - 1).toNat=j by omega,List.singleton_append,List.getElem?_cons_succ,ZbG,Zal hm]
   have:=item hm
   rw[Zal hm]at this
   exact Zex some this
 ·have e1:z1 line=0:=by unfold z1;rw[Zam .o]
  have el:line.toNat=xs.length:=.o
  rw[e1,el,ZbY .o,List.drop_of_length_le .o,ZbP]
  by_cases sP:j<xs.length
  ·rw[Zdt .o,ZbG,Zal sP,Zam .o,Zaq .o,show((j:Int) - 0).toNat=j by omega]
   exact Zex some (item sP)
  ·have ej:j=xs.length:=.o
   rw[Zdd .o,Zaq .o,show j - (xs.map (cO row)).length=0 by omega]
   rfl
section
variable {P:Program}{w:World}{K:Zht}{mg:Str->Option Value}{base:Heap}
abbrev zg:Stmt:=top 57
def yJ (K:Zht):Sp:=fun vs H Q _=> ∃(x:V) (l:Addr) (xs:List V) (wd hg c:Int),vs=[x,.ref l,.int c]/\bL K H x l xs wd hg/\wd<=11/\hg<=11/\0<=c/\c<=3/\∀(t:Addr) H',ae H H'->H' t=some (.tup (putL xs (cE (wd+1) c).toNat (de (hg+1) c)))->Q (.ref t) H'
def nj:bh ["_law_board", "_law_lay_here", "_law_corner_here", "_law_wide", "_law_high", "_law_line", "_law_row", "_law_there", "_law_at", "_law_one"] ["_law_board", "_law_lay_here", "_law_corner_here"] (ay zg):=ZN (by decide+kernel)
def VA (F:aG K "_law_due" "_law_due" zg f fd) (G:Gs mg) (D1:Def P w K mg base 1 "_law_corner" ["_law_board", "_law_corner_here"] (yG K)):aA P w K mg base aE 2 f fd ["_law_board", "_law_lay_here", "_law_corner_here"] (yJ K):=by
 refine F.ok nj (fun vs H Q E h=> ?_) (fun ao A outer s H vs Q E hr h=> ?_)
 ·obtain⟨x,l,xs,wd,hg,c,rfl,_⟩:=h
  rfl
 ·obtain⟨x,l,xs,wd,hg,c,rfl,la,jD,kT,c0,c3,q⟩:=h
  have hu:=xq hr
  refine⟨_,Zc (BK (i:=3) (j:=4) rfl nj.nd rfl rfl .d rfl rfl (Za (Zo ZT (ZF ZP (pv 0) Zd (fun _ _=>rfl)) Zd) (Za (Zo ZT (ZF ZP (pv 0) Zd (fun _ _=>rfl)) Zd) Zb)) rfl)
   (Zc (YK (Zh D1 hr (Za (Zs (Za (pv 3) (Za (pv 4) Zb))) (Za (pv 2) Zb))) (Z1 rfl (Zm (ZE (i:=5) nj.nd rfl (Or.inl rfl)) (Zm (ZE (i:=6) nj.nd rfl (Or.inl rfl)) ZR))))
   (Zc (Zy (i:=7) nj.nd rfl (Or.inr rfl) (Z2 Uh rfl G.dict PyProof.Rows.Boot.«dict» (Za (ZH (Za (Zs (Za (pv 5) (Za (pv 6) Zb))) Zb)) Zb)))
   (Zc (Jt Zew rfl (HU rfl G.enumerate (Za (pv 1) Zb)) (Z1 rfl (Zm (ZE (i:=8) nj.nd rfl (Or.inl rfl)) (Zm (ZE (i:=9) nj.nd rfl (Or.inl rfl)) ZR)))
    (Zj (ZQ (YJ (Wl (pv 9)))
     (Zj (Xl hu (pv 7) (Zo ZT (pv 8) (Z2 UL rfl G.int boot_int (Za (Z5 Y4 (pv 5) Zd (bO _)) Zb))) (Zo ZT (pv 9) (Z2 UL rfl G.int boot_int (Za (Z5 Y4 (pv 6) Zd (bO _)) Zb))) rfl)) Zv)))
   (Zj (Zw (Z2 Jp rfl G.tuple Zev (Za (Yc ["_law_at", "_law_there"] 1 [7] (Z0 rfl G.range (Za (pv 3) Zb)) (fun C s H fp=>pb 0) (fun C s H fp=>Z8)
    (fun C s H fp D=>ZI rfl (Xz hu (pv 1) (pv 0) ⟨rfl,rfl,rfl,rfl⟩))) Zb))))))),?_⟩
  obtain⟨_,w1,qQ,g1,Rl⟩:=id la.bd
  obtain⟨a,rfl,ha⟩:=Zu la.bd.1
  have ll:=Yj la.ly
  refine Zl ⟨_,rfl,a,_,_,_,rfl,rfl,ah.of ha,gM,_,_,rfl,rfl,_,rfl,a,_,_,_,rfl,rfl,ah.of ha,bQ,_,_,rfl,rfl,_,_,rfl,?_⟩
  dsimp only[List.set]
  refine Zl (ZB ⟨_,rfl,_,rfl,aZ,fun t1 kK=> ?_⟩)
  obtain⟨H1,zz,s1,e1⟩:=aH (o:=.tup [V.int (wd+1),V.int (hg+1)]) kK
  rw[zz]
  refine⟨_,rfl,.ref t1,wd+1,hg+1,c,rfl,⟨Zn e1,.o,.o,.o,.o⟩,c0,c3,fun t H2 s2 e2=> ⟨t,_,rfl,ah.of e2,rfl,_,_,rfl,_,_,rfl,rfl,?_⟩⟩
  dsimp only[List.set]
  have Sn:=fun {j:Nat} (hj:(j:Int)<wd+1)=>Xt (c:=c) (j:=j) la.ly w1 g1 hj
  have aav:(putL xs (cE (wd+1) c).toNat (de (hg+1) c)).length=xs.length+1:=Hn _ _ _
  have kk:cE (wd+1) c=0∨cE (wd+1) c=wd:=by unfold cE;split<;>simp
  generalize putL xs (cE (wd+1) c).toNat (de (hg+1) c)=ts at *
  generalize cE (wd+1) c=line at *
  generalize de (hg+1) c=row at *
  refine Zl (ZB ⟨_,rfl,_,rfl,aZ,fun t3 O2=> ?_⟩)
  obtain⟨H3,zz,s3,e3⟩:=aH (o:=.tup [V.int line,V.int row]) O2
  rw[zz]
  refine⟨bZ,fun L4 jo=> ?_⟩
  obtain⟨H4,zz,s4,e4⟩:=aH (o:=.lst [V.ref t3]) jo
  rw[zz]
  refine⟨L4,_,[(Sum.inl line,.int row)],rfl,e4,.cons ⟨t3,rfl,s4 _ _ e3⟩ .nil,by simp,fun d hd=>Zt ?_⟩
  dsimp only[List.set]
  have rL:=s1.trans (s2.trans (s3.trans s4))
  have em:nF [] [((Sum.inl line:Key),V.int row)]=[(Sum.inl line,.int row)]:=rfl
  rw[em]
  have sd:=Zq (o:=.dK [((Sum.inl line:Key),V.int row)]) hd
  have Qg:H d=none:=rL.free hd
  have ed:upd H4 d (.dK [((Sum.inl line:Key),V.int row)]) d=some (.dK [(Sum.inl line,.int row)]):=Ze
  have sA:au d H (upd H4 d (.dK [((Sum.inl line:Key),V.int row)])):=(rL.trans sd).x
  generalize upd H4 d (HO.dK [((Sum.inl line:Key),V.int row)])=H5 at ed sA
  have zT:∀{H4:Hp},au d H H4->ae H H4:=fun x b o h=>x b o h (fun z=>by rw[z,Qg]at h;cases h)
  refine Zl ⟨_,rfl,l,rfl,⟨xs,ah.of (zT sA _ _ la.at_)⟩,?_⟩
  refine Zd9 (xs:=xs) (fun i σ H4=> ∃(kvs:List (Key×V)) (v6 v7:Option V),σ=[some (.ref a),some (.ref l),some (.int c),some (.int (wd+1)),some (.int (hg+1)),some (.int line),some (.int row),some (.ref d),v6,v7]/\au d H H4/\H4 d=some (.dK kvs)/\kvs.length<=i+1/\∀j:Int,dq kvs (Sum.inl j)=jT xs line row (z1 line) (z1 row) i j)
   ⟨_,none,none,rfl,sA,ed,Zae _,fun j=>by
    unfold jT
    by_cases y:j=line
    ·rw[Zaq y,Z4 (by rw[y])]
    ·rw[Zam y,Zam .o]
     unfold dq
     simp[Zen,ZdL y]⟩ (fun i σ H4 _ ⟨_,_,_,_,x4,_⟩=>ah.of (zT x4 _ _ la.at_)) ?_ ?_
  ·rintro i v T σ H4 hv hT ⟨kvs,v6,v7,rfl,x4,e4,lk,hk⟩
   have hi:i<xs.length:=(Zab.mp hv).1
   have sT:ae H4 (upd H4 T (.par [.int (i:Int),v])):=Zq hT
   refine⟨T,_,rfl,ah.pU Ze,rfl,_,_,rfl,_,_,rfl,rfl,?_⟩
   dsimp only[List.set]
   have x5:au d H (upd H4 T (.par [.int (i:Int),v])):=x4.trans sT.x
   have e5:=sT _ _ e4
   generalize upd H4 T (HO.par [V.int (i:Int),v])=H5 at x5 e5
   refine⟨_,rfl,_,rfl,?_⟩
   rcases Yk la.ly (Zbc hv) with rfl |⟨u,rfl,u0,u1⟩
   ·exact aP (Yb ⟨kvs,_,_,rfl,x5,e5,.o,fun j=>by rw[ZcX hv];exact hk j⟩)
   ·have i1:∀k:Int,(if decide (V.int k=V.int 0)=true then (1:Int) else 0)=z1 k:=fun k=>by
     unfold z1
     by_cases y:k=0
     ·rw[Zaq y,Zaq (ZaT (by rw[y]))]
     ·rw[Zam y,Zam (by rw[ZaK (fun e=>y (by cases e;rfl))];decide)]
    have hl:(i:Int)+z1 line≠line:=by
     unfold z1
     rcases kk with z |z
     ·rw[Zaq z];omega
     ·rw[Zam .o];omega
    refine aX ⟨_,rfl,_,rfl,rfl,.inr ⟨_,rfl,_,_,rfl,rfl,_,rfl,_,rfl,_,rfl,rfl,.inr ⟨_,rfl,_,_,rfl,rfl,d,_,rfl,uc.k (k:=Sum.inl _) e5 (by rw[ZaP];omega),?_⟩⟩⟩
    rw[i1,i1]
    refine⟨_,_,_,rfl,x5.trans au.upd,Ze,Zcd (YF _ _ _) .o,fun j=> ?_⟩
    rw[Zc6,VT hl hv,<-hk j]
    by_cases y:j=i+z1 line
    ·rw[Zaq y,Zaq (by rw[y])]
    ·rw[Zam y,Zam (fun e=>y (Sum.inl.inj e))]
  ·rintro σ H4 ⟨kvs,v6,v7,rfl,x4,e4,lk,hk⟩
   dsimp only
   refine⟨_,rfl,_,rfl,.o,.o,?_⟩
   refine YC (n:=(wd+1).toNat) (fun j ys σ H5=>ys=ts.take j/\H5=H4/\∃v,σ=[v,some (.ref d)]) ⟨rfl,rfl,none,rfl⟩ ?_ ?_
   ·rintro j ys σ H5 hj ⟨rfl,rfl,v,rfl⟩
    have look:qI H5 d (.int (0+(j:Int))) (dq kvs (Sum.inl (j:Int))):=by
     rw[ZeQ]
     exact qI.k (k:=Sum.inl (j:Int)) e4
    refine⟨_,rfl,d,rfl,.inl ⟨_,.inl e4⟩,_,rfl,_,look,?_,?_,rfl,_,rfl⟩
    ·rw[ZaU,ZaP];omega
    ·rw[ZbO,Sn .o,hk]
     rfl
   ·rintro ys σ H5 ⟨rfl,rfl,v,rfl⟩ L hL
    refine⟨L,_,rfl,.inl ⟨ag.of Ze,fun t' me=> ?_⟩⟩
    refine q t' _ ((zT x4).trans ((Zq hL).trans (Zq me))) ?_
    rw[Ze,ZbY .o]
end
end U
namespace L2
open PySem PySem.Spec PyProof.Rows SeqAt
def ZcC {K:Zht}{l1 l2:Addr}{xs zs:List V}{g:TG}{tt:TT}{ti:TC}{ys:List V}{σ:St}{H:Hp}{Q:List V->St->Hp->Prop}(hlen:xs.length=zs.length) (Pv:Nat->List V->St->Hp->Prop) (h0:Pv 0 ys σ H)
  (hl:∀i ys σ H,i<=xs.length->Pv i ys σ H->ag K H l1 xs/\ag K H l2 zs)
  (hs:∀i x y T ys σ H,xs[i]? =some x->zs[i]? =some y->H T=none->Pv i ys σ H->g (.ref T) σ (upd H T (.par [x,y])) fun aV H2=>tt aV H2 fun b H3=>if b=true then ti ys aV H3 (Pv (i+1)) else Pv (i+1) ys aV H3)
  (hd:∀ys σ H,Pv xs.length ys σ H->Q ys σ H):iq g tt ti (xG K l1 l2) ys σ H Q:=by
 have e:min xs.length zs.length=xs.length:=by rw[<-hlen];exact Nat.min_self _
 refine Uy Pv h0 (fun i ys σ H hi=>hl i ys σ H (by rw[e]at hi;exact hi)) hs ?_
 rw[e]
 exact hd
end L2
namespace U
open PySem L2 PyProof.Rows
section
variable {P:Program}{w:World}{K:Zht}{mg:Str->Option Value}{base:Heap}
def BR (R:Hp->V->V->Prop) (H:Hp) (x y:V):Prop:=∃(a b:Addr) (xs ys:List V),x=.ref a/\y=.ref b/\H a=some (.lst xs)/\H b=some (.lst ys)/\Paired (R H) xs ys/\xs.length<=1000
def Zcy (hR:∀{H H':Hp}{x y:V},R H x y->ae H H'->R H' x y) (F:aG K "_law_same" "_law_same" pL f fd) (G:Gs mg) (D:Def P w K mg base k "_law_same" ["_law_found", "_law_due_here"] (ir R)):
  aA P w K mg base aE (k+1) f fd ["_law_found", "_law_due_here"] (ir (BR R)):=by
 refine F.ok uV (fun vs H Q E h=> ?_) (fun ao A outer s H vs Q E hr h=> ?_)
 ·obtain⟨x,y,rfl,_⟩:=h
  rfl
 ·obtain⟨x,y,rfl,⟨a,b,xs,ys,rfl,rfl,ha,hb,pr,hl⟩,q⟩:=h
  refine⟨_,Zc (ZQ (ZM (Zp (YM (a:= "list") (b:= "tuple")) rfl G.isinstance Zbx (Za (pv 1) (Za (Zs (Za (ZJ (v:=.ty "list") rfl G.list Zfi rfl) (Za (ZJ (v:=.ty "tuple") rfl G.tuple Zev rfl) Zb))) Zb))))
    (Zc (ZQ (PW.pt (Jl (ZO Ut (Zp (ZD (c:= "list")) rfl G.isinstance Zbx (Za (pv 0) (Za (ZJ (v:=.ty "list") rfl G.list Zfi rfl) Zb))) (Zp (ZD (c:= "list")) rfl G.isinstance Zbx (Za (pv 1) (Za (ZJ (v:=.ty "list") rfl G.list Zfi rfl) Zb))) (bO _))
      (YI (ZO Ut (Zp (ZD (c:= "tuple")) rfl G.isinstance Zbx (Za (pv 0) (Za (ZJ (v:=.ty "tuple") rfl G.tuple Zev rfl) Zb))) (Zp (ZD (c:= "tuple")) rfl G.isinstance Zbx (Za (pv 1) (Za (ZJ (v:=.ty "tuple") rfl G.tuple Zev rfl) Zb))) (bO _))))) Zr Zv)
    (Zj (Zw (YB (Z5 Y4 (Zp ZG rfl G.len ZeU (Za (pv 0) Zb)) (Zp ZG rfl G.len ZeU (Za (pv 1) Zb)) (bO _))
     (Yz (Zp JT rfl G.all boot_all (Za (Yc ["_law_one", "_law_other"] 2 [] (HV rfl G.zip (Za (pv 0) (Za (pv 1) Zb)))
      (fun C s H fp=>show PG (aS _ _ _ C s H fp) _ (js K 2 (cV (cg 0) (cV (cg 1) jt))) from Z1 rfl (Zm (pb 0) (Zm (pb 1) ZR))) (fun C s H fp=>Z8)
      (fun C s H fp D'=>ZI rfl (Zh D hr (Za (pv 0) (Za (pv 1) Zb))))) Zb))))))) Zv) Zr,?_⟩
  refine⟨_,rfl,aZ,fun t ht=> ?_⟩
  obtain⟨H1,zz,s1,e1⟩:=aH (o:=.tup [V.ty "list",V.ty "tuple"]) ht
  rw[zz]
  have gK:=s1 _ _ ha
  have dN:=s1 _ _ hb
  refine⟨_,t,_,_,rfl,ah.of e1,.inr (.inr (.inl ⟨b,ys,rfl,dN,rfl⟩)),(show _=some true from rfl),_,rfl,aX ?_⟩
  refine⟨_,rfl,_,_,_,rfl,.lst gK,(show _=some true from rfl),_,rfl,_,_,_,rfl,.lst dN,(show _=some true from rfl),rfl,_,rfl,aP ?_⟩
  refine⟨_,rfl,_,_,_,rfl,.lst gK,(show _=some false from rfl),_,rfl,_,_,_,rfl,.lst dN,(show _=some false from rfl),rfl,_,rfl,aP ?_⟩
  have hlen:xs.length=ys.length:=Zcf pr
  refine⟨_,rfl,a,xs,rfl,.inl (ag.of gK),_,rfl,b,ys,rfl,.inl (ag.of dN),rfl,_,rfl,?_⟩
  have el:decide (V.int (xs.length:Int)=V.int (ys.length:Int))=true:=ZaT (by rw[hlen])
  rw[el]
  refine aX ⟨_,rfl,_,rfl,a,b,rfl,⟨xs,ys,ag.of gK,ag.of dN⟩,?_⟩
  refine ZcC (xs:=xs) (zs:=ys) hlen (fun i zs σ H2=> ∃v0 v1,σ=[v0,v1]/\ae H1 H2/\zs=List.replicate i (V.bl true)) ⟨_,_,rfl,ae.refl _,rfl⟩ (fun i zs σ H2 _ ⟨_,_,_,s2,_⟩=> ⟨ag.of (s2 _ _ gK),ag.of (s2 _ _ dN)⟩) ?_ ?_
  ·rintro i x y T zs σ H2 hx hy hT ⟨v0,v1,rfl,s2,rfl⟩
   obtain⟨y',i9,r⟩:=Jm pr hx
   rw[hy]at i9
   cases i9
   have sT:=Zq (o:=.par [x,y]) hT
   have hi:i<xs.length:=(Zab.mp hx).1
   refine⟨T,_,rfl,ah.pU Ze,rfl,_,_,rfl,_,_,rfl,rfl,?_⟩
   refine⟨x,rfl,y,rfl,x,y,rfl,hR r (s1.trans (s2.trans sT)),fun H3 s3=> ⟨by rw[Zc9,ZaP];omega,_,_,rfl,s2.trans (sT.trans s3),?_⟩⟩
   rw[ZgT]
  ·rintro zs σ H2 ⟨v0,v1,rfl,s2,rfl⟩ p hp
   refine⟨p,List.replicate xs.length true,rfl,?_,?_⟩
   ·rw[Zhh]
    exact ag.of Ze
   ·have e:(List.replicate xs.length true).all id=true:=by simp
    rw[e]
    exact q _ (s1.trans (s2.trans (Zq hp)))
end
def Zcr (h:∀v∈xs,v=.af∨∃i:Int,v=.int i):Paired (R1 H) xs xs:=by
 induction xs with
 |nil=>exact .nil
 |cons x r ih=>
  refine .cons ?_ (ih fun y hy=>h y (Zap _ hy))
  rcases h x Zau with rfl |⟨i,rfl⟩
  ·exact .inr ⟨rfl,rfl⟩
  ·exact .inl ⟨i,rfl,rfl⟩
def uY {H H1:Hp}{L:Addr}{o:HO}(s:ae H H1) (n:H L=none):ae H (upd H1 L o):=fun b u h=>by
 rw[Zg (Zi h n)]
 exact s b u h
def ZcQ (ns:List Int):Paired (R0 H) (ns.map V.int) (ns.map V.int):=by
 induction ns with
 |nil=>exact .nil
 |cons x r ih=>exact .cons ⟨x,rfl,rfl⟩ ih
section
variable {P:Program}{w:World}{K:Zht}{mg:Str->Option Value}{base:Heap}
abbrev yZ:Stmt:=top 58
def ym (K:Zht):Sp:=fun vs H Q _=> ∃(x:V) (l m:Addr) (xs ys:List V) (wd hg:Int),vs=[x,.ref l,.ref m]/\bL K H x l xs wd hg/\bL K H x m ys wd hg/\S.bX ys=true/\wd<=11/\hg<=11/\∀H',ae H H'->Q (.bl true) H'
def rA:bh ["_law_board", "_law_drawn", "_law_lay_here", "_law_corner_here", "_law_due_here", "_law_turn", "_law_found"] ["_law_board", "_law_drawn", "_law_lay_here"] (ay yZ):=ZN (by decide+kernel)
def T9 (F:aG K "_law_right" "_law_right" yZ f fd) (G:Gs mg) (tZ:Def P w K mg base 8 "put_to" ["board", "lay", "corner"] (pE K)) (Kg:Def P w K mg base 2 "_law_due" ["_law_board", "_law_lay_here", "_law_corner_here"] (yJ K)) (ua:Def P w K mg base 2 "_law_unlike" ["_law_lay_here"] S.rm) (Ca:Def P w K mg base 13 "good_corners" ["board", "lay"] (rp K))
  (St:Def P w K mg base 2 "_law_same" ["_law_found", "_law_due_here"] (ir (BQ R1))) (Sl:Def P w K mg base 2 "_law_same" ["_law_found", "_law_due_here"] (ir (BR R0))):aA P w K mg base aE 14 f fd ["_law_board", "_law_drawn", "_law_lay_here"] (ym K):=by
 refine F.ok rA (fun vs H Q E h=> ?_) (fun ao A outer s H vs Q E hr h=> ?_)
 ·obtain⟨x,l,m,xs,ys,wd,hg,rfl,_⟩:=h
  rfl
 ·obtain⟨x,l,m,xs,ys,wd,hg,rfl,la,lb,un,jD,kT,q⟩:=h
  refine⟨_,Zc (Jt Zew rfl (Z0 rfl G.range (Za Zd Zb)) (ZE (i:=3) rA.nd rfl (Or.inl rfl)) (Zj (ZQ (ZZ (ZM (Zh St (hr.mono .d) (Za (Zh tZ (hr.mono .d) (Za (pv 0) (Za (pv 1) (Za (pv 3) Zb)))) (Za (Zh Kg (hr.mono .d) (Za (pv 0) (Za (pv 1) (Za (pv 3) Zb)))) Zb))))) Zr Zv)))
   (Zc (Jb ["_law_corner_here", "_law_board", "_law_lay_here"] 1 [0,2] (i:=4) rA.nd rfl (Or.inl rfl) (Z0 rfl G.range (Za Zd Zb)) (fun C s H fp=>pb 0) (fun C s H fp=>Yr (ZM (Zh ua (hr.mono .d) (Za (Zh Kg (hr.mono .d) (Za (pv 1) (Za (pv 2) (Za (pv 0) Zb)))) Zb)))) (fun C s H fp D=>ZI rfl (pv 0)))
   (Zc (Jt Zew rfl (Z0 rfl G.range (Za Zd Zb)) (ZE (i:=5) rA.nd rfl (Or.inl rfl))
    (Zc (Zy (i:=6) rA.nd rfl (Or.inl rfl) (Zh Ca hr (Za (pv 0) (Za (pv 2) Zb))))
    (Zc (ZQ (ZZ (ZM (Zh Sl (hr.mono .d) (Za (pv 6) (Za (pv 4) Zb))))) Zr Zv)
    (Zc (Zz (Yq Zbm Zby Zbz ZV (pv 6) (Za Zd Zb)))
    (Zj (Zz (TJ Zbm PySem.F.slot_list_reverse PySem.F.type_list_reverse Za9 (pv 6))))))))
   (Zj (Zw Wb)))),?_⟩
  obtain⟨a,rfl,ha⟩:=Zu la.bd.1
  obtain⟨_,w1,qQ,g1,Rl⟩:=id la.bd
  have ll:=Yj la.ly
  have ly:=Yj lb.ly
  have put:∀{zs:List V}{c:Nat},bI wd hg (some zs)=true->c<4->bI (wd+1) (hg+1) (some (putL zs (cE (wd+1) (c:Int)).toNat (de (hg+1) (c:Int))))=true:=fun {zs c} h hc=>by
   obtain⟨k0,k1⟩:=BI (wd:=wd+1) (c:=(c:Int)) .o
   obtain⟨r0,r1⟩:=BF (hg:=hg+1) (c:=(c:Int)) .o
   have:=Yj h
   exact Hl h r0 .o .o
  have its:∀{zs:List V}{wd hg:Int},bI wd hg (some zs)=true->∀v∈zs,v=.af∨∃i:Int,v=.int i:=fun h v hv=>by
   rcases Yk h hv with z |⟨i,z,_⟩
   ·exact .inl z
   ·exact .inr ⟨i,z⟩
  refine Zl ⟨4,rfl,.d,.d,?_⟩
  refine YV (fun j σ H'=> ∃v3,σ=[some (.ref a),some (.ref l),some (.ref m),v3,none,none,none]/\ae H H') ⟨_,rfl,ae.refl _⟩ ?_ ?_
  ·rintro j σ H1 hj ⟨v3,rfl,s1⟩
   rw[ZeQ]
   refine Zt ?_
   dsimp only[List.set]
   have DR:∀{H':Hp},ae H H'->bL K H' (.ref a) l xs wd hg:=fun s'=> ⟨la.bd.same s',s' _ _ la.at_,la.ly⟩
   refine⟨_,rfl,_,rfl,_,rfl,.ref a,l,xs,wd,hg,(j:Int),rfl,DR s1,jD,kT,.o,.o,fun t2 H2 s2 e2=> ?_⟩
   refine⟨_,rfl,_,rfl,_,rfl,.ref a,l,xs,wd,hg,(j:Int),rfl,DR (s1.trans s2),jD,kT,.o,.o,fun t3 H3 s3 e3=> ?_⟩
   have pl:=put (zs:=xs) la.ly hj
   have lp:=Yj pl
   exact⟨.ref t2,.ref t3,rfl,⟨t2,t3,_,_,rfl,rfl,s3 _ _ e2,e3,Zcr (its pl),.o⟩,fun H4 s4=> ⟨_,rfl,aP (Yb ⟨_,rfl,s1.trans (s2.trans (s3.trans s4))⟩)⟩⟩
  rintro σ H1 ⟨v3,rfl,s1⟩
  try dsimp only
  have DQ:∀{H':Hp},ae H H'->bL K H' (.ref a) m ys wd hg:=fun s'=> ⟨lb.bd.same s',s' _ _ lb.at_,lb.ly⟩
  refine Zl ⟨4,rfl,.d,.d,?_⟩
  refine YC (n:=4) (fun j zs σ H'=> ∃v0,σ=[v0,some (.ref a),some (.ref m)]/\ae H1 H'/\zs=(jQ wd hg ys j).map V.int) ⟨_,rfl,ae.refl _,rfl⟩ ?_ ?_
  ·rintro j zs σ H2 hj ⟨v0,rfl,s2,rfl⟩
   rw[ZeQ]
   refine Zt ?_
   dsimp only[List.set]
   refine⟨_,rfl,_,rfl,_,rfl,.ref a,m,ys,wd,hg,(j:Int),rfl,DQ (s1.trans s2),jD,kT,.o,.o,fun t3 H3 s3 e3=> ?_⟩
   have pl:=put (zs:=ys) lb.ly hj
   have lp:=Yj pl
   refine⟨t3,_,rfl,e3,its pl,.o,fun H4 s4=> ⟨_,rfl,?_⟩⟩
   have gl:=WO wd hg ys j
   have sA:=s2.trans (s3.trans s4)
   by_cases hu:S.bX (putL ys (cE (wd+1) (j:Int)).toNat (de (hg+1) (j:Int)))=true
   ·rw[hu]
    refine aX ⟨_,rfl,by rw[Zat,ZaP];omega,_,rfl,sA,?_⟩
    rw[Jg,Zaq hu,ZbC]
    rfl
   ·rw[Zfs.mpr hu]
    refine aP ⟨_,rfl,sA,?_⟩
    rw[Jg,Zam hu,ZbP]
  rintro zs σ H2 ⟨v0,rfl,s2,rfl⟩ D hD
  obtain⟨H3,zz,sD,eD⟩:=aH (o:=.lst ((jQ wd hg ys 4).map V.int)) hD
  rw[zz]
  dsimp only[List.set]
  have s3:=s1.trans (s2.trans sD)
  have gl:=WO wd hg ys 4
  refine Zl ⟨2,rfl,.d,.d,?_⟩
  refine YV (fun j σ H'=> ∃v5 v6,σ=[some (.ref a),some (.ref l),some (.ref m),v3,some (.ref D),v5,v6]/\ae H3 H') ⟨_,_,rfl,ae.refl _⟩ ?_ ?_
  ·rintro j σ H4 hj ⟨v5,v6,rfl,s4⟩
   refine Zt ?_
   dsimp only[List.set]
   refine Zl (ZB ⟨_,rfl,_,rfl,.ref a,m,ys,wd,hg,rfl,DQ (s3.trans s4),un,jD,kT,fun L H5 s5 nL eL=>Zt ?_⟩)
   dsimp only[List.set]
   refine Zl ⟨_,rfl,_,rfl,.ref L,.ref D,rfl,⟨L,D,_,_,rfl,rfl,eL,(s4.trans s5) _ _ eD,ZcQ _,by rw[Zat];omega⟩,fun H6 s6=> ⟨_,rfl,aP (Yb ?_)⟩⟩
   try dsimp only
   have F1:=s6 _ _ eL
   refine Zl ⟨_,rfl,.inl ⟨rfl,_,ag.of F1⟩,L,_,.int 0,rfl,rfl,F1,by rw[Zat,ZaP];omega,?_⟩
   try dsimp only
   refine⟨_,rfl,.inl ⟨rfl,_,ag.of Ze⟩,L,_,rfl,rfl,Ze,?_⟩
   exact⟨_,_,rfl,s4.trans (uY (uY (s5.trans s6) nL) nL)⟩
  ·rintro σ H4 ⟨v5,v6,rfl,s4⟩
   exact q _ (s3.trans s4)
end
end U
namespace L2
open PySem PySem.Spec PyProof.Rows
section
variable {X:Cx}{k:Nat}{x:Str}{ps:List Str}{sp:Sp}{e:Expr}{es:List Expr}{t:TA}{p pos:Pos}{E:XK}
def Xw (hp:Passes (aC X.prog X.w) X E) (d:aY X.prog X.w X.K X.mg X.base k x ps sp) (hr:bW k X.A) (ha:PA X (e::es) t) (hg:Gl X x:=by rfl) (g9:(x==("__debug__" :Str))=false:=by decide)
  (he:starEach (e::es) X.env=(false,eval e X.env)::starEach es X.env:=by rfl) (eX:(backTo pos (starEach es X.env)).any (·.1)=false:=by rfl):
  PE X (.Call (.Name x p) (e::es) [] pos) (uB sp [] E t):=by
 obtain⟨f,fd,F,hm,hk,hb⟩:=d
 exact Yt F hr hg hm hk hb .nil hp ha g9 he eX
end
def MQ {X:Cx}{N':List Str}{scope:Scope}{C:Addr}{s:Shared}{H:Hp}{fp:List Addr}{XE:Value->Shared->Prop}(i:Nat) {x:Str}{pos:Pos}(hN:N'.Nodup:=by decide+kernel) (hi:N'[i]? =some x:=by rfl) (hx:(relabel scope X.env).names.lookup x=some .local:=by rfl):
  PG (kZ X N' scope C s H fp XE) (.Name x pos) (cg i):=ZE (X:=kZ X N' scope C s H fp XE) hN hi (.inl hx) (.inr hx)
end L2
namespace U
open PySem L2 PyProof.Rows
section
variable {P:Program}{w:World}{K:Zht}{mg:Str->Option Value}{base:Heap}{aB aL aN aM aU:Addr}
def uR (K:Zht) (aM:Addr):Sp:=fun vs H _ E=> ∃(x:V) (l:Addr) (xs:List V) (wd hg:Int),vs=[x,.ref l]/\bL K H x l xs wd hg/\S.bX xs=true/\(11<wd∨11<hg)/\∀e H',ae H H'->E (.ref e) (some aM) H'
def Vt (F:aG K "good_corners" "good_corners" rK f fd) (G:Gs mg) (B7:Def P w K mg base 12 "need_unlike" ["board", "lay"] S.uN) (B6:Def P w K mg base 11 "is_unlike" ["board", "lay"] S.pC) (ub:Def P w K mg base 1 "grown" ["board"] rn) (Rpt:aY P w K mg base 8 "put_to" ["board", "lay", "corner"] (pD K aB aL aN aM)):aA P w K mg base (aC P w) 13 f fd ["board", "lay"] (uR K aM):=by
 obtain⟨tk,hL⟩:=G.last
 refine F.fO yR (fun vs H Q E h=> ?_) (fun ao A outer s H vs Q E hr h=> ?_)
 ·obtain⟨x,l,xs,wd,hg,rfl,_⟩:=h
  rfl
 ·obtain⟨x,l,xs,wd,hg,rfl,la,un,gr,q⟩:=h
  refine⟨_,Zc (Zz (Zh B7 hr (Za (pv 0) (Za (pv 1) Zb))))
   (Zj (Zw (Xy ["corner", "board", "lay"] 1 [0,1] (Z0 rfl G.range (Za (Zo ZT (Yi (v:=.int 3) rfl hL ⟨_,rfl⟩) Zd) Zb)) (fun C s2 H2 fp XE=>MQ 0)
    (fun C s2 H2 fp XE hp=>Yr (ZM (Zh B6 (hr.mono .d) (Za (Zh ub (hr.mono .d) (Za (pv 1) Zb)) (Za (Xw hp Rpt (hr.mono .d) (Za (pv 1) (Za (pv 2) (Za (pv 0) Zb)))) Zb)))))))),?_⟩
  refine Zl ⟨_,rfl,_,rfl,x,.ref l,wd,hg,xs,rfl,⟨la.bd,Zn la.at_,S.qf la.ly⟩,un,fun H1 s1=> ?_⟩
  dsimp only
  refine⟨_,_,rfl,rfl,4,rfl,.d,.d,(by show(0:Nat)< (4:Int).toNat;decide),?_⟩
  rintro y H2 ⟨rfl,rfl⟩
  refine Zt ?_
  try dsimp only[List.set]
  refine⟨_,rfl,x,wd,hg,rfl,la.bd.same s1,fun t2 H3 s2 e2=> ?_⟩
  exact⟨_,rfl,_,rfl,_,rfl,x,.ref l,.int 0,aM,rfl,.inr ⟨rfl,l,xs,wd,hg,0,rfl,rfl,.d,.d,⟨(la.bd.same s1).same s2,s2 _ _ (s1 _ _ la.at_),la.ly⟩,gr⟩,fun e H' s'=>q e H' (s1.trans (s2.trans s'))⟩
end
end U
namespace L2
open PySem PySem.Spec PyProof.Rows SeqAt
section
variable {X:Cx}
def Xe (hu:X.A.units<cLine):bu X (compareOp .Eq) (fun x y H Q=> ∃(a b:Addr) (xs:List Str),x=.ref a/\y=.ref b/\ag X.K H a (xs.map V.str)/\ag X.K H b (xs.map V.str)/\Q (.bl true) H):=by
 intro pins s σ H x y u v Q I rx ry h
 obtain⟨a,b,xs,rfl,rfl,ha,hb,q⟩:=h
 cases rx
 cases ry
 obtain⟨us,r1,p1,_⟩:=I.list ha
 obtain⟨vs,r2,p2,_⟩:=I.list hb
 have l1:=r1.length
 have l2:=r2.length
 rw[Zat]at l1 l2
 refine eq_listAt (e:=fun _=>true) p1.isList p2.isList (by simp;omega) hu (fun j h1 h2=> ?_) ?_
 ·have hj:j<xs.length:=by simp at h1;omega
  have e:(xs.map V.str)[j]? =some (V.str xs[j]):=by simp[hj]
  obtain⟨u,jb,ru⟩:=r1.get e
  obtain⟨v,kJ,rv⟩:=r2.get e
  have e1:us.toArray[j]=u:=by simpa using (Zab.mp jb).2
  have e2:vs.toArray[j]=v:=by simpa using (Zab.mp kJ).2
  rw[e1,e2]
  obtain⟨t1,rfl⟩:=ru
  obtain⟨t2,rfl⟩:=rv
  have y:=EqAt.str_str (A:=X.A.in1) (s:=s) xs[j] t1 xs[j] t2
  simpa using y
 ·have e:(List.range us.toArray.size).all (fun _=>true)=true:=by simp
  rw[e]
  exact⟨.bl _,H,I,rfl,q⟩
def Xf (hu:X.A.units+1<cLine):bu X (compareOp .NotEq) (fun x y H Q=> ∃(a b:Addr) (xs:List Str),x=.ref a/\y=.ref b/\ag X.K H a (xs.map V.str)/\ag X.K H b (xs.map V.str)/\Q (.bl false) H):=by
 intro pins s σ H x y u v Q I rx ry h
 obtain⟨a,b,xs,rfl,rfl,ha,hb,q⟩:=h
 cases rx
 cases ry
 obtain⟨us,r1,p1,_⟩:=I.list ha
 obtain⟨vs,r2,p2,_⟩:=I.list hb
 have l1:=r1.length
 have l2:=r2.length
 rw[Zat]at l1 l2
 refine RcNeAt.lists (e:=fun _=>true) p1.isList p2.isList (by simp;omega) (Zeu hu) (fun j h1 h2=> ?_) _ _ _ _ ?_
 ·have hj:j<xs.length:=by simp at h1;omega
  have e:(xs.map V.str)[j]? =some (V.str xs[j]):=by simp[hj]
  obtain⟨u,jb,ru⟩:=r1.get e
  obtain⟨v,kJ,rv⟩:=r2.get e
  have e1:us.toArray[j]=u:=by simpa using (Zab.mp jb).2
  have e2:vs.toArray[j]=v:=by simpa using (Zab.mp kJ).2
  rw[e1,e2]
  obtain⟨t1,rfl⟩:=ru
  obtain⟨t2,rfl⟩:=rv
  have y:=EqAt.str_str (A:=X.A.in1) (s:=s) xs[j] t1 xs[j] t2
  simpa using y
 ·have e:(List.range us.toArray.size).all (fun _=>true)=true:=by simp
  rw[e]
  exact⟨.bl false,H,I,rfl,q⟩
end
end L2
namespace U
open PySem L2 PyProof.Rows
def zN {scope:Scope}(h:(decide (scope.kind=.function)&& !scope.isCoroutine&& !scope.isGenerator&&scope.names.all (fun z=>z.2 !=.cell)&&scope.names.all (fun u=>u.2 !=.free||u.1==x)&&(scope.names.lookup x==some .free))=true):mO bJ bd scope [x]:=by
 simp only[ZaR,Zbv,Zb4,Zaj,Zbj,ZgR,ne_eq,Zfj]at h
 obtain⟨⟨⟨⟨⟨h1,h2⟩,h3⟩,h4⟩,h5⟩,h6⟩:=h
 refine⟨h1,h2,h3,h4,fun u hu e=> ?_,fun u hu=> ?_,fun _ _ _ _ _=>rfl⟩
 ·rcases h5 u hu with z |z
  ·exact absurd e z
  ·simp[z]
 ·simp only[Zao,Zbk,Zca]at hu
  rw[hu]
  exact h6
def N6 {scope:Scope}(h:(decide (scope.kind=.function)&& !scope.isCoroutine&& !scope.isGenerator&&scope.names.all (fun z=>z.2 !=.cell)&&scope.names.all (fun u=>u.2 !=.free||(u.1==x||u.1==y))&&(scope.names.lookup x==some .free)&&(scope.names.lookup y==some .free))=true):mO bJ bd scope [x,y]:=by
 simp only[ZaR,Zbv,Zb4,Zaj,Zbj,ZgR,ne_eq,Zfj]at h
 obtain⟨⟨⟨⟨⟨⟨h1,h2⟩,h3⟩,h4⟩,h5⟩,h6⟩,h7⟩:=h
 refine⟨h1,h2,h3,h4,fun u hu e=> ?_,fun u hu=> ?_,fun _ _ _ _ _=>rfl⟩
 ·rcases h5 u hu with z |z
  ·exact absurd e z
  ·rcases z with z |z<;>simp[z]
 ·simp only[Zao,Zbk,Zca]at hu
  rcases hu with hu |hu
  ·rw[hu];exact h6
  ·rw[hu];exact h7
def zP {X:Cx}{x:Str}{i:Nat}(a:LN X x i):∀(k:Nat) u m,([x]:List Str)[k]? =some u->([i]:List Nat)[k]? =some m->LN X u m
 |0,_,_,e1,e2=>by cases e1;cases e2;exact a
 |k+1,_,_,e1,_=>by simp at e1
def Bv {σ:L2.St}{x:V}{i:Nat}(a:σ[i]? =some (some x)):∀(k m:Nat) (v:V),([i]:List Nat)[k]? =some m->([x]:List V)[k]? =some v->σ[m]? =some (some v)
 |0,_,_,e1,e2=>by cases e1;cases e2;exact a
 |k+1,_,_,e1,_=>by simp at e1
def Ip (n:Nat) (v:V):(List.replicate n [v]).flatten=List.replicate n v:=by
 induction n with
 |zero=>rfl
 |succ n ih=>rw[Zdi,ZeS,ih,Zdi];rfl
def Xq {n:Nat}{wd hg:Int}(h:(n:Int)≠wd):bI wd hg (some (List.replicate n V.af))=false:=by
 show(decide (((List.replicate n V.af).length:Int)=wd)&&_&&_)=false
 rw[Zc9,ZaK h]
 rfl
def Gm (fn x y:Str) (p1 p2 p3 p4 p5:Pos):Expr:=.Call (.Name fn p1) [.Name x p2,.Name y p3,.Constant (.int 0) 0 p4] [] p5
def Gp (fn x:Str) (p1 p2 p3 p4 p5:Pos):Expr:=.Call (.Name fn p1) [.Name x p2,.Constant .none 0 p3,.Constant (.int 0) 0 p4] [] p5
def Gn (fn x:Str) (p1 p2 p3 p4 p5 p6 p7 p8 p9 zy zx:Pos):Expr:=.Call (.Name fn p1) [.Name x p2,.BinOp (.Tuple [.Constant .none 0 p3] 0 p4) .Mult (.BinOp (.Subscript (.Name x p5) (.Constant (.int 0) 0 p6) p7) .Add (.Constant (.int 1) 0 p8) p9) zy] [] zx
def Gq (fn x:Str) (p1 p2 p3 p4 p5 p6 p7 p8:Pos):Expr:=.Call (.Name fn p1) [.Tuple [.Call (.Name "len" p2) [.Name x p3] [] p4,.Constant (.int 12) 0 p5] 0 p6,.Name x p7] [] p8
section
variable {X:Cx}{kf:Nat}
def Tc {scope:Scope}(aQ:k'<=kf) (hU:∀b',aY X.prog X.w X.K X.mg b' k' fn ps sp) (gl:scope.names.lookup fn=some .globalImplicit)
  (kx:scope.names.lookup x=some .free) (ky:scope.names.lookup y=some .free) (dx:(x==("__debug__" :Str))=false) (dy:(y==("__debug__" :Str))=false) (ex:(x==("__classdict__" :Str))=false) (ey:(y==("__classdict__" :Str))=false) (ji:(fn==("__debug__" :Str))=false):
  j9 X kf C f q (Gm fn x y p1 p2 p3 p4 p5) scope cl [x,y] [vx,vy] (oS sp [vx,vy,.int 0] C):=by
 intro bq cc A outer s2 H2 Q2 E2 hr pre hE
 obtain⟨g,fd,F,hg,hk,hb⟩:=hU bq
 refine⟨_,Yt (X:=gz X.prog X.w X.K X.mg bq [x,y] q scope f (.ref cc) cl A outer s2 H2 E2) F (hr.mono aQ) gl hg hk hb .nil (E:=E2) (pS (X:=gz X.prog X.w X.K X.mg bq [x,y] q scope f (.ref cc) cl A outer s2 H2 E2) (fun e s' z=>z) rfl rfl rfl)
  (Za (Yh (i:=0) rfl (.inr (.inr kx)) dx ex) (Za (Yh (i:=1) rfl (.inr (.inr ky)) dy ey) (Za Zd Zb))) ji,?_⟩
 exact⟨vx,rfl,vy,rfl,pre Q2 E2 hE⟩
def Ta {scope:Scope}(aQ:k'<=kf) (hU:∀b',aY X.prog X.w X.K X.mg b' k' fn ps sp) (gl:scope.names.lookup fn=some .globalImplicit)
  (kx:scope.names.lookup x=some .free) (dx:(x==("__debug__" :Str))=false) (ex:(x==("__classdict__" :Str))=false) (ji:(fn==("__debug__" :Str))=false):
  j9 X kf C f q (Gp fn x p1 p2 p3 p4 p5) scope cl [x] [vx] (oS sp [vx,.af,.int 0] C):=by
 intro bq cc A outer s2 H2 Q2 E2 hr pre hE
 obtain⟨g,fd,F,hg,hk,hb⟩:=hU bq
 refine⟨_,Yt (X:=gz X.prog X.w X.K X.mg bq [x] q scope f (.ref cc) cl A outer s2 H2 E2) F (hr.mono aQ) gl hg hk hb .nil (E:=E2) (pS (X:=gz X.prog X.w X.K X.mg bq [x] q scope f (.ref cc) cl A outer s2 H2 E2) (fun e s' z=>z) rfl rfl rfl)
  (Za (Yh (i:=0) rfl (.inr (.inr kx)) dx ex) (Za Yn (Za Zd Zb))) ji,?_⟩
 exact⟨vx,rfl,pre Q2 E2 hE⟩
def S8 {k':Nat}{fn x:Str}{ps:List Str}{sp:Sp}{scope:Scope}{C f:Addr}{q:Str}{cl:List (Str×Addr)}{vx:V}{p1 p2 p3 p4 p5 p6 p7 p8 p9 zy zx:Pos}(aQ:k'<=kf) (hU:∀b',aY X.prog X.w X.K X.mg b' k' fn ps sp) (gl:scope.names.lookup fn=some .globalImplicit)
  (kx:scope.names.lookup x=some .free) (dx:(x==("__debug__" :Str))=false) (ex:(x==("__classdict__" :Str))=false) (ji:(fn==("__debug__" :Str))=false):
  j9 X kf C f q (Gn fn x p1 p2 p3 p4 p5 p6 p7 p8 p9 zy zx) scope cl [x] [vx] (fun H=> ∃(b:Addr) (wd hg:Int),vx=.ref b/\ck H vx wd hg/\∀t H',ae H H'->H' t=some (.tup (List.replicate (wd+1).toNat V.af))->oS sp [vx,.ref t] C H'):=by
 intro bq cc A outer s2 H2 Q2 E2 hr pre hE
 obtain⟨g,fd,F,hg,hk,hb⟩:=hU bq
 refine⟨_,Yt (X:=gz X.prog X.w X.K X.mg bq [x] q scope f (.ref cc) cl A outer s2 H2 E2) F (hr.mono aQ) gl hg hk hb .nil (E:=E2) (pS (X:=gz X.prog X.w X.K X.mg bq [x] q scope f (.ref cc) cl A outer s2 H2 E2) (fun e s' z=>z) rfl rfl rfl)
  (Za (Yh (i:=0) rfl (.inr (.inr kx)) dx ex) (Za (Zo UZ (Zs (Za Yn Zb)) (Zo ZT (ZF ZP (Yh (i:=0) rfl (.inr (.inr kx)) dx ex) Zd (fun _ _=>rfl)) Zd)) Zb)) ji,?_⟩
 obtain⟨b,wd,hg,rfl,bd,ref⟩:=pre
 obtain⟨b',e',cT⟩:=Zu bd.1
 cases e'
 obtain⟨_,w1,qQ,_,_⟩:=id bd
 refine⟨_,rfl,bZ,fun t1 kK=> ?_⟩
 obtain⟨H3,zz,s1,e1⟩:=aH (o:=.tup [V.af]) kK
 rw[zz]
 refine⟨_,rfl,b,_,_,_,rfl,rfl,ah.of (s1 _ _ cT),gM,_,_,rfl,rfl,t1,wd+1,[.af],rfl,rfl,e1,by simp,.o,.o,(by simp;omega),fun t2 H4 s2 e2=> ?_⟩
 rw[Ip]at e2
 exact ref t2 _ (s1.trans s2) e2 Q2 E2 fun e H' s'=>hE e H' (s1.trans (s2.trans s'))
def Tb {mL:X.mg "len" =none}{scope:Scope} (gn:scope.names.lookup ("len" :Str)=some .globalImplicit) (aQ:k'<=kf) (hU:∀b',aY X.prog X.w X.K X.mg b' k' fn ps sp) (gl:scope.names.lookup fn=some .globalImplicit)
  (kx:scope.names.lookup x=some .free) (dx:(x==("__debug__" :Str))=false) (ex:(x==("__classdict__" :Str))=false) (ji:(fn==("__debug__" :Str))=false):
  j9 X kf C f q (Gq fn x p1 p2 p3 p4 p5 p6 p7 p8) scope cl [x] [vx] (fun H=> ∃(b:Addr) (xs:List V),vx=.ref b/\H b=some (.tup xs)/\∀t H',ae H H'->H' t=some (.tup [.int (xs.length:Int),.int 12])->oS sp [.ref t,vx] C H'):=by
 intro bq cc A outer s2 H2 Q2 E2 hr pre hE
 obtain⟨g,fd,F,hg,hk,hb⟩:=hU bq
 refine⟨_,Yt (X:=gz X.prog X.w X.K X.mg bq [x] q scope f (.ref cc) cl A outer s2 H2 E2) F (hr.mono aQ) gl hg hk hb .nil (E:=E2) (pS (X:=gz X.prog X.w X.K X.mg bq [x] q scope f (.ref cc) cl A outer s2 H2 E2) (fun e s' z=>z) rfl rfl rfl)
  (Za (Zs (Za (Zp ZG gn mL ZeU (Za (Yh (i:=0) rfl (.inr (.inr kx)) dx ex) Zb)) (Za Zd Zb))) (Za (Yh (i:=0) rfl (.inr (.inr kx)) dx ex) Zb)) ji,?_⟩
 obtain⟨b,xs,rfl,cT,ref⟩:=pre
 refine⟨_,rfl,b,xs,rfl,.inr (ah.of cT),aZ,fun t1 kK=> ?_⟩
 have s1:=Zq (o:=.tup [V.int (xs.length:Int),V.int 12]) kK
 exact⟨_,rfl,ref t1 _ s1 Ze Q2 E2 fun e H' s'=>hE e H' (s1.trans s')⟩
end
structure tX (K:Zht) (g l:Addr) (xs:List V) (gw gh:Int) (vo:V) (H:Hp):Prop where
 la:bL K H (.ref g) l xs gw gh
 un:S.bX xs=true
 gr:11<gw∨11<gh
 po:bR K H vo
 wo:bz vo 0 3=false
def tX.xt {K:Zht}{g l Pt:Addr}{xs:List V}{gw gh:Int}{vo:V}{H H':Hp}{ps:Array Value}(f:tX K g l xs gw gh vo H) (s:au Pt H H') (hp:H Pt=some (.bY ps)):tX K g l xs gw gh vo H':=
 ⟨f.la.xt s hp,f.un,f.gr,YR f.po s (YY f.po hp),f.wo⟩
section
variable {P:Program}{w:World}{K:Zht}{mg:Str->Option Value}{base:Heap}
abbrev eP:Stmt:=top 59
abbrev kE:List Str:=["_law_state_here", "_law_great", "_law_odd", "_law_calls", "_law_lay_here"]
def yQ:bh kE ["_law_state_here", "_law_great", "_law_odd"] (ay eP):=ZN (by decide+kernel)
abbrev pP:Str:= "_law_great_right.<locals>.<lambda>"
abbrev iN (ns:List (Str×NameKind)):Scope:= {kind:=.function,names:=ns,isGenerator:=false,isCoroutine:=false}
abbrev g1:Scope:=iN [("_law_great",.free),("_law_lay_here",.free),("put_to",.globalImplicit)]
abbrev g2:Scope:=iN [("_law_great",.free),("_law_lay_here",.free),("good_corners",.globalImplicit)]
abbrev g3:Scope:=iN [("_law_great",.free),("_law_lay_here",.free),("_law_odd",.free),("put_to",.globalImplicit)]
abbrev g4:Scope:=iN [("_law_great",.free),("put_to",.globalImplicit)]
abbrev g5:Scope:=iN [("_law_great",.free),("good_corners",.globalImplicit)]
def qN:List Str:=["many", "many", "number", "lay", "lay"]
def yH (K:Zht) (Pg:Addr):Sp:=fun vs H Q _=> ∃(p g:Addr) (gw gh:Int) (vo:V),vs=[.ref p,.ref g,vo]/\cj H p/\ck H (.ref g) gw gh/\(11<gw∨11<gh)/\bR K H vo/\bz vo 0 3=false/\vo≠.ref p/\TabAt H Pg pP/\∀H',jW [p,Pg] H H'->cj H' p->TabAt H' Pg pP->Q (.bl true) H'
def VD {f c Pg fR cS aB aL aN aM aU:Addr}{oc:Value}{od an:Option Addr}{kV doc pm ct:Value}{fm:Array (Option Value)}
  (lk:K.lookup f=some ⟨oc,od,.func (PySem.W.fnOf "_law_great_right" "_law_great_right" (fS eP) (dB eP) (ay eP) .none kV doc pm an (.ref c) ct),fm⟩) (dh:PySem.W.codeIn K (.ref c) "_law_great_right" =true)
  (jB:Def P w K mg base 1 "_law_take" ["_law_state_here", "_law_many"] ki) (B8:Def P w K mg base 3 "_law_grown" ["_law_state_here", "_law_board", "_law_bare"] S.uQ)
  (hR:∀b',Def P w K mg b' 15 "_law_word" ["_law_call"] (ng P w K mg b' cS 14)) (hP:∀b',aY P w K mg b' 8 "put_to" ["board", "lay", "corner"] (pD K aB aL aN aM)) (hX:∀b',aY P w K mg b' 13 "good_corners" ["board", "lay"] (S.jF K aB aL aU)) (hM:∀b',aY P w K mg b' 13 "good_corners" ["board", "lay"] (uR K aM)) (mR:mg "_law_word" =some (.ref fR)) (kR:PySem.W.keepIn K (.ref fR)=true)
  (ML:il K mg cS aL 1) (MN:il K mg cS aN 2) (MM:il K mg cS aM 11) (hC:PySem.W.CodeHd base c Pg)
  (qv:∃bm ob,mg "__builtins__" =some (.ref bm)/\bm≠builtinsNs/\base.get? bm=some ob/\ob.cls=.type "module" /\ob.dict=some builtinsNs/\ob.data=.plain):
  aA P w K mg base aE 16 f (PySem.W.fnOf "_law_great_right" "_law_great_right" (fS eP) (dB eP) (ay eP) .none kV doc pm an (.ref c) ct) ["_law_state_here", "_law_great", "_law_odd"] (yH K Pg):=by
 refine xp lk dh yQ (fun vs H Q E h=> ?_) (fun A outer s H vs Q E hr h=> ?_)
 ·obtain⟨p,g,gw,gh,vo,rfl,_⟩:=h
  rfl
 ·obtain⟨p,g,gw,gh,vo,rfl,st,bd,gr,po,wo,kB,tab,q⟩:=h
  have lam:xF (aF aE P w K mg base kE "_law_great_right" (ay eP) f (.ref c) A outer s H E).dg c Pg:=⟨rfl,hC,qv⟩
  have n1:LN (aF aE P w K mg base kE "_law_great_right" (ay eP) f (.ref c) A outer s H E).dg "_law_great" 1:=⟨rfl,rfl,rfl⟩
  have n2:LN (aF aE P w K mg base kE "_law_great_right" (ay eP) f (.ref c) A outer s H E).dg "_law_odd" 2:=⟨rfl,rfl,rfl⟩
  have n4:LN (aF aE P w K mg base kE "_law_great_right" (ay eP) f (.ref c) A outer s H E).dg "_law_lay_here" 4:=⟨rfl,rfl,rfl⟩
  have room:bW 15 (aF aE P w K mg base kE "_law_great_right" (ay eP) f (.ref c) A outer s H E).dg.A:=hr
  have hu:=Zeu (xq hr)
  have main:∃tt,fJ (aF aE P w K mg base kE "_law_great_right" (ay eP) f (.ref c) A outer s H E).dg (dB eP) tt/\tt {nx:=fun _ H'=>Q .af H',rt:=Q} (start kE [.ref p,.ref g,vo]) H:=by
   refine⟨_,Zc (Zy (i:=4) yQ.nd rfl (Or.inr rfl) (Zh B8 (hr.mono .d) (Za (pv 0) (Za (pv 1) (Za (Zo ZT Zd (Zh jB (hr.mono .d) (Za (pv 0) (Za Zd Zb)))) Zb)))))
    (Zc (Zy (i:=3) yQ.nd rfl (Or.inl rfl) (ZH (Za (Yp (params:=bJ) (body:=Gm "put_to" "_law_great" "_law_lay_here" _ _ _ _ _) (scope:=g1) lam rfl (Z7 (by kernel_rfl))) Zb)))
    (Zc (Zz (Yq Zbm Zby Zbz ZV (pv 3) (Za (Yp (params:=bJ) (body:=qD "good_corners" "_law_great" "_law_lay_here" _ _ _ _) (scope:=g2) lam rfl (Z7 (by kernel_rfl))) Zb)))
    (Zc (Zz (Yq Zbm Zby Zbz ZV (pv 3) (Za (Yp (params:=bJ) (body:=cB "put_to" "_law_great" "_law_lay_here" "_law_odd" _ _ _ _ _) (scope:=g3) lam rfl (Z7 (by kernel_rfl))) Zb)))
    (Zc (Zz (Yq Zbm Zby Zbz ZV (pv 3) (Za (Yp (params:=bJ) (body:=Gp "put_to" "_law_great" _ _ _ _ _) (scope:=g4) lam rfl (Z7 (by kernel_rfl))) Zb)))
    (Zc (Zz (Yq Zbm Zby Zbz ZV (pv 3) (Za (Yp (params:=bJ) (body:=Gn "good_corners" "_law_great" _ _ _ _ _ _ _ _ _ _ _) (scope:=g5) lam rfl (Z7 (by kernel_rfl))) Zb)))
    (Zj (Zw (Z5 (Xe hu) (Ik ["_law_call"] 1 [] (Ys (pv 3)) (fun C s H fp=>pb 0) (fun C s H fp=>Z8) (fun pins σ B s H fp D I0 hf=>ZI rfl (Io (kf:=13) hR room mR kR I0 hf rfl (pv 0))))
     (ZH (Za ZS (Za ZS (Za ZS (Za ZS (Za ZS Zb)))))) (bO _))))))))),?_⟩
   obtain⟨g',eg,sV⟩:=Zu bd.1
   cases eg
   obtain⟨_,w1,qQ,h1,wN⟩:=id bd
   refine Zl (ZB ⟨_,rfl,_,rfl,_,rfl,p,5,rfl,st,.d,.d,fun r o r0 r5 av=> ⟨_,_,rfl,rfl,?_⟩⟩)
   obtain⟨H1,zz,x1⟩:=newX H p o
   rw[zz]at av |-
   have DC:g≠p:=by
    obtain⟨u,v,e,_⟩:=id st
    exact Ym sV e (by intro z;cases z)
   have Te:ck H1 (.ref g) gw gh:=⟨Zn (x1 _ _ sV DC),w1,qQ,h1,wN⟩
   refine⟨p,g,gw,gh,_,rfl,av,Te,fun l H2 xs x2 ak el nl hm=>Zt ?_⟩
   dsimp only[List.set]
   obtain⟨u0,v0,gq,_⟩:=id st
   have lE:au p H H2:=x1.trans x2
   have xX:TabAt H2 Pg pP:=xl tab lE gq (fun _ z=>by cases z) (fun _ z=>by cases z)
   obtain⟨ly,un,_⟩:=S.tG _ _ _ xs hm
   rw[Zb9 .o,Zb9 .o]at ly
   have F0:tX K g l xs gw gh vo H2:=⟨⟨⟨Zn (lE _ _ sV DC),w1,qQ,h1,wN⟩,el,ly.is⟩,un,gr,YR po lE kB,wo⟩
   obtain⟨tp,mF,_⟩:=id xX
   have Np:p≠Pg:=fun z=>by
    obtain⟨u,v,e,_⟩:=id ak
    rw[z,mF]at e;cases e
   refine Zl (ZB ⟨xX,fun y1 H1 s1 _ t1 l1=> ⟨bZ,fun L hL=>Zt ?_⟩⟩)
   have m1:=HF xX s1 t1 l1 hL
   generalize upd H1 L (.lst [V.ref y1])=H1' at m1
   dsimp only[List.set]
   obtain⟨dX,f9,k1⟩:=m1.lst
   refine Zl ⟨_,rfl,.inl ⟨rfl,_,ag.of f9⟩,m1.tb,fun y2 H2 s2 _ t2 l2=> ⟨L,dX,.ref y2,rfl,rfl,m1.bQ f9 s2,(by rw[k1,ZaP];decide),?_⟩⟩
   have m2:=m1.app f9 s2 t2 l2
   generalize upd H2 L (.lst (dX++[V.ref y2]))=H2' at m2
   dsimp only
   obtain⟨qU,jq,k2⟩:=m2.lst
   refine Zl ⟨_,rfl,.inl ⟨rfl,_,ag.of jq⟩,m2.tb,fun y3 H3 s3 _ t3 l3=> ⟨L,qU,.ref y3,rfl,rfl,m2.bQ jq s3,(by rw[k2,ZaP];decide),?_⟩⟩
   have m3:=m2.app jq s3 t3 l3
   generalize upd H3 L (.lst (qU++[V.ref y3]))=IZ at m3
   dsimp only
   obtain⟨qT,fQ,k3⟩:=m3.lst
   refine Zl ⟨_,rfl,.inl ⟨rfl,_,ag.of fQ⟩,m3.tb,fun y4 H4 s4 _ t4 l4=> ⟨L,qT,.ref y4,rfl,rfl,m3.bQ fQ s4,(by rw[k3,ZaP];decide),?_⟩⟩
   have m4:=m3.app fQ s4 t4 l4
   generalize upd H4 L (.lst (qT++[V.ref y4]))=H4' at m4
   dsimp only
   obtain⟨qS,jo,k4⟩:=m4.lst
   refine Zl ⟨_,rfl,.inl ⟨rfl,_,ag.of jo⟩,m4.tb,fun y5 H5 s5 _ t5 l5=> ⟨L,qS,.ref y5,rfl,rfl,m4.bQ jo s5,(by rw[k4,ZaP];decide),?_⟩⟩
   have m5:=m4.app jo s5 t5 l5
   generalize upd H5 L (.lst (qS++[V.ref y5]))=BZ at m5
   dsimp only
   obtain⟨qR,qw,k5⟩:=m5.lst
   clear f9 k1 jq k2 fQ k3 jo k4 qw k5 qR
   obtain⟨pA,Rp,mY,ka,tD,rP⟩:=m5
   have l8:ka.length=5:=Zcf rP
   refine⟨_,rfl,L,rfl,⟨ka,ag.of tD⟩,?_⟩
   refine Ye (xs:=ka) (fun i zs σ H8=> ∃v0,σ=[v0]/\ae BZ H8/\zs=(qN.take i).map V.str) ⟨_,rfl,ae.refl _,rfl⟩ (fun i zs σ H8 _ ⟨_,_,s8,_⟩=>ag.of (s8 _ _ tD)) ?_ ?_
   ·rintro j v zs σ H9 hv ⟨v0,rfl,s9,rfl⟩
    obtain⟨bb,cQ,lm⟩:=Jm rP hv
    obtain⟨y,rfl,iF⟩:=lm.same s9
    have hj:j<ka.length:=(Zab.mp hv).1
    have F9:tX K g l xs gw gh vo H9:=F0.xt (pA.trans s9.x) mF
    suffices h:∃iC,(∃params bd scope N idx ws C Pre,Ci (aF aE P w K mg base kE "_law_great_right" (ay eP) f (.ref c) A outer s H E).dg cS 13 [some (.ref p),some (.ref g),some vo,some (.ref L),some (.ref l)] H9 y iC params bd scope N idx ws C Pre)/\qN[j]? =some (wordOf iC) by
     obtain⟨iC,ask,hw⟩:=h
     refine⟨y,iC,rfl,ask,fun gB gP=> ⟨by rw[Zat,ZaU,ZaP];omega,_,rfl,s9.trans gP,?_⟩⟩
     rw[ZbO,hw,ZbC]
     rfl
    match j,cQ,hj with
    |0,cQ,_=>
     cases cQ
     exact⟨11,⟨bJ,_,g1,_,[1,4],[.ref g,.ref l],aM,_,⟨N6 (by kernel_rfl),rfl,rV n1 n4,rfl,at2 rfl rfl,Z7 (by kernel_rfl),iF,MM,Tc .d hP rfl rfl rfl .d .d .d .d .d,fun Q' E' hE=> ⟨.ref g,.ref l,.int 0,aM,rfl,.inr ⟨rfl,l,xs,gw,gh,0,rfl,rfl,.d,.d,F9.la,F9.gr⟩,hE⟩⟩⟩,rfl⟩
    |1,cQ,_=>
     cases cQ
     exact⟨11,⟨bJ,_,g2,_,[1,4],[.ref g,.ref l],aM,_,⟨vO (by kernel_rfl),rfl,rV n1 n4,rfl,at2 rfl rfl,Z7 (by kernel_rfl),iF,MM,xc (Zae _) hM rfl rfl rfl .d .d .d .d .d,fun Q' E' hE=> ⟨.ref g,l,xs,gw,gh,rfl,F9.la,F9.un,F9.gr,hE⟩⟩⟩,rfl⟩
    |2,cQ,_=>
     cases cQ
     exact⟨2,⟨bJ,_,g3,_,[1,4,2],[.ref g,.ref l,vo],aN,_,⟨vN (by kernel_rfl),rfl,vQ n1 n4 n2,rfl,xk rfl rfl rfl,Z7 (by kernel_rfl),iF,MN,xb .d hP rfl rfl rfl rfl .d .d .d .d .d .d .d,fun Q' E' hE=> ⟨.ref g,.ref l,vo,aN,rfl,.inl (.inr ⟨rfl,l,xs,gw,gh,rfl,F9.la,F9.po,F9.wo⟩),hE⟩⟩⟩,rfl⟩
    |3,cQ,_=>
     cases cQ
     exact⟨1,⟨bJ,_,g4,_,[1],[.ref g],aL,_,⟨zN (by kernel_rfl),rfl,zP n1,rfl,Bv rfl,Z7 (by kernel_rfl),iF,ML,Ta .d hP rfl rfl .d .d .d,fun Q' E' hE=> ⟨.ref g,.af,.int 0,aL,rfl,.inl (.inl (.inr ⟨rfl,gw,gh,F9.la.bd,⟨⟨_,.af⟩,fun xs e=>by cases e⟩,rfl⟩)),hE⟩⟩⟩,rfl⟩
    |4,cQ,_=>
     cases cQ
     exact⟨1,⟨bJ,_,g5,_,[1],[.ref g],aL,_,⟨zN (by kernel_rfl),rfl,zP n1,rfl,Bv rfl,Z7 (by kernel_rfl),iF,ML,S8 (Zae _) hX rfl rfl .d .d .d,⟨g,gw,gh,rfl,F9.la.bd,fun t H' s' e' Q' E' hE=> ⟨.ref g,.ref t,aL,rfl,.inl (.inr ⟨rfl,gw,gh,F9.la.bd.same s',⟨⟨_,.tup e'⟩,fun zs ez y hy=>by rw[Zn e']at ez;cases ez;rw[Zff hy];exact⟨_,.af⟩⟩,by rw[Zn e'];exact Xq (by have:=F9.la.bd.2.1;omega)⟩),hE⟩⟩⟩⟩,rfl⟩
    |j+5,_,h=>omega
   ·rintro zs σ H9 ⟨v0,rfl,s9,rfl⟩ Z hZ
    rw[l8]
    obtain⟨gB,zz,sZ,eZ⟩:=aH (o:=.lst ((qN.take 5).map V.str)) hZ
    rw[zz]
    refine⟨Lx,fun a8 h8=> ?_⟩
    have yA:=Zq (o:=.lst (qN.map V.str)) h8
    refine⟨Z,a8,qN,rfl,rfl,ag.of (yA _ _ eZ),ag.of Ze,?_⟩
    have sE:ae BZ _:=s9.trans (sZ.trans yA)
    refine q _ (jW.trans (U.au.xs lE (by simp)) (jW.trans (U.au.xs pA (by simp)) (U.ae.xs sE))) ?_ (Y1 mY sE)
    obtain⟨u,v,e,r⟩:=ak
    exact⟨u,v,sE _ _ (pA _ _ e Np),r⟩
  obtain⟨t,ht,hq⟩:=main
  exact⟨t,ht.dg,hq⟩
end
def XY:∀n:Nat,n<13->3<=n->(bI (n:Int) 12 (some (L2.upTo n))&& !S.bX (L2.upTo n))=true:=by decide+kernel
def HD {n:Nat}(h3:3<=n) (wN:n<=12):S.j7 (n:Int) 12 (L2.upTo n)/\S.bX (L2.upTo n)=false:=by
 have:=XY n .o h3
 rw[ZaR,Zbv]at this
 exact⟨S.qf this.1,this.2⟩
structure Wk (K:Zht) (a Pt Pg:Addr) (ns:List Int) (q:Str) (H:Hp):Prop where
 sc:ik K H a ns
 tb:TabAt H Pt q
 tg:TabAt H Pg pP
section
variable {K:Zht}{a Pt Pg:Addr}{ns:List Int}{q:Str}{H H':Hp}
def Wk.same (W:Wk K a Pt Pg ns q H) (s:ae H H'):Wk K a Pt Pg ns q H':=⟨W.sc.same s,Y1 W.tb s,Y1 W.tg s⟩
def Wk.x (W:Wk K a Pt Pg ns q H) (s:au p H H') (st:cj H p):Wk K a Pt Pg ns q H':=by
 obtain⟨u,v,e,_⟩:=st
 exact⟨W.sc.x s e (fun _ _ z=>by cases z),xl W.tb s e (fun _ z=>by cases z) (fun _ z=>by cases z),xl W.tg s e (fun _ z=>by cases z) (fun _ z=>by cases z)⟩
def Hv (t:TabAt H P q) (t':TabAt H P' q') (s:au P' H H') (n:P≠P'):TabAt H' P q:=by
 obtain⟨ps,e,h1,h2⟩:=t
 obtain⟨ps',e',_⟩:=t'
 refine⟨ps,s _ _ e n,h1,fun pos cv h=> ?_⟩
 obtain⟨k,ek,hk⟩:=h2 pos cv h
 exact⟨k,ek,s _ _ hk (fun z=>by rw[z,e']at hk;cases hk)⟩
def Wk.t (W:Wk K a Pt Pg ns q H) (s:au Pt H H') (t:TabAt H' Pt q) (n:Pg≠Pt):Wk K a Pt Pg ns q H':=by
 obtain⟨tp,e,_⟩:=id W.tb
 exact⟨W.sc.x s e (fun _ _ z=>by cases z),t,Hv W.tg W.tb s n⟩
def Zc2 (s:jW [p,Pg] H H'):∃Hm:Hp,au p H Hm/\au Pg Hm H':=by
 refine⟨fun b=>if b=p then H' b else H b,fun b o h n=> (Zam n).trans h,fun b o h n=> ?_⟩
 by_cases z:b=p
 ·exact(Zaq z).symm.trans h
 ·exact s b o ((Zam z).symm.trans h) (by simp[z,n])
def Wk.g {p:Addr}{Hm:Hp}(W:Wk K a Pt Pg ns q H) (st:cj H p) (s1:au p H Hm) (s2:au Pg Hm H') (t:TabAt H' Pg pP) (n:Pt≠Pg):Wk K a Pt Pg ns q H':=by
 have W1:=W.x s1 st
 obtain⟨tp,er,_⟩:=id W1.tg
 exact⟨W1.sc.x s2 er (fun _ _ z=>by cases z),Hv W1.tb W1.tg s2 n,t⟩
end
structure Facts (K:Zht) (b d o3:Addr) (ds:List V) (wd hg:Int) (n:Nat) (vn vb vo:V) (H:Hp):Prop where
 bn:iU K H vn
 b1:fe K H vb
 b2:bI wd hg (bA H vb)=false
 la:bL K H (.ref b) d ds wd hg
 po:bR K H vo
 wo:bz vo 0 3=false
 lk:H o3=some (.tup (L2.upTo n))
def Facts.xt {K:Zht}{b d o3 Pt:Addr}{ds:List V}{wd hg:Int}{n:Nat}{vn vb vo:V}{H H':Hp}{ps:Array Value}(f:Facts K b d o3 ds wd hg n vn vb vo H) (s:au Pt H H') (hp:H Pt=some (.bY ps)):Facts K b d o3 ds wd hg n vn vb vo H':=
 ⟨BD f.bn s (Ux f.bn.1 hp),Bz f.b1 s (Ux f.b1 hp),by rw[JB f.b1.1 s (YY f.b1.1 hp)];exact f.b2,f.la.xt s hp,YR f.po s (YY f.po hp),f.wo,s _ _ f.lk (fun z=>by have h:=f.lk;rw[z,hp]at h;cases h)⟩
def MD:putL [V.int 0] (cE (1+1) 0).toNat (de (1+1) 0)=[0,1].map V.int:=by decide+kernel
def QS:jQ 1 1 [V.af] 4=[0,1,2,3]:=by decide+kernel
def Of:bI 1 1 (some [V.int 0])=true:=by decide+kernel
def Oe:bI 1 1 (some [V.af])=true:=by decide+kernel
def Kw:S.bX [V.af]=true:=by decide+kernel
section
variable {P:Program}{w:World}{K:Zht}{mg:Str->Option Value}{base:Heap}
abbrev df:Stmt:=top 60
def yD (K:Zht) (Pg Pt:Addr):Sp:=fun vs H Q _=> ∃(a:Addr) (ns:List Int),vs=[.ref a]/\ik K H a ns/\ns.length<=63/\(∀Px∈[Pg,Pt],H Px=some (.bY #[]))/\∀H',Q (.bl true) H'
abbrev gU:List Str:=["_law_script", "_law_k", "_law_state_here", "_law_lay_here", "_law_side", "_law_calls", "_law_bad", "_law_board", "_law_drawn", "_law_like", "_law_none", "_law_odd"]
def iA:bh gU ["_law_script"] (ay df):=ZN (by decide+kernel)
abbrev qL:Str:= "law.<locals>.<lambda>"
abbrev c1:Scope:=iN [("_law_bad",.free),("_law_none",.free),("_law_odd",.free),("put_to",.globalImplicit)]
abbrev c2:Scope:=iN [("_law_bad",.free),("_law_none",.free),("good_corners",.globalImplicit)]
abbrev c3:Scope:=iN [("_law_bad",.free),("_law_board",.free),("_law_odd",.free),("put_to",.globalImplicit)]
abbrev c4:Scope:=iN [("_law_bad",.free),("_law_board",.free),("good_corners",.globalImplicit)]
abbrev c5:Scope:=iN [("_law_board",.free),("_law_drawn",.free),("_law_odd",.free),("put_to",.globalImplicit)]
abbrev c6:Scope:=iN [("_law_like",.free),("good_corners",.globalImplicit),("len",.globalImplicit)]
abbrev c7:Scope:=iN [("_law_board",.free),("_law_drawn",.free),("good_corners",.globalImplicit)]
def qM:List Str:=["board", "board", "lay", "lay", "number", "unlike"]
def Vu {f c Pg Pt fR cS aB aL aN aM aU:Addr}{oc:Value}{od an:Option Addr}{kV doc pm ct:Value}{fm:Array (Option Value)}(zK:Pg≠Pt)
  (lk:K.lookup f=some ⟨oc,od,.func (PySem.W.fnOf "law" "law" (fS df) (dB df) (ay df) .none kV doc pm an (.ref c) ct),fm⟩) (dh:PySem.W.codeIn K (.ref c) "law" =true) (G:Gs mg)
  (Dst:Def P w K mg base 2 "_law_state" ["_law_script", "_law_k"] (yl K)) (jB:Def P w K mg base 1 "_law_take" ["_law_state_here", "_law_many"] ki) (Dll:Def P w K mg base 2 "_law_lay" ["_law_state_here", "_law_board"] (yF K)) (B8:Def P w K mg base 3 "_law_grown" ["_law_state_here", "_law_board", "_law_bare"] S.uQ)
  (Dnn:Def P w K mg base 2 "_law_no_number" ["_law_state_here", "_law_low", "_law_high"] (yp K)) (Kf:Def P w K mg base 14 "_law_right" ["_law_board", "_law_drawn", "_law_lay_here"] (ym K)) (Dgt:Def P w K mg base 16 "_law_great_right" ["_law_state_here", "_law_great", "_law_odd"] (yH K Pg))
  (ua:Def P w K mg base 2 "_law_unlike" ["_law_lay_here"] S.rm) (Dnb:Def P w K mg base 2 "_law_no_board" ["_law_state_here"] (yq K)) (Dnl:Def P w K mg base 2 "_law_no_lay" ["_law_state_here", "_law_board", "_law_lay_here"] (yw K))
  (tZ:Def P w K mg base 8 "put_to" ["board", "lay", "corner"] (pE K)) (Ca:Def P w K mg base 13 "good_corners" ["board", "lay"] (rp K))
  (hR:∀b',Def P w K mg b' 15 "_law_word" ["_law_call"] (ng P w K mg b' cS 14)) (hP:∀b',aY P w K mg b' 8 "put_to" ["board", "lay", "corner"] (pD K aB aL aN aM)) (hX:∀b',aY P w K mg b' 13 "good_corners" ["board", "lay"] (S.jF K aB aL aU)) (mR:mg "_law_word" =some (.ref fR)) (kR:PySem.W.keepIn K (.ref fR)=true)
  (MB:il K mg cS aB 0) (ML:il K mg cS aL 1) (MN:il K mg cS aN 2) (MU:il K mg cS aU 6) (hC:PySem.W.CodeHd base c Pt)
  (qv:∃bm ob,mg "__builtins__" =some (.ref bm)/\bm≠builtinsNs/\base.get? bm=some ob/\ob.cls=.type "module" /\ob.dict=some builtinsNs/\ob.data=.plain):
  aA P w K mg base aE 17 f (PySem.W.fnOf "law" "law" (fS df) (dB df) (ay df) .none kV doc pm an (.ref c) ct) ["_law_script"] (yD K Pg Pt):=by
 refine xp lk dh iA (fun vs H Q E h=> ?_) (fun A outer s H vs Q E hr h=> ?_)
 ·obtain⟨a,ns,rfl,_⟩:=h
  rfl
 ·obtain⟨a,ns,rfl,CL,sG,Ek,q⟩:=h
  have OW:=Ek Pt (by simp)
  have OV:=Ek Pg (by simp)
  have lam:xF (aF aE P w K mg base gU "law" (ay df) f (.ref c) A outer s H E).dg c Pt:=⟨rfl,hC,qv⟩
  have C:LCtx (aF aE P w K mg base gU "law" (ay df) f (.ref c) A outer s H E).dg cS c Pt fR "good_corners" 13 ["board", "lay"] (S.jF K aB aL aU):=⟨⟨rfl,hC,qv⟩,hR,hX,hr.mono .d,mR,kR⟩
  have n6:LN (aF aE P w K mg base gU "law" (ay df) f (.ref c) A outer s H E).dg "_law_bad" 6:=⟨rfl,rfl,rfl⟩
  have n7:LN (aF aE P w K mg base gU "law" (ay df) f (.ref c) A outer s H E).dg "_law_board" 7:=⟨rfl,rfl,rfl⟩
  have n8:LN (aF aE P w K mg base gU "law" (ay df) f (.ref c) A outer s H E).dg "_law_drawn" 8:=⟨rfl,rfl,rfl⟩
  have n9:LN (aF aE P w K mg base gU "law" (ay df) f (.ref c) A outer s H E).dg "_law_like" 9:=⟨rfl,rfl,rfl⟩
  have DH:LN (aF aE P w K mg base gU "law" (ay df) f (.ref c) A outer s H E).dg "_law_none" 10:=⟨rfl,rfl,rfl⟩
  have zM:LN (aF aE P w K mg base gU "law" (ay df) f (.ref c) A outer s H E).dg "_law_odd" 11:=⟨rfl,rfl,rfl⟩
  have room:bW 15 (aF aE P w K mg base gU "law" (ay df) f (.ref c) A outer s H E).dg.A:=hr.mono .d
  have hu:=xq hr
  have main:∃tt,fJ (aF aE P w K mg base gU "law" (ay df) f (.ref c) A outer s H E).dg (dB df) tt/\tt {nx:=fun _ H'=>Q .af H',rt:=Q} (start gU [.ref a]) H:=by
   refine⟨_,Zc (Jt Zew rfl (Z0 rfl G.range (Za (Zp (UK rfl) rfl G.max boot_max (Za Zd (Za (Zp (Zc1 rfl) rfl G.min boot_min (Za (Zp ZG rfl G.len ZeU (Za (pv 0) Zb)) (Za Zd Zb))) Zb))) Zb)) (ZE (i:=1) iA.nd rfl (Or.inl rfl))
    (Zc (Zy (i:=2) iA.nd rfl (Or.inl rfl) (Zh Dst (hr.mono .d) (Za (pv 0) (Za (pv 1) Zb))))
    (Zc (Zy (i:=7) iA.nd rfl (Or.inr rfl) (Zs (Za (Zo ZT Zd (Zh jB (hr.mono .d) (Za (pv 2) (Za Zd Zb)))) (Za (Zo ZT Zd (Zh jB (hr.mono .d) (Za (pv 2) (Za Zd Zb)))) Zb))))
    (Zc (YK (Zs (Za (Zh Dll (hr.mono .d) (Za (pv 2) (Za (pv 7) Zb))) (Za (Zh B8 (hr.mono .d) (Za (pv 2) (Za (pv 7) (Za (Zo ZT Zd (Zh jB (hr.mono .d) (Za (pv 2) (Za Zd Zb)))) Zb)))) Zb))) (Z1 rfl (Zm (ZE (i:=8) iA.nd rfl (Or.inr rfl)) (Zm (ZE (i:=3) iA.nd rfl (Or.inl rfl)) ZR))))
    (Zc (YK (Zs (Za (Zh Dnn (hr.mono .d) (Za (pv 2) (Za Zd (Za Zd Zb)))) (Za (Zo ZT Zd (Zh jB (hr.mono .d) (Za (pv 2) (Za Zd Zb)))) Zb))) (Z1 rfl (Zm (ZE (i:=11) iA.nd rfl (Or.inr rfl)) (Zm (ZE (i:=4) iA.nd rfl (Or.inl rfl)) ZR))))
    (Zc (ZQ (PW.pt (Jl (ZZ (ZM (Zh Kf (hr.mono .d) (Za (pv 7) (Za (pv 8) (Za (pv 3) Zb)))))) (YI (ZZ (ZM (Zh Kf (hr.mono .d) (Za (pv 7) (Za (pv 3) (Za (Zo UZ (Zs (Za Yn Zb)) (ZF ZP (pv 7) Zd (fun _ _=>rfl))) Zb))))))))) Zr Zv)
    (Zc (ZQ (ZZ (ZM (Zh Dgt (hr.mono .d) (Za (pv 2) (Za (ZF ZY (ZH (Za (Zs (Za Zd (Za (pv 4) Zb))) (Za (Zs (Za (pv 4) (Za Zd Zb))) Zb))) (Zh jB (hr.mono .d) (Za (pv 2) (Za Zd Zb))) (fun _ _=>rfl)) (Za (pv 11) Zb)))))) Zr Zv)
    (Zc (ZQ (PW.pt (BL (ZZ (ZM (Zh ua (hr.mono .d) (Za (pv 8) Zb)))) (UV (ZO Ut (XA (idx:=[7,8]) (N:=["_law_board", "_law_drawn"]) (bd:=qD "good_corners" "_law_board" "_law_drawn" _ _ _ _) (scope:=c7) (Pre:=fun ws=>oS (S.jF K aB aL aU) ws aU) C (vO (by kernel_rfl)) rfl (rV n7 n8) rfl rfl (Z7 (by kernel_rfl)) MU (fun f ws hw=>match ws,hw with | [x,y],_=>xc (Zae _) hX rfl rfl rfl .d .d .d .d .d)) ZS (bO _))))) Zr Zv)
    (Zc (YK (Zs (Za (Zh Dnb (hr.mono .d) (Za (pv 2) Zb)) (Za (Zh Dnl (hr.mono .d) (Za (pv 2) (Za (pv 7) (Za (pv 8) Zb)))) Zb))) (Z1 rfl (Zm (ZE (i:=10) iA.nd rfl (Or.inr rfl)) (Zm (ZE (i:=6) iA.nd rfl (Or.inr rfl)) ZR))))
    (Zc (Zy (i:=9) iA.nd rfl (Or.inr rfl) (Z2 WT rfl G.tuple Zev (Za (Z2 We rfl G.range boot_range (Za (Zo ZT Zd (Zh jB (hr.mono .d) (Za (pv 2) (Za Zd Zb)))) Zb)) Zb)))
    (Zc (Zy (i:=5) iA.nd rfl (Or.inl rfl) (ZH (Za (Yp (params:=bJ) (body:=cB "put_to" "_law_none" "_law_bad" "_law_odd" _ _ _ _ _) (scope:=c1) lam rfl (Z7 (by kernel_rfl))) Zb)))
    (Zc (Zz (Yq Zbm Zby Zbz ZV (pv 5) (Za (Yp (params:=bJ) (body:=qD "good_corners" "_law_none" "_law_bad" _ _ _ _) (scope:=c2) lam rfl (Z7 (by kernel_rfl))) Zb)))
    (Zc (Zz (Yq Zbm Zby Zbz ZV (pv 5) (Za (Yp (params:=bJ) (body:=cB "put_to" "_law_board" "_law_bad" "_law_odd" _ _ _ _ _) (scope:=c3) lam rfl (Z7 (by kernel_rfl))) Zb)))
    (Zc (Zz (Yq Zbm Zby Zbz ZV (pv 5) (Za (Yp (params:=bJ) (body:=qD "good_corners" "_law_board" "_law_bad" _ _ _ _) (scope:=c4) lam rfl (Z7 (by kernel_rfl))) Zb)))
    (Zc (Zz (Yq Zbm Zby Zbz ZV (pv 5) (Za (Yp (params:=bJ) (body:=cB "put_to" "_law_board" "_law_drawn" "_law_odd" _ _ _ _ _) (scope:=c5) lam rfl (Z7 (by kernel_rfl))) Zb)))
    (Zc (Zz (Yq Zbm Zby Zbz ZV (pv 5) (Za (Yp (params:=bJ) (body:=Gq "good_corners" "_law_like" _ _ _ _ _ _ _ _) (scope:=c6) lam rfl (Z7 (by kernel_rfl))) Zb)))
    (Zj (ZQ (ZO (Xf hu) (Ik ["_law_call"] 1 [] (Ys (pv 5)) (fun C s H fp=>pb 0) (fun C s H fp=>Z8) (fun pins σ B s H fp D I0 hf=>ZI rfl (Io (kf:=13) hR room mR kR I0 hf rfl (pv 0))))
     (Zo Y0 (Zo Y0 (Zo GX (ZH (Za ZS Zb)) Zd) (Zo GX (ZH (Za ZS Zb)) Zd)) (ZH (Za ZS (Za ZS Zb)))) (bO _)) Zr Zv))))))))))))))))))
   (Zj (Zw (YB (Z5 (HN (Zeu hu)) (Zh tZ (hr.mono .d) (Za (Zs (Za Zd (Za Zd Zb))) (Za (Zs (Za Zd Zb)) (Za Zd Zb)))) (Zs (Za Zd (Za Zd Zb))) (bO _))
    (Yz (Z5 (TB (Zeu hu)) (Zh Ca (hr.mono .d) (Za (Zs (Za Zd (Za Zd Zb))) (Za (Zs (Za Yn Zb)) Zb))) (ZH (Za Zd (Za Zd (Za Zd (Za Zd Zb))))) (bO _)))))),?_⟩
   have KO:TabAt H Pt qL:=⟨#[],OW,trivial,fun pos cv z=>by cases z⟩
   have KN:TabAt H Pg pP:=⟨#[],OV,trivial,fun pos cv z=>by cases z⟩
   refine Zl ?_
   refine⟨_,rfl,a,_,rfl,.inl CL.sq,_,_,rfl,_,_,rfl,_,rfl,(by rw[Zat];split<;>split<;>omega),(by rw[Zat];split<;>split<;>omega),?_⟩
   refine YV (fun i σ H'=> ∃s1 s2 s3 s4 s5 s6 s7 s8 s9 gP jG,σ=[some (.ref a),s1,s2,s3,s4,s5,s6,s7,s8,s9,gP,jG]/\Wk K a Pt Pg ns qL H') ⟨_,_,_,_,_,_,_,_,_,_,_,rfl,CL,KO,KN⟩ ?_ ?_
   ·rintro i σ H0 hi ⟨q1,q2,q3,q4,q5,q6,q7,q8,q9,MC,q11,rfl,W⟩
    rw[ZeQ]
    refine Zt ?_
    dsimp only[List.set]
    refine Zl (ZB ⟨_,rfl,_,rfl,a,ns,i,rfl,W.sc.sq,fun p H1 np k1 av=>Zt ?_⟩)
    dsimp only[List.set]
    have W1:=W.same k1
    refine Zl (ZB ⟨_,rfl,p,11,rfl,av,.d,.d,fun r2 o2 r20 r21 cX=> ⟨_,_,rfl,rfl,?_⟩⟩)
    obtain⟨H4,zz,x4⟩:=newX H1 p o2
    rw[zz]at cX |-
    have W4:=W1.x x4 av
    refine⟨_,rfl,p,11,rfl,cX,.d,.d,fun r3 o3 r30 r31 dr=> ⟨_,_,rfl,rfl,?_⟩⟩
    obtain⟨H5,zz,x5⟩:=newX H4 p o3
    rw[zz]at dr |-
    have W5:=W4.x x5 cX
    refine⟨aZ,fun b hb=>Zt ?_⟩
    dsimp only[List.set]
    generalize hw:1+r2=wd
    generalize hh:1+r3=hg
    obtain⟨H6,zz,s6,e6⟩:=aH (o:=.tup [V.int wd,V.int hg]) hb
    rw[zz]
    have W6:=W5.same s6
    have rf:=dr.same s6
    have w1:1<=wd/\wd<=11/\1<=hg/\hg<=11:=.o
    have jU:∀{H':Hp},H' b=some (.tup [V.int wd,V.int hg])->ck H' (.ref b) wd hg:=fun h=> ⟨Zn h,.o,.o,.o,.o⟩
    have neT:∀{H':Hp}{x:Addr}{ys:List V},cj H' p->H' x=some (.tup ys)->x≠p:=fun⟨_,_,e,_⟩ h=>Ym h e (by intro z;cases z)
    have gR:b≠p:=neT rf e6
    refine Zl (ZB ⟨_,rfl,_,rfl,p,b,wd,hg,rfl,rf,jU e6,fun d H7 ds x7 rb FQ pZ=> ?_⟩)
    have W7:=W6.x x7 rf
    have RY:=x7 _ _ e6 gR
    have kD:=neT rb FQ
    refine⟨_,rfl,_,rfl,_,rfl,p,5,rfl,rb,.d,.d,fun r4 o4 r40 r41 ra=> ⟨_,_,rfl,rfl,?_⟩⟩
    obtain⟨H8,zz,x8⟩:=newX H7 p o4
    rw[zz]at ra |-
    have W8:=W7.x x8 rb
    have FW:=x8 _ _ RY gR
    have RQ:=x8 _ _ FQ kD
    refine⟨p,b,wd,hg,_,rfl,ra,jU FW,fun l H9 xs x9 gN RK pW hm=> ⟨aZ,fun tq OS=> ?_⟩⟩
    have W9:=W8.x x9 ra
    have RX:=x9 _ _ FW gR
    have RP:=x9 _ _ RQ kD
    obtain⟨DK,un,_⟩:=S.tG _ _ _ xs hm
    rw[Zb9 .o,Zb9 .o]at DK
    have ly:=DK.is
    obtain⟨gB,zz,nN,e10⟩:=aH (o:=.tup [V.ref d,V.ref l]) OS
    rw[zz]
    refine⟨tq,_,rfl,ah.of e10,rfl,_,_,rfl,_,_,rfl,rfl,?_⟩
    dsimp only[List.set]
    have W10:=W9.same nN
    have rk:=gN.same nN
    have Sd:=nN _ _ RX
    have RW:=nN _ _ RP
    have RL:=nN _ _ RK
    refine Zl (ZB ⟨_,rfl,p,3,rfl,rk,.d,.d,fun vo xI Cn rj po wo kB=> ?_⟩)
    have W11:=W10.x Cn rk
    refine⟨_,rfl,p,12,rfl,rj,.d,.d,fun r5 o5 r50 r51 uL=> ⟨_,_,rfl,rfl,aZ,fun KH Ei=> ?_⟩⟩
    obtain⟨iS,zz,lE⟩:=newX xI p o5
    rw[zz]at uL Ei |-
    have W12:=W11.x lE rj
    dsimp only
    generalize hsd:1+r5=sd
    have sd1:1<=sd/\sd<=12:=.o
    obtain⟨xH,zz,qe,e13⟩:=aH (o:=.tup [vo,V.int sd]) Ei
    rw[zz]
    refine⟨KH,_,rfl,ah.of e13,rfl,_,_,rfl,_,_,rfl,rfl,?_⟩
    dsimp only[List.set]
    have W13:=W12.same qe
    have rh:=uL.same qe
    have up:∀{x:Addr}{ys:List V},gB x=some (.tup ys)->x≠p->xH x=some (.tup ys):=fun h n=>qe _ _ (lE _ _ (Cn _ _ h n) n)
    have qA:=up Sd gR
    have FV:=up RW kD
    have FK:=up RL pW
    have MJ:bR K xH vo:=qe.iD (YR po lE kB)
    refine Zl ⟨_,rfl,_,rfl,_,rfl,.ref b,d,l,ds,xs,wd,hg,rfl,⟨jU qA,FV,pZ⟩,⟨jU qA,FK,ly⟩,un,w1.2.1,w1.2.2.2,fun H14 C4=> ⟨true,rfl,aP ?_⟩⟩
    refine⟨_,rfl,_,rfl,bZ,fun t1 kK=> ?_⟩
    obtain⟨H15,zz,DV,e15⟩:=aH (o:=.tup [V.af]) kK
    rw[zz]
    have Sb:=DV _ _ (C4 _ _ qA)
    refine⟨_,rfl,b,_,_,_,rfl,rfl,ah.of Sb,gM,t1,wd,[.af],rfl,rfl,e15,by simp,.o,.o,by simp;omega,fun t2 Kc rN e16=> ?_⟩
    rw[Ip]at e16
    have vW:=C4.trans (DV.trans rN)
    obtain⟨DJ,Kv,_⟩:=S.tG wd.toNat hg.toNat 0 _ (by simp[S.gm]:List.replicate wd.toNat V.af∈S.gm wd.toNat hg.toNat 0)
    rw[Zb9 .o,Zb9 .o]at DJ
    refine⟨.ref b,l,t2,xs,_,wd,hg,rfl,⟨jU (vW _ _ qA),vW _ _ FK,ly⟩,⟨jU (vW _ _ qA),e16,DJ.is⟩,Kv,w1.2.1,w1.2.2.2,fun oZ kj=> ⟨true,rfl,aP (Yb ?_)⟩⟩
    try dsimp only
    have r9:=vW.trans kj
    have W17:=W13.same r9
    have CG:=rh.same r9
    have Sa:=r9 _ _ qA
    have RV:=r9 _ _ FV
    have MI:=r9.iD MJ
    refine Zl ⟨_,rfl,_,rfl,aZ,fun qx mw=> ?_⟩
    obtain⟨H18,zz,DU,e18⟩:=aH (o:=.tup [V.int 12,V.int sd]) mw
    rw[zz]
    refine⟨_,rfl,aZ,fun kS AB=> ?_⟩
    obtain⟨Kb,zz,zV,e19⟩:=aH (o:=.tup [V.int sd,V.int 12]) AB
    rw[zz]
    refine⟨aZ,fun L3 fQ=> ?_⟩
    have vU:=Zq (o:=.lst [V.ref qx,V.ref kS]) fQ
    have e20:upd Kb L3 (.lst [V.ref qx,V.ref kS]) L3=some (.lst [V.ref qx,V.ref kS]):=Ze
    have zL:L3≠p:=fun z=>by
     obtain⟨u,v,e,_⟩:=(CG.same (DU.trans zV))
     rw[z,e]at fQ;cases fQ
    generalize upd Kb L3 (HO.lst [V.ref qx,V.ref kS])=H20 at vU e20
    have vV:=DU.trans (zV.trans vU)
    have W20:=W17.same vV
    have uK:=CG.same vV
    have FP:=(zV.trans vU) _ _ e18
    have FO:=vU _ _ e19
    refine⟨_,rfl,p,2,rfl,uK,.d,.d,fun r8 o8 r80 r81 uJ=> ?_⟩
    obtain⟨Ka,zz,pf⟩:=newX H20 p o8
    rw[zz]at uJ |-
    have BM:=W20.x pf uK
    obtain⟨g,gw,gh,wB,QY,QV⟩:∃(g:Addr) (gw gh:Int),gA [V.ref qx,V.ref kS] r8=some (.ref g)/\ck Ka (.ref g) gw gh/\(11<gw∨11<gh):=by
     have:r8=0∨r8=1:=.o
     rcases this with rfl |rfl
     ·exact⟨qx,12,sd,rfl,⟨Zn (pf _ _ FP (neT uK FP)),.o,.o,.o,.o⟩,.o⟩
     ·exact⟨kS,sd,12,rfl,⟨Zn (pf _ _ FO (neT uK FO)),.o,.o,.o,.o⟩,.o⟩
    have Df:bR K Ka vo:=YR (vV.iD MI) pf kB
    refine⟨L3,_,_,_,rfl,rfl,ag.of (pf _ _ e20 zL),wB,_,rfl,p,g,gw,gh,vo,rfl,uJ,QY,QV,Df,wo,kB,BM.tg,fun I9 Ks LJ KJ=> ⟨true,rfl,aP (Yb ?_)⟩⟩
    try dsimp only
    obtain⟨Hm,um,xK⟩:=Zc2 Ks
    have W22:=BM.g uJ um xK KJ (ZdL zK)
    obtain⟨tpg,FI,_⟩:=id (BM.x um uJ).tg
    have Cp:∀{x:Addr}{ys:List V},oZ x=some (.tup ys)->x≠p->I9 x=some (.tup ys):=fun {x ys} h n=>by
     have hm:=um _ _ (pf _ _ (vV _ _ h) n) n
     exact xK _ _ hm (fun z=>by rw[z,FI]at hm;cases hm)
    have R4:=Cp Sa gR
    have FU:=Cp RV kD
    have De:=YR Df um kB
    have MH:bR K I9 vo:=YR De xK (YY De FI)
    have Mh:S.tQ ds:=(S.qf pZ).ok
    have aaw:=Yj pZ
    refine Iy (fun aj H'=>aj=[some (.ref a),some (.int (i:Int)),some (.ref p),some (.ref l),some (.int sd),q5,q6,some (.ref b),some (.ref d),q9,MC,some vo]/\cj H' p/\Wk K a Pt Pg ns qL H'/\H' b=some (.tup [V.int wd,V.int hg])/\H' d=some (.tup ds)/\bR K H' vo) ?_ ?_
    rotate_left
    ·intro D' Fp
     refine⟨_,rfl,d,ds,rfl,FU,Mh,.o,fun H23 rM=> ⟨_,rfl,?_⟩⟩
     have tO:=W22.same rM
     have CF:=LJ.same rM
     have qz:=rM _ _ R4
     have oJ:=rM _ _ FU
     have zu:=rM.iD MH
     cases hu:S.bX ds with
     |true=>exact aP (Yb (Fp _ _ ⟨rfl,CF,tO,qz,oJ,zu⟩))
     |false=>
      refine aX ⟨[.ref b,.ref d],rfl,at2 rfl rfl,tO.tb,fun H' x' Q' E' hE=> ?_,fun H24 qK Ls=> ⟨rfl,_,rfl,aP (Yb (Fp _ _ ?_))⟩⟩
      ·obtain⟨ps,hp,_⟩:=tO.tb
       have Tf:=(jU qz).x x' ((jU qz).bY hp)
       exact⟨.ref b,.ref d,aU,rfl,.inr ⟨rfl,wd,hg,ds,⟨Tf,Zn (x' _ _ oJ (fun z=>by rw[z,hp]at oJ;cases oJ)),S.qf pZ⟩,hu⟩,hE⟩
      ·obtain⟨ps,hp,_⟩:=tO.tb
       obtain⟨u,v,ep,dn⟩:=CF
       exact⟨rfl,⟨u,v,qK _ _ ep (fun z=>by rw[z,hp]at ep;cases ep),dn⟩,tO.t qK Ls zK,qK _ _ qz (fun z=>by rw[z,hp]at qz;cases qz),qK _ _ oJ (fun z=>by rw[z,hp]at oJ;cases oJ),YR zu qK (YY zu hp)⟩
    rintro aj H24 ⟨rfl,CD,W24,R3,RU,MG⟩
    refine Zl (ZB ⟨_,rfl,p,rfl,CD,fun vn H25 uq CC bn nn=> ?_⟩)
    have W25:=W24.x uq CD
    have FX:=uq _ _ R3 gR
    have FT:=uq _ _ RU kD
    refine⟨_,rfl,_,rfl,_,rfl,p,b,d,ds,wd,hg,rfl,CC,⟨jU FX,FT,pZ⟩,fun vb H26 pe LH gl=> ⟨aZ,fun KG OR=> ?_⟩⟩
    have W26:=W25.x pe CC
    have Gr:=BD bn pe nn
    have Dx:=HJ bn.1.1 pe nn.1 nn
    obtain⟨B5,zz,lU,e27⟩:=aH (o:=.tup [vn,vb]) OR
    rw[zz]
    refine⟨KG,_,rfl,ah.of e27,rfl,_,_,rfl,_,_,rfl,rfl,?_⟩
    dsimp only[List.set]
    have W27:=W26.same lU
    have CA:=LH.same lU
    have Td:=Gr.same lU
    have Nw:jY p B5 vn:=⟨Dx.1,fun xs e=>Dx.2 xs (by rw[<-Jq Gr.1.1 lU];exact e)⟩
    have QU:=Yd gl lU
    have RZ:=lU _ _ (pe _ _ FX gR)
    have RT:=lU _ _ (pe _ _ FT kD)
    have MF:bR K B5 vo:=lU.iD (YR (YR MG uq kB) pe kB)
    refine Zl (ZB ⟨_,rfl,p,10,rfl,CA,.d,.d,fun rl ol rl0 aar LG=> ⟨_,_,rfl,rfl,3+rl,rfl,fun pQ qi=> ⟨pQ,3+rl,rfl,Ze,.o,.o,fun o3 ql=>Zt ?_⟩⟩⟩)
    dsimp only[List.set]
    obtain⟨H28,zz,o9⟩:=newX B5 p ol
    rw[zz]at LG qi ql |-
    have W28:=W27.x o9 CA
    have DT:=Zq (o:=.fN 0 (3+rl)) qi
    generalize upd H28 pQ (HO.fN 0 (3+rl))=H29 at DT ql
    obtain⟨H30,zz,Oo,e30⟩:=aH (o:=.tup (L2.upTo (3+rl).toNat)) ql
    rw[zz]
    generalize hn:(3+rl).toNat=n at e30
    have n3:3<=n/\n<=12:=.o
    have qd:=DT.trans Oo
    have xu:=W28.same qd
    have QT:=Ig QU o9
    have Fv:=Yd QT qd
    have F0:Facts K b d o3 ds wd hg n vn vb vo H30:=⟨(BD Td o9 Nw).same qd,Fv.1.1,Fv.1.2,⟨jU (qd _ _ (o9 _ _ RZ gR)),qd _ _ (o9 _ _ RT kD),pZ⟩,qd.iD (YR MF o9 kB),wo,e30⟩
    obtain⟨tp,mF,_⟩:=id xu.tb
    refine Zl (ZB ⟨xu.tb,fun y1 H1 s1 _ t1 l1=> ⟨bZ,fun L hL=>Zt ?_⟩⟩)
    have m1:=HF xu.tb s1 t1 l1 hL
    generalize upd H1 L (.lst [V.ref y1])=H1' at m1
    dsimp only[List.set]
    obtain⟨dX,f9,k1⟩:=m1.lst
    refine Zl ⟨_,rfl,.inl ⟨rfl,_,ag.of f9⟩,m1.tb,fun y2 H2 s2 _ t2 l2=> ⟨L,dX,.ref y2,rfl,rfl,m1.bQ f9 s2,(by rw[k1,ZaP];decide),?_⟩⟩
    have m2:=m1.app f9 s2 t2 l2
    generalize upd H2 L (.lst (dX++[V.ref y2]))=H2' at m2
    dsimp only
    obtain⟨qU,jq,k2⟩:=m2.lst
    refine Zl ⟨_,rfl,.inl ⟨rfl,_,ag.of jq⟩,m2.tb,fun y3 H3 s3 _ t3 l3=> ⟨L,qU,.ref y3,rfl,rfl,m2.bQ jq s3,(by rw[k2,ZaP];decide),?_⟩⟩
    have m3:=m2.app jq s3 t3 l3
    generalize upd H3 L (.lst (qU++[V.ref y3]))=IZ at m3
    dsimp only
    obtain⟨qT,fQ,k3⟩:=m3.lst
    refine Zl ⟨_,rfl,.inl ⟨rfl,_,ag.of fQ⟩,m3.tb,fun y4 H4 s4 _ t4 l4=> ⟨L,qT,.ref y4,rfl,rfl,m3.bQ fQ s4,(by rw[k3,ZaP];decide),?_⟩⟩
    have m4:=m3.app fQ s4 t4 l4
    generalize upd H4 L (.lst (qT++[V.ref y4]))=H4' at m4
    dsimp only
    obtain⟨qS,jo,k4⟩:=m4.lst
    refine Zl ⟨_,rfl,.inl ⟨rfl,_,ag.of jo⟩,m4.tb,fun y5 H5 s5 _ t5 l5=> ⟨L,qS,.ref y5,rfl,rfl,m4.bQ jo s5,(by rw[k4,ZaP];decide),?_⟩⟩
    have m5:=m4.app jo s5 t5 l5
    generalize upd H5 L (.lst (qS++[V.ref y5]))=BZ at m5
    dsimp only
    obtain⟨qR,qw,k5⟩:=m5.lst
    refine Zl ⟨_,rfl,.inl ⟨rfl,_,ag.of qw⟩,m5.tb,fun y6 H6 s6 _ t6 l6=> ⟨L,qR,.ref y6,rfl,rfl,m5.bQ qw s6,(by rw[k5,ZaP];decide),?_⟩⟩
    have m6:=m5.app qw s6 t6 l6
    generalize upd H6 L (.lst (qR++[V.ref y6]))=IY at m6
    dsimp only
    obtain⟨Co,QJ,k6⟩:=m6.lst
    clear f9 k1 jq k2 fQ k3 jo k4 qw k5 QJ k6 Co
    obtain⟨pA,Rp,mY,ka,tD,rP⟩:=m6
    have l8:ka.length=6:=Zcf rP
    refine⟨_,rfl,L,rfl,⟨ka,ag.of tD⟩,?_⟩
    refine Ye (xs:=ka) (fun i zs σ H8=> ∃v0,σ=[v0]/\ae IY H8/\zs=(qM.take i).map V.str) ⟨_,rfl,ae.refl _,rfl⟩ (fun i zs σ H8 _ ⟨_,_,s8,_⟩=>ag.of (s8 _ _ tD)) ?_ ?_
    ·rintro j v zs σ H9 hv ⟨v0,rfl,s9,rfl⟩
     obtain⟨bb,cQ,lm⟩:=Jm rP hv
     obtain⟨y,rfl,iF⟩:=lm.same s9
     have hj:j<ka.length:=(Zab.mp hv).1
     have F9:Facts K b d o3 ds wd hg n vn vb vo H9:=F0.xt (pA.trans s9.x) mF
     suffices h:∃iC,(∃params bd scope N idx ws C Pre,Ci (aF aE P w K mg base gU "law" (ay df) f (.ref c) A outer s H E).dg cS 13 [some (.ref a),some (.int (i:Int)),some (.ref p),some (.ref l),some (.int sd),some (.ref L),some vb,some (.ref b),some (.ref d),some (.ref o3),some vn,some vo] H9 y iC params bd scope N idx ws C Pre)/\qM[j]? =some (wordOf iC) by
      obtain⟨iC,ask,hw⟩:=h
      refine⟨y,iC,rfl,ask,fun gB gP=> ⟨by rw[Zat,ZaU,ZaP];omega,_,rfl,s9.trans gP,?_⟩⟩
      rw[ZbO,hw,ZbC]
      rfl
     match j,cQ,hj with
     |0,cQ,_=>
      cases cQ
      exact⟨0,⟨bJ,_,c1,_,[10,6,11],[vn,vb,vo],aB,_,⟨vN (by kernel_rfl),rfl,vQ DH n6 zM,rfl,xk rfl rfl rfl,Z7 (by kernel_rfl),iF,MB,xb .d hP rfl rfl rfl rfl .d .d .d .d .d .d .d,fun Q' E' hE=> ⟨vn,vb,vo,aB,rfl,.inl (.inl (.inl ⟨rfl,F9.bn⟩)),hE⟩⟩⟩,rfl⟩
     |1,cQ,_=>
      cases cQ
      exact⟨0,⟨bJ,_,c2,_,[10,6],[vn,vb],aB,_,⟨vO (by kernel_rfl),rfl,rV DH n6,rfl,at2 rfl rfl,Z7 (by kernel_rfl),iF,MB,xc (Zae _) hX rfl rfl rfl .d .d .d .d .d,fun Q' E' hE=> ⟨vn,vb,aB,rfl,.inl (.inl ⟨rfl,F9.bn⟩),hE⟩⟩⟩,rfl⟩
     |2,cQ,_=>
      cases cQ
      exact⟨1,⟨bJ,_,c3,_,[7,6,11],[.ref b,vb,vo],aL,_,⟨vN (by kernel_rfl),rfl,vQ n7 n6 zM,rfl,xk rfl rfl rfl,Z7 (by kernel_rfl),iF,ML,xb .d hP rfl rfl rfl rfl .d .d .d .d .d .d .d,fun Q' E' hE=> ⟨.ref b,vb,vo,aL,rfl,.inl (.inl (.inr ⟨rfl,wd,hg,F9.la.bd,F9.b1,F9.b2⟩)),hE⟩⟩⟩,rfl⟩
     |3,cQ,_=>
      cases cQ
      exact⟨1,⟨bJ,_,c4,_,[7,6],[.ref b,vb],aL,_,⟨vO (by kernel_rfl),rfl,rV n7 n6,rfl,at2 rfl rfl,Z7 (by kernel_rfl),iF,ML,xc (Zae _) hX rfl rfl rfl .d .d .d .d .d,fun Q' E' hE=> ⟨.ref b,vb,aL,rfl,.inl (.inr ⟨rfl,wd,hg,F9.la.bd,F9.b1,F9.b2⟩),hE⟩⟩⟩,rfl⟩
     |4,cQ,_=>
      cases cQ
      exact⟨2,⟨bJ,_,c5,_,[7,8,11],[.ref b,.ref d,vo],aN,_,⟨vN (by kernel_rfl),rfl,vQ n7 n8 zM,rfl,xk rfl rfl rfl,Z7 (by kernel_rfl),iF,MN,xb .d hP rfl rfl rfl rfl .d .d .d .d .d .d .d,fun Q' E' hE=> ⟨.ref b,.ref d,vo,aN,rfl,.inl (.inr ⟨rfl,d,ds,wd,hg,rfl,F9.la,F9.po,F9.wo⟩),hE⟩⟩⟩,rfl⟩
     |5,cQ,_=>
      cases cQ
      exact⟨6,⟨bJ,_,c6,_,[9],[.ref o3],aU,_,⟨zN (by kernel_rfl),rfl,zP n9,rfl,Bv rfl,Z7 (by kernel_rfl),iF,MU,Tb (mL:=G.len) rfl (Zae _) hX rfl rfl .d .d .d,⟨o3,L2.upTo n,rfl,F9.lk,fun t H' s' e' Q' E' hE=> ⟨.ref t,.ref o3,aU,rfl,.inr ⟨rfl,(n:Int),12,L2.upTo n,⟨⟨by rw[Zn e',show(L2.upTo n).length=n by unfold L2.upTo;rw[Zat,Zcb]],.o,.o,.d,.d⟩,Zn (s' _ _ F9.lk),(HD n3.1 n3.2).1⟩,(HD n3.1 n3.2).2⟩,hE⟩⟩⟩⟩,rfl⟩
     |j+6,_,h=>omega
    ·rintro zs σ H9 ⟨v0,rfl,s9,rfl⟩ Z hZ
     rw[l8]
     obtain⟨gB,zz,sZ,eZ⟩:=aH (o:=.lst ((qM.take 6).map V.str)) hZ
     rw[zz]
     have qa:∀{H:Hp}{t:Addr} (xs:List V),H t=none->ae H (upd H t (.lst xs))/\upd H t (.lst xs) t=some (.lst xs):=fun x h=> ⟨Zq h,Ze⟩
     refine⟨bZ,fun a1 h1=> ?_⟩
     obtain⟨y1,e1⟩:=qa [V.str "board"] h1
     generalize upd gB a1 (HO.lst [V.str "board"])=G1 at y1 e1
     refine⟨a1,2,_,rfl,rfl,e1,.d,.d,(by show 1*2<=sizeLine;decide),fun a2 h2=> ?_⟩
     obtain⟨y2,e2⟩:=qa [V.str "board",V.str "board"] h2
     change lF _ _ _ _ (upd G1 a2 (.lst [V.str "board",V.str "board"])) _
     generalize upd G1 a2 (HO.lst [V.str "board",V.str "board"])=G2 at y2 e2
     refine⟨bZ,fun a3 h3=> ?_⟩
     obtain⟨y3,e3⟩:=qa [V.str "lay"] h3
     generalize upd G2 a3 (HO.lst [V.str "lay"])=G3 at y3 e3
     refine⟨a3,2,_,rfl,rfl,e3,.d,.d,(by show 1*2<=sizeLine;decide),fun a4 h4=> ?_⟩
     obtain⟨y4,e4⟩:=qa [V.str "lay",V.str "lay"] h4
     refine⟨a2,a4,[V.str "board",V.str "board"],[V.str "lay",V.str "lay"],rfl,rfl,(y3.trans y4) _ _ e2,Ze,(by show 2+2<=sizeLine;decide),fun a5 h5=> ?_⟩
     obtain⟨y5,e5⟩:=qa [V.str "board",V.str "board",V.str "lay",V.str "lay"] h5
     have Cm:=y3.trans (y4.trans y5)
     change ye _ _ (upd _ a5 (.lst [V.str "board",V.str "board",V.str "lay",V.str "lay"])) _
     generalize upd _ a5 (HO.lst [V.str "board",V.str "board",V.str "lay",V.str "lay"])=G5 at Cm e5
     refine⟨aZ,fun a6 h6=> ?_⟩
     obtain⟨y6,e6⟩:=qa [V.str "number",V.str "unlike"] h6
     refine⟨a5,a6,[V.str "board",V.str "board",V.str "lay",V.str "lay"],[V.str "number",V.str "unlike"],rfl,rfl,y6 _ _ e5,Ze,(by show 4+2<=sizeLine;decide),fun a8 h8=> ?_⟩
     have y8:=Zq (o:=.lst (qM.map V.str)) h8
     have yA:=y1.trans (y2.trans (Cm.trans (y6.trans y8)))
     refine⟨Z,a8,qM,rfl,rfl,ag.of (yA _ _ eZ),ag.of Ze,_,rfl,aP (Yb ?_)⟩
     have sE:ae IY _:=s9.trans (sZ.trans yA)
     exact⟨_,_,_,_,_,_,_,_,_,_,_,rfl,(xu.t pA mY zK).same sE⟩
   ·rintro σ H1 _
    have Gu:∀{H:Hp}{t:Addr}{x y:Int},1<=x->x<=12->1<=y->y<=12->H t=some (.tup [V.int x,V.int y])->ck H (.ref t) x y:=fun h1 h2 h3 h4 h=> ⟨Zn h,h1,h2,h3,h4⟩
    have qV:∀{H:Hp}{t:Addr} (xs:List V),H t=none->ae H (upd H t (.tup xs))/\upd H t (.tup xs) t=some (.tup xs):=fun x h=> ⟨Zq h,Ze⟩
    refine⟨aZ,fun t1 h1=> ?_⟩
    obtain⟨y1,e1⟩:=qV [V.int 1,V.int 1] h1
    generalize upd H1 t1 (HO.tup [V.int 1,V.int 1])=G1 at y1 e1
    refine⟨bZ,fun t2 h2=> ?_⟩
    obtain⟨y2,e2⟩:=qV [V.int 0] h2
    generalize upd G1 t2 (HO.tup [V.int 0])=G2 at y2 e2
    refine⟨.ref t1,t2,[V.int 0],1,1,0,rfl,⟨Gu .d .d .d .d (y2 _ _ e1),e2,Of⟩,.d,.d,.d,.d,fun t3 G3 y3 e3=> ?_⟩
    rw[MD]at e3
    refine⟨aZ,fun t4 h4=> ?_⟩
    obtain⟨y4,e4⟩:=qV [V.int 0,V.int 1] h4
    refine⟨t3,t4,[0,1],[0,1],rfl,rfl,ah.of (y4 _ _ e3),ah.of e4,_,rfl,aX ?_⟩
    generalize upd G3 t4 (HO.tup [V.int 0,V.int 1])=G4 at y4 e4
    refine⟨aZ,fun t5 h5=> ?_⟩
    obtain⟨y5,e5⟩:=qV [V.int 1,V.int 1] h5
    generalize upd G4 t5 (HO.tup [V.int 1,V.int 1])=G5 at y5 e5
    refine⟨bZ,fun t6 h6=> ?_⟩
    obtain⟨y6,e6⟩:=qV [V.af] h6
    generalize upd G5 t6 (HO.tup [V.af])=G6 at y6 e6
    refine⟨.ref t5,t6,[V.af],1,1,rfl,⟨Gu .d .d .d .d (y6 _ _ e5),e6,Oe⟩,Kw,.d,.d,fun L G7 y7 _ e7=> ?_⟩
    rw[QS]at e7
    refine⟨qZ,fun t8 h8=> ⟨L,t8,[0,1,2,3],[0,1,2,3],rfl,rfl,ag.of ((Zq h8) _ _ e7),ag.of Ze,q _⟩⟩
  obtain⟨t,ht,hq⟩:=main
  exact⟨t,ht.dg,hq⟩
end
end U
namespace U
open PySem L2 PyProof.Rows PySem.Spec
abbrev A3:List Str:=["isinstance", "int", "bool", "tuple", "list", "len", "all", "set", "range", "max", "min", "enumerate", "zip", "sorted", "dict", "ValueError"]
section
variable {P:Program}{w:World}{K:Zht}{mg:Str->Option Value}{base:Heap}
def Vx {h:Heap}(KX:K.In h) (G:h.Ns mainGlobals mg) (e:A3.all (vH K)=true) (lo0:PySem.W.nsIn K mainGlobals "LONGEST_SIDE" =some (some (.int 12 t0))) (lo1:PySem.W.nsIn K mainGlobals "LAST_CORNER" =some (some (.int 3 t1))):Gs mg/\mg "ValueError" =none:=by
 have k:∀x∈A3,mg x=none:=fun x hx=>Zcz KX G (Zbj.mp e x hx)
 exact⟨⟨k _ (by simp),k _ (by simp),k _ (by simp),k _ (by simp),k _ (by simp),k _ (by simp),k _ (by simp),k _ (by simp),k _ (by simp),k _ (by simp),k _ (by simp),k _ (by simp),k _ (by simp),k _ (by simp),k _ (by simp),⟨t0,Zdc KX G lo0⟩,⟨t1,Zdc KX G lo1⟩⟩,k _ (by simp)⟩
def vT (K:Zht) (C c:Value) (b:Bool):Bool:=match PySem.W.kitOne K C c with |some d=>d==b |none=>false
def GZ (h:vT K C c b=true):PySem.W.kitOne K C c=some b:=by
 unfold vT at h
 split at h
 ·rename_i d q
  rw[q,Zaj.mp h]
 ·cases h
def NW (K:Zht) (C:Addr) (iC:Nat):Bool:=(List.range 15).all fun i=>match PySem.W.nsIn K mainGlobals (DA.getD i "") with |some (some (.ref c))=>vT K (.ref C) (.ref c) (decide (i=iC)) |_=>false
def mroOk (K:Zht) (C:Addr) (b:Value):Bool:=match PySem.W.mroIn K C b with |some d=>d |none=>false
def Ii (h:mroOk K C b=true):PySem.W.mroIn K C b=some true:=by
 unfold mroOk at h
 split at h
 ·rename_i d q
  rw[q,h]
 ·cases h
def Ba (K:Zht) (C c:Value):Bool:=match PySem.W.exmOne K C c with |some d=>d |none=>false
def VZ (h:Ba K C c=true):PySem.W.exmOne K C c=some true:=by
 unfold Ba at h
 split at h
 ·rename_i d q
  rw[q,h]
 ·cases h
def oH (K:Zht) (cS C:Addr) (iC:Nat):Bool:=mroOk K C (.type "object")&&mroOk K C (.type "BaseException")&&(PySem.W.clsIn K C).isSome&&Ba K (.ref C) (.ref cS)&&NW K C iC&&vT K (.ref C) (.type "ValueError") true&&PySem.W.excIn K C tM "ValueError.__new__"
def JF {h:Heap}(KX:K.In h) (G:h.Ns mainGlobals mg) (mv:mg "ValueError" =none) (ms:mg "StepError" =some (.ref cS)) (hi:iC<15) (e:oH K cS C iC=true)
  (ga:PySem.W.findIn K (.ref C) "__getattribute__" =some (some (.builtin "BaseException.__getattribute__"))) (hook:PySem.W.findIn K (.ref C) "__getattr__" =some none) (cl:PySem.W.findIn K (.ref C) "__class__" =some (some (.builtin "object.__class__"))):il K mg cS C iC/\PySem.W.excIn K C tM "ValueError.__new__" =true:=by
 unfold oH at e
 simp only[ZaR]at e
 obtain⟨⟨⟨⟨⟨⟨e1,e2⟩,e3⟩,e4⟩,e5⟩,e6⟩,e7⟩:=e
 refine⟨⟨⟨ga,hook,cl,Ii e1,Ii e2,e3⟩,ms,VZ e4,fun i hi=> ?_,mv,GZ e6,hi⟩,e7⟩
 have:=Zbj.mp e5 i (Zbt.mpr hi)
 split at this
 ·rename_i c q
  exact⟨c,Zdc KX G q,GZ this⟩
 ·cases this
set_option maxHeartbeats 4000000 in
def Og {fR cR PR:Addr}{Nk:Value}{Ni Tj:Option Addr}{Om So MO SV:Value}{MV:Array (Option Value)}{h:Heap}{fa c Pt f cS aB aL aN aU aM:Addr}{oc:Value}{od an:Option Addr}{kV doc pm ct:Value}{fm:Array (Option Value)}{t0 t1:Tok}(KX:K.In h) (G:h.Ns mainGlobals mg) (hmg:mg "law" =some (.ref fa)) (nR:PR≠Pt)
  (d0:bB K "is_whole" yV) (d1:bB K "is_whole_within" yT) (d2:bB K "need_whole_within" vd) (d3:bB K "is_tuple_of" yW) (d4:bB K "is_board" zj) (d5:bB K "need_board" vc) (d6:bB K "need_at_most" S.vg) (d7:bB K "is_lay" vh) (d8:bB K "need_lay" lJ) (d9:bB K "points" S.u7) (Ge:bB K "point_pairs" S.u9) (Gd:bB K "steps" S.u5) (Gb:bB K "first_like" S.vm) (Ga:bB K "is_unlike" S.uZ) (F8:bB K "need_unlike" S.ve) (F7:bB K "need_corner" vf) (SM:bB K "corner_point" zi) (SK:bB K "grown" ze) (F6:bB K "put_to" u6) (Bj:bB K "good_corners" rK) (SJ:bB K "_law_cell_at" zh) (SF:bB K "_law_state" yY) (SE:bB K "_law_take" yX) (F5:bB K "_law_word" yS) (SD:bB K "_law_steps" S.zb) (Sz:bB K "_law_unlike" S.vi) (Sy:bB K "_law_lay" zc) (Sx:bB K "_law_grown" S.zf) (Sw:bB K "_law_no_board" pM) (Sv:bB K "_law_no_lay" za) (Su:bB K "_law_no_number" y9) (w9:bB K "_law_same" pL) (Ss:bB K "_law_corner" zd) (Sr:bB K "_law_due" zg) (Sq:bB K "_law_right" yZ)
  (r1R:PySem.W.nsIn K mainGlobals "_law_great_right" =some (some (.ref fR))) (r2R:K.lookup fR=some ⟨Nk,Ni,.func (PySem.W.fnOf "_law_great_right" "_law_great_right" (fS eP) (dB eP) (ay eP) .none Om So MO Tj (.ref cR) SV),MV⟩) (r3R:PySem.W.codeIn K (.ref cR) "_law_great_right" =true) (r4R:PySem.W.codeHdIn K cR PR=true) (r5R:PySem.W.keepIn K (.ref fR)=true)
  (l1:PySem.W.nsIn K mainGlobals "law" =some (some (.ref f))) (l2:K.lookup f=some ⟨oc,od,.func (PySem.W.fnOf "law" "law" (fS df) (dB df) (ay df) .none kV doc pm an (.ref c) ct),fm⟩) (l3:PySem.W.codeIn K (.ref c) "law" =true) (l4:PySem.W.codeHdIn K c Pt=true)
  (g1:A3.all (vH K)=true) (lo0:PySem.W.nsIn K mainGlobals "LONGEST_SIDE" =some (some (.int 12 t0))) (lo1:PySem.W.nsIn K mainGlobals "LAST_CORNER" =some (some (.int 3 t1)))
  (eB:PySem.W.nsIn K mainGlobals "NoBoard" =some (some (.ref aB))) (eL:PySem.W.nsIn K mainGlobals "NoLay" =some (some (.ref aL))) (eN:PySem.W.nsIn K mainGlobals "NoNumber" =some (some (.ref aN))) (eU:PySem.W.nsIn K mainGlobals "NoUnlike" =some (some (.ref aU))) (eM:PySem.W.nsIn K mainGlobals "TooMany" =some (some (.ref aM))) (eS:PySem.W.nsIn K mainGlobals "StepError" =some (some (.ref cS)))
  (xB:oH K cS aB 0=true) (xL:oH K cS aL 1=true) (xN:oH K cS aN 2=true) (xU:oH K cS aU 6=true) (xM:oH K cS aM 11=true)
  (gaB:PySem.W.findIn K (.ref aB) "__getattribute__" =some (some (.builtin "BaseException.__getattribute__"))) (hoB:PySem.W.findIn K (.ref aB) "__getattr__" =some none) (clB:PySem.W.findIn K (.ref aB) "__class__" =some (some (.builtin "object.__class__")))
  (gaL:PySem.W.findIn K (.ref aL) "__getattribute__" =some (some (.builtin "BaseException.__getattribute__"))) (hoL:PySem.W.findIn K (.ref aL) "__getattr__" =some none) (clL:PySem.W.findIn K (.ref aL) "__class__" =some (some (.builtin "object.__class__")))
  (gaN:PySem.W.findIn K (.ref aN) "__getattribute__" =some (some (.builtin "BaseException.__getattribute__"))) (hoN:PySem.W.findIn K (.ref aN) "__getattr__" =some none) (clN:PySem.W.findIn K (.ref aN) "__class__" =some (some (.builtin "object.__class__")))
  (gaU:PySem.W.findIn K (.ref aU) "__getattribute__" =some (some (.builtin "BaseException.__getattribute__"))) (hoU:PySem.W.findIn K (.ref aU) "__getattr__" =some none) (clU:PySem.W.findIn K (.ref aU) "__class__" =some (some (.builtin "object.__class__")))
  (gaM:PySem.W.findIn K (.ref aM) "__getattribute__" =some (some (.builtin "BaseException.__getattribute__"))) (hoM:PySem.W.findIn K (.ref aM) "__getattr__" =some none) (clM:PySem.W.findIn K (.ref aM) "__class__" =some (some (.builtin "object.__class__"))):
  ∃fd:FuncData,(∀(s:Shared) (u:Value),BindsTo s fd ⟨[u],[]⟩ [("_law_script",u)])/\∀base:Heap,K.In base->base.Ns mainGlobals mg->ue mg base->aA P w K mg base aE 17 fa fd ["_law_script"] (yD K PR Pt):=by
 have e0:=hmg.symm.trans (Zdc KX G l1)
 cases e0
 obtain⟨gs,mv⟩:=Vx KX G g1 lo0 lo1
 have ms:=Zdc KX G eS
 obtain⟨MB,yB⟩:=JF KX G mv ms (by decide:0<15) xB gaB hoB clB
 have Bc:Exc K mg "NoBoard" aB:=⟨Zdc KX G eB,yB⟩
 obtain⟨ML,yL⟩:=JF KX G mv ms (by decide:1<15) xL gaL hoL clL
 have Bb:Exc K mg "NoLay" aL:=⟨Zdc KX G eL,yL⟩
 obtain⟨MN,yN⟩:=JF KX G mv ms (by decide:2<15) xN gaN hoN clN
 have RA:Exc K mg "NoNumber" aN:=⟨Zdc KX G eN,yN⟩
 obtain⟨MU,yU⟩:=JF KX G mv ms (by decide:6<15) xU gaU hoU clU
 have Rz:Exc K mg "NoUnlike" aU:=⟨Zdc KX G eU,yU⟩
 obtain⟨MM,yM⟩:=JF KX G mv ms (by decide:11<15) xM gaM hoM clM
 have RB:Exc K mg "TooMany" aM:=⟨Zdc KX G eM,yM⟩
 have Ry:S.Ke K mg aB aL:=⟨Bc.m,Bc.x,Bb.m,Bb.x⟩
 obtain⟨tkc,Fj⟩:=gs.last
 refine⟨PySem.W.fnOf "law" "law" (fS df) (dB df) (ay df) .none kV doc pm an (.ref c) ct,fun s u=> .of_eq rfl,fun base kb nb bm=> ?_⟩
 have good:∀b':Heap,(Def P w K mg b' 8 "put_to" ["board", "lay", "corner"] (pE K)/\aY P w K mg b' 8 "put_to" ["board", "lay", "corner"] (pD K aB aL aN aM))/\(Def P w K mg b' 13 "good_corners" ["board", "lay"] (rp K)/\aY P w K mg b' 13 "good_corners" ["board", "lay"] (S.jF K aB aL aU)/\aY P w K mg b' 13 "good_corners" ["board", "lay"] (uR K aM)):=fun b'=>by
  have D0:Def P w K mg b' 1 "is_whole" ["thing"] (yh K):=d0.to KX G (b1 fun _ _ _ _ _ _ _=>rfl) fun f fd F=>ZdB F gs
  have D1:Def P w K mg b' 2 "is_whole_within" ["thing", "least", "most"] (pB K):=d1.to KX G (b3 fun _ _ _ _ _ _ _ _ _=>rfl) fun f fd F=>Zcw F D0
  have D2:Def P w K mg b' 3 "need_whole_within" ["number", "least", "most"] (yu K):=d2.to KX G (b3 fun _ _ _ _ _ _ _ _ _=>rfl) fun f fd F=>Tw F D1
  have D3:Def P w K mg b' 1 "is_tuple_of" ["thing", "many"] (uM K):=d3.to KX G (b2 fun _ _ _ _ _ _ _ _=>rfl) fun f fd F=>ZdC F gs
  have D4:Def P w K mg b' 3 "is_board" ["thing"] (uS K):=d4.to KX G (b1 fun _ _ _ _ _ _ _=>rfl) fun f fd F=>X9 F gs D3 D1
  have D5:Def P w K mg b' 4 "need_board" ["board"] (yr K):=d5.to KX G (b1 fun _ _ _ _ _ _ _=>rfl) fun f fd F=>U3 F D4
  have D6:Def P w K mg b' 5 "is_lay" ["board", "thing"] (pF K):=d7.to KX G (b2 fun _ _ _ _ _ _ _ _=>rfl) fun f fd F=>Vv F gs D5 D3 D1
  have D7:Def P w K mg b' 6 "need_lay" ["board", "lay"] S.lG:=d8.to KX G (b2 fun _ _ _ _ _ _ _ _=>rfl) fun f fd F=>S.zD F D6
  have Kh:Def P w K mg b' 6 "need_lay" ["board", "lay"] (lG K):=d8.to KX G (b2 fun _ _ _ _ _ _ _ _=>rfl) fun f fd F=>zD F D6
  have D8:Def P w K mg b' 7 "points" ["board", "lay"] S.yn:=d9.to KX G (b2 fun _ _ _ _ _ _ _ _=>rfl) fun f fd F=>S.M4 F gs D7
  have D9:Def P w K mg b' 8 "point_pairs" ["board", "lay"] S.yo:=Ge.to KX G (b2 fun _ _ _ _ _ _ _ _=>rfl) fun f fd F=>S.M6 F D8
  have D10:Def P w K mg b' 9 "steps" ["board", "lay"] S.yk:=Gd.to KX G (b2 fun _ _ _ _ _ _ _ _=>rfl) fun f fd F=>S.M0 F gs D9
  have D11:Def P w K mg b' 10 "first_like" ["board", "lay"] S.yI:=Gb.to KX G (b2 fun _ _ _ _ _ _ _ _=>rfl) fun f fd F=>S.Nh F gs D10
  have xJ:Def P w K mg b' 11 "is_unlike" ["board", "lay"] S.pC:=Ga.to KX G (b2 fun _ _ _ _ _ _ _ _=>rfl) fun f fd F=>S.MY F D11
  have Kk:Def P w K mg b' 12 "need_unlike" ["board", "lay"] S.uN:=F8.to KX G (b2 fun _ _ _ _ _ _ _ _=>rfl) fun f fd F=>S.M8 F xJ
  have Da:Def P w K mg b' 1 "need_at_most" ["board", "wide", "high"] S.yC:=d6.to KX G (b3 fun _ _ _ _ _ _ _ _ _=>rfl) fun f fd F=>S.Na F
  have Kj:Def P w K mg b' 7 "need_corner" ["board", "lay", "corner"] (uO K):=F7.to KX G (b3 fun _ _ _ _ _ _ _ _ _=>rfl) fun f fd F=>T6 Fj F Kh D2
  have D16:Def P w K mg b' 1 "corner_point" ["board", "corner"] (yO K):=SM.to KX G (b2 fun _ _ _ _ _ _ _ _=>rfl) fun f fd F=>Vz F
  have Cb:Def P w K mg b' 1 "grown" ["board"] rn:=SK.to KX G (b1 fun _ _ _ _ _ _ _=>rfl) fun f fd F=>VB F
  have Ki:Def P w K mg b' 8 "put_to" ["board", "lay", "corner"] (pE K):=F6.to KX G (b3 fun _ _ _ _ _ _ _ _ _=>rfl) fun f fd F=>T8 F gs Kj Da Cb D16
  have D19:Def P w K mg b' 13 "good_corners" ["board", "lay"] (rp K):=Bj.to KX G (b2 fun _ _ _ _ _ _ _ _=>rfl) fun f fd F=>VC F gs Kk xJ Cb Ki
  have R5:aY P w K mg b' 4 "need_board" ["board"] (yy K aB):=d5.fL KX G (b1 fun _ _ _ _ _ _ _=>rfl) fun f fd F=>W3 F gs Bc D4
  have R6:aY P w K mg b' 5 "is_lay" ["board", "thing"] (uP K aB):=d7.fL KX G (b2 fun _ _ _ _ _ _ _ _=>rfl) fun f fd F=>V9 F R5
  have R7:aY P w K mg b' 6 "need_lay" ["board", "lay"] (yv K aB aL):=d8.fL KX G (b2 fun _ _ _ _ _ _ _ _=>rfl) fun f fd F=>zC F Bb D6 R6
  have R7s:aY P w K mg b' 6 "need_lay" ["board", "lay"] (S.eO K aB aL):=d8.fL KX G (b2 fun _ _ _ _ _ _ _ _=>rfl) fun f fd F=>S.zC F Ry R6 D6
  have R2:aY P w K mg b' 3 "need_whole_within" ["number", "least", "most"] (yt K aN):=d2.fL KX G (b3 fun _ _ _ _ _ _ _ _ _=>rfl) fun f fd F=>Xa F RA D1
  have Ra:aY P w K mg b' 1 "need_at_most" ["board", "wide", "high"] (S.yz aM):=d6.fL KX G (b3 fun _ _ _ _ _ _ _ _ _=>rfl) fun f fd F=>S.M9 F RB
  have R8:aY P w K mg b' 7 "points" ["board", "lay"] (S.eO K aB aL):=d9.fL KX G (b2 fun _ _ _ _ _ _ _ _=>rfl) fun f fd F=>S.M3 F R7s
  have R9:aY P w K mg b' 8 "point_pairs" ["board", "lay"] (S.eO K aB aL):=Ge.fL KX G (b2 fun _ _ _ _ _ _ _ _=>rfl) fun f fd F=>S.M5 F R8
  have R10:aY P w K mg b' 9 "steps" ["board", "lay"] (S.eO K aB aL):=Gd.fL KX G (b2 fun _ _ _ _ _ _ _ _=>rfl) fun f fd F=>S.MZ F gs R9
  have R11:aY P w K mg b' 10 "first_like" ["board", "lay"] (S.eO K aB aL):=Gb.fL KX G (b2 fun _ _ _ _ _ _ _ _=>rfl) fun f fd F=>S.Ng F R10
  have R12:aY P w K mg b' 11 "is_unlike" ["board", "lay"] (S.eO K aB aL):=Ga.fL KX G (b2 fun _ _ _ _ _ _ _ _=>rfl) fun f fd F=>S.MX F R11
  have R13:aY P w K mg b' 12 "need_unlike" ["board", "lay"] (S.jF K aB aL aU):=F8.fL KX G (b2 fun _ _ _ _ _ _ _ _=>rfl) fun f fd F=>S.M7 F Rz xJ R12
  have R15:aY P w K mg b' 7 "need_corner" ["board", "lay", "corner"] (yx K aB aL aN):=F7.fL KX G (b3 fun _ _ _ _ _ _ _ _ _=>rfl) fun f fd F=>Tt Fj F Kh R7 R2
  have IQ:aY P w K mg b' 8 "put_to" ["board", "lay", "corner"] (pD K aB aL aN aM):=F6.fL KX G (b3 fun _ _ _ _ _ _ _ _ _=>rfl) fun f fd F=>Tx F gs Kj R15 Ra
  have R19:aY P w K mg b' 13 "good_corners" ["board", "lay"] (S.jF K aB aL aU):=Bj.fL KX G (b2 fun _ _ _ _ _ _ _ _=>rfl) fun f fd F=>S.Nf F R13
  have aad:aY P w K mg b' 13 "good_corners" ["board", "lay"] (uR K aM):=Bj.fL KX G (b2 fun _ _ _ _ _ _ _ _=>rfl) fun f fd F=>Vt F gs Kk xJ Cb IQ
  exact⟨⟨Ki,IQ⟩,D19,R19,aad⟩
 have hR:∀b':Heap,Def P w K mg b' 15 "_law_word" ["_law_call"] (ng P w K mg b' cS 14):=fun b'=>F5.to KX G (b1 fun _ _ _ _ _ _ _=>rfl) fun f fd F=>Xc F gs
 have E1:Def P w K mg base 1 "_law_cell_at" ["_law_script", "_law_k"] (yK K):=SJ.to KX G (b2 fun _ _ _ _ _ _ _ _=>rfl) fun f fd F=>V8 F gs
 have E2:Def P w K mg base 2 "_law_state" ["_law_script", "_law_k"] (yl K):=SF.to KX G (b2 fun _ _ _ _ _ _ _ _=>rfl) fun f fd F=>ZdD F gs E1
 have E3:Def P w K mg base 1 "_law_take" ["_law_state_here", "_law_many"] ki:=SE.to KX G (b2 fun _ _ _ _ _ _ _ _=>rfl) fun f fd F=>Xb F
 have E4:Def P w K mg base 2 "_law_no_board" ["_law_state_here"] (yq K):=Sw.to KX G (b1 fun _ _ _ _ _ _ _=>rfl) fun f fd F=>Tu F E3
 have E5:Def P w K mg base 2 "_law_no_number" ["_law_state_here", "_law_low", "_law_high"] (yp K):=Su.to KX G (b3 fun _ _ _ _ _ _ _ _ _=>rfl) fun f fd F=>Tv F E3
 have E6:Def P w K mg base 2 "_law_no_lay" ["_law_state_here", "_law_board", "_law_lay_here"] (yw K):=Sv.to KX G (b3 fun _ _ _ _ _ _ _ _ _=>rfl) fun f fd F=>T7 F gs E3
 have E7:Def P w K mg base 1 "_law_steps" ["_law_lay_here"] S.yE:=SD.to KX G (b1 fun _ _ _ _ _ _ _=>rfl) fun f fd F=>S.Nc F gs
 have E8:Def P w K mg base 2 "_law_unlike" ["_law_lay_here"] S.rm:=Sz.to KX G (b1 fun _ _ _ _ _ _ _=>rfl) fun f fd F=>S.Nb F gs E7
 have E9:Def P w K mg base 3 "_law_grown" ["_law_state_here", "_law_board", "_law_bare"] S.uQ:=Sx.to KX G (b3 fun _ _ _ _ _ _ _ _ _=>rfl) fun f fd F=>S.Nd F gs E3 E8
 have E10:Def P w K mg base 2 "_law_lay" ["_law_state_here", "_law_board"] (yF K):=Sy.to KX G (b2 fun _ _ _ _ _ _ _ _=>rfl) fun f fd F=>VF F gs E3
 have E11:Def P w K mg base 1 "_law_corner" ["_law_board", "_law_corner_here"] (yG K):=Ss.to KX G (b2 fun _ _ _ _ _ _ _ _=>rfl) fun f fd F=>VE F
 have E12:Def P w K mg base 2 "_law_due" ["_law_board", "_law_lay_here", "_law_corner_here"] (yJ K):=Sr.to KX G (b3 fun _ _ _ _ _ _ _ _ _=>rfl) fun f fd F=>VA F gs E11
 have S0:Def P w K mg base 1 "_law_same" ["_law_found", "_law_due_here"] (ir R0):=w9.to KX G (b2 fun _ _ _ _ _ _ _ _=>rfl) fun f fd F=>ZdF F gs
 have S1:Def P w K mg base 1 "_law_same" ["_law_found", "_law_due_here"] (ir R1):=w9.to KX G (b2 fun _ _ _ _ _ _ _ _=>rfl) fun f fd F=>ZdE F gs
 have S2:Def P w K mg base 2 "_law_same" ["_law_found", "_law_due_here"] (ir (BQ R1)):=w9.to KX G (b2 fun _ _ _ _ _ _ _ _=>rfl) fun f fd F=>Zcx (R:=R1) (fun r s=>R1.same r s) F gs S1
 have S3:Def P w K mg base 2 "_law_same" ["_law_found", "_law_due_here"] (ir (BR R0)):=w9.to KX G (b2 fun _ _ _ _ _ _ _ _=>rfl) fun f fd F=>Zcy (R:=R0) (fun r s=>R0.same r s) F gs S0
 have E13:Def P w K mg base 14 "_law_right" ["_law_board", "_law_drawn", "_law_lay_here"] (ym K):=Sq.to KX G (b3 fun _ _ _ _ _ _ _ _ _=>rfl) fun f fd F=>T9 F gs (good base).1.1 E12 E8 (good base).2.1 S2 S3
 obtain⟨fW,FD,Sg,FR⟩:=id F5
 have mW:=Zdc KX G Sg
 have E14:Def P w K mg base 16 "_law_great_right" ["_law_state_here", "_law_great", "_law_odd"] (yH K PR):=⟨fR,_,VD (aU:=aU) r2R r3R E3 E9 hR (fun b'=> (good b').1.2) (fun b'=> (good b').2.2.1) (fun b'=> (good b').2.2.2) mW FR.kp ML MN MM (Zg2 kb r4R) bm,Zdc KX G r1R,r5R,(GY r2R r3R r5R).binds (b3 fun _ _ _ _ _ _ _ _ _=>rfl)⟩
 exact Vu nR l2 l3 gs E2 E3 E10 E9 E5 E13 E14 E8 E4 E6 (good base).1.1 (good base).2.1 hR (fun b'=> (good b').1.2) (fun b'=> (good b').2.2.1) mW FR.kp MB ML MN MU (Zg2 kb l4) bm
end
end U
inductive PySem.W.Fast:Prop|tw13672342745342944288|tw4534934836204521536|tw16040373242084589696|tw4523474631715735744|tw6645843568127803648|tw16938053096599442688|tw13275524421043612000|tw16252328022250138016|tw7838647832409203264|tw13171349987596980800|tw2843277803685320288|tw9045323707784563392|tw10137925312939696896|tw17131520567648761696|tw18239844318669908960|tw13471114000484857857|tw17732298776923411521|tw17321102580852487265|tw7163404149715717345|tw17534361741932713281|tw18083434298255148449|tw865337291899118049|tw16314189085444739873|tw8004834790909569857|tw2630632019188229985|tw8340785278522071969|tw3527657713884295202|tw9891558763002736706|tw18240793700588251394|tw15356923813451562274|tw17727406415261981986|tw552594425373238594|tw6451228529099669922|tw16001931456599348642|tw616113991649980834|tw10707449156972675618|tw3153904169358311010|tw57898696744027746|tw4952257996969002690|tw11048325672411761346|tw90399907357622018|tw5828539963929899778|tw13856049594731814690|tw5781945007574117154|tw17174258488186499874|tw16289193475950866274|tw2363318533340689378|tw8004162740584403139|tw6362051659972354307|tw11035680005056002371|tw8505795160825347427|tw16342325192368289155|tw7922588532636642755|tw17354883850726963683|tw4756630537393318499|tw13883735694650696419|tw9895696626669545187|tw10330396309780641603|tw16123649052607551299|tw8866958670285840291|tw3241912284508848228|tw17184146989183167716|tw13815842418055347428|tw2763039620345837956|tw17848999817585042916|tw7803147472328028740|tw16753364704776706724|tw3568867637181064036|tw13851833260774894468|tw17565588730382822340|tw17463894156554643396|tw13935079368145730565|tw17579741647123427365|tw13845989522020251845|tw7269736408104221893|tw18066331439202634277|tw11510614563495894597|tw2568427844060810981|tw2714992054568533893|tw5200723083278319525|tw3189923712062557190|tw11551113444735182854|tw6217958229441414214|tw7680703647008507974|tw14055271045795357798|tw11818410299787543814|tw2555224250485253478|tw154410185111184806|tw2825868188016334246|tw8422884328872996518|tw4337942714955038438|tw17552822071049755462|tw12072064682696777574|tw4624115184539677606|tw7545264773256895527|tw12384957766101772327|tw16428318000197163079|tw16155611790601611431|tw16139173167573013735|tw17445359081549485319|tw564399977278668039|tw17050277672328235303|tw1519173087788597607|tw16694988706885560743|tw11834272902391782919|tw8760055593327191655|tw5324820307449388743|tw14744511361689763623|tw15027449676526667655|tw4502582169443126280|tw4143861621517765672|tw18348102053333296232|tw10887109096370724008|tw18442604194570039496|tw4857375528230846760|tw3149782413938145608|tw9183701731020214600|tw7681861546329907560|tw13696634748615350696|tw11722950446543124968|tw11921986614458803688|tw9284588808395399752|tw5580535189487099496|tw18018256987220780776|tw9027669662852080424|tw11853805628925816680|tw17498050166960064424|tw2816088595442284456|tw8645275368335085512|tw4708277705734201320|tw15316900613231428617|tw221865139666667593|tw10114042302980315401|tw11494641769955761609|tw17353717004509467081|tw12593287075626200585|tw7331562650266816105|tw1869982915274591977|tw7923801555841588041|tw15055488267674760137|tw13744474347255727081|tw1919158068834849066|tw5523326258953577834|tw14787941476911256938|tw15108953432601430410|tw10657157588380140202|tw12690017586675760842|tw9667463736880713482|tw5978945931504083850|tw8988528740691052458|tw13364730046945927146|tw15540606191963865066|tw15047662527815904267|tw8981764414941696043|tw17754419988714888299|tw5531728709465390219|tw17151379534061396139|tw3797779752230971595|tw6294957788785051979|tw4256837257714103627|tw18357203163753486795|tw13961861788541961707|tw2064432419031836203|tw9246883612320975531|tw11659276191479080651|tw4907179422822156011|tw12230526849565290251|tw1010628485663200043|tw15715812444356663115|tw10660347914533987211|tw2192170204081691595|tw1200835315176668139|tw11120771322616162316|tw2685120902599235660|tw2922386806390901068|tw10515907503943145868|tw6702685439380718028|tw5064242529869544044|tw4930765085656560268|tw4178345981754357484|tw4026008465944015596|tw12392919422251777996|tw817358381653202924|tw8557753903632800813|tw6510862664121949261|tw8368942243943775373|tw11966338616950433965|tw17041974384082361581|tw12448237106156685581|tw9201544543050912013|tw5456476928409618733|tw17759556447463268781|tw11079630325163190701|tw3978282553898551757|tw18440468935187367405|tw7346471882588894765|tw9013458147443468973|tw15512343655072824077|tw7606837690425886541|tw8791105644506584078|tw14324825379747670222|tw14288861480587412718|tw3734051010188478830|tw18036080758180883822|tw6657975618538655214|tw14352694919235268078|tw13971231403954217582|tw17185068995989416590|tw7912222688676898446|tw5244863979653640878|tw4470268460092385998|tw5026142275975790382|tw9327303520649449294|tw12835902787353902926|tw4511545695221564302|tw4367797271424169902|tw16545608057064774703|tw10535766476362105007|tw14046567851891827919|tw7325954872068044015|tw11831814054096296271|tw13515902939402051951|tw17271155629345346959|tw14097935074222910991|tw4665798686370792015|tw7069302512201428591|tw2448915745829705487|tw2366236501315685167|tw14219654648514845583|tw5977633084277092303|tw8183511068747685871|tw5126069029988907088|tw16054406510089868400|tw15024962966176259280|tw11484829831233366416|tw5715363356791613872|tw9838792010176981456|tw16160396005664113168|tw4937458810949523120|tw9779745224954058576|tw2854055821629358000|tw12619139361978908592|tw18076712618764227568|tw11670461563083007057|tw7467655391986479313|tw14715586871968883921|tw13006763702869105073|tw12550862350944520689|tw15368116407012111889|tw2369777256886702769|tw14531953529218054833|tw12074116170021048017|tw13520495490393988945|tw9172251241337203569|tw1961872036898536337|tw10578246280966666129|tw11869338283614399441|tw2642323284506651666|tw15522596618078254098|tw3909818284825412082|tw4673369817983286802|tw15849956413775855282|tw5188300715274100498|tw13303797867378624627|tw17970765164628060307|tw8769433930179092851|tw1120334966343750035|tw13926942396678221235|tw14007728517349242323|tw1831860864061604307|tw13092546355517573651|tw6017320513564230291|tw17203828178503500467|tw7350569452643161811|tw6475472877232019347|tw7014092337061620691|tw14001722880292489268|tw14179103736428475668|tw17955518069472428372|tw4070330561561515412|tw7230925070694860212|tw7587495574006985140|tw15074760141415650772|tw11659698309348286964|tw16951628721265272404|tw5506039550548891220|tw4224084292039684820|tw1441012043654441780|tw16893762655527052148|tw15192156059969433460|tw14315183615201256436|tw15577852185023203445|tw15389009459423646837|tw10694770618544672949|tw3910785333276505429|tw16973136056942550389|tw12950492685197187477|tw11501239880940626357|tw12929747751245528629|tw13504761439508445077|tw16637420052115853269|tw16241153214458149877|tw1144790580557924374|tw10493705120726645814|tw15434153585263775798|tw16713517693300743350|tw8724637198926083286|tw12984455957167257814|tw1855874717800497430|tw6307582338990405910|tw17606815237750033686|tw8618276488185568598|tw8664240988763645270|tw1369712901460274550|tw17469891820121995670|tw17674904486105943542|tw16812531455043836406|tw4656875873465052662|tw3043251805753825846|tw13022384186217761366|tw12296525201690651222|tw12947843589496598198|tw8156277533968921302|tw13873564022509409046|tw6522133221289558966|tw13582407348657327030|tw17343424282914127798|tw11981049576828950486|tw16567269578721173527|tw11468300688751988823|tw3322581399753987191|tw4229791484672444631|tw8098027948087371991|tw15529326584931151095|tw10634737873122298327|tw5470527052729579031|tw8280221689289524823|tw325071654681228919|tw18212384128327854807|tw3320255763016266455|tw4934108687840030455|tw15935611162528419607|tw8459149587893636951|tw16372381401011794807|tw14937293806622103415|tw6315390545485050839|tw11893285327139627991|tw14256013123837613272|tw8673962471797093720|tw15304316631079550456|tw9820229147416558232|tw7290252979316413112|tw3662960713962116920|tw4009503725001541496|tw9927921485604251544|tw13114658210885196728|tw8300744659030497208|tw14376238183856542680|tw17267625328998420440|tw2269546670627082232|tw3028295046911827001|tw15195475782768983129|tw17272148195880977625|tw15498612315492484313|tw13962952277408662841|tw5257400716544407865|tw9842491485536867929|tw16722752619875367577|tw3022864160911115065|tw7115162127753530297|tw8031470941945560025|tw3065914118754213849|tw15668601113620838682|tw6177802555704113466|tw1445961563693555130|tw2089265442537963002|tw6784116439481363066|tw8257930503050088346|tw17801536906827966394|tw3923986459639400410|tw11029566135858448443|tw2351908792547025019|tw12755314035544962267|tw13456720757275229403|tw17847789811652136219|tw218703644621008411|tw13713736274341658203|tw13459832634146656923|tw7762643025004213947|tw13491933748230437563|tw13558927597315803899|tw10269886607655245595|tw339071966890215195|tw13220159972134293371|tw15662934076281143163|tw11009958730713711483|tw2077132555177479067|tw5766184184924152763|tw13355961600110944540|tw254807877489625436|tw17606005989762213244|tw3012060314560378236|tw10614962720159004124|tw17341422377473871388|tw11399291863549563452|tw6157801744192964188|tw15182246712993514140|tw15374283787508798332|tw15577746665193806909|tw9961583589721320509|tw7379531861223868573|tw9664519918957591741|tw14817792381725125949|tw950785764308058461|tw9204851915577214301|tw11942244580648251965|tw17877211774788687453|tw12639321818198018717|tw8562559112341939901|tw16864488853556122333|tw17921687123954361341|tw9695202537372125214|tw5831367224595947614|tw15529157316453170302|tw322314303055386782|tw11319716595118260414|tw14911781342620006590|tw9063690138005316862|tw10802845076130218366|tw15902835201015265726|tw962676620252291550|tw7632198696903749150|tw10165827392189022782|tw7281240811516166718|tw8595187939462300254|tw16219885933102320254|tw2324086670438207134|tw5892288323080015518|tw7406174704704871102|tw6098407058377695038|tw5026634279064120254|tw10491370639364329503|tw7552782463718187135|tw5587015361255951519|tw13016061042514547967|tw11707449533388567839|tw16246294710427435295|tw6473125034923655711|tw7849893787847297567|tw3995769802235610687|tw6203149119662292639|tw15941576013407356575|tw2179437204133878591|tw3315660395637877631|tw8387577502619580687
set_option maxRecDepth 100000 in
set_option maxHeartbeats 0 in
theorem PySem.Challenge.cw_unlikesteps_k71_corners_put_to_holds : PySem.Challenge.rw_unlikesteps_k71_corners_put_to.Holds := by
 w_on; o_law; k_head; (case hw => w_witness2)
 k_fill
 refine U.Kt (l := PySem.Challenge.rw_unlikesteps_k71_corners_put_to) (n := 63) (k := 17) (x := "_law_script") (Pts := [433, 438]) (sp := fun K => U.yD K 433 438) rfl .d rfl ⟨rfl, by decide, by decide, rfl⟩ (fun w h Y => PySem.W.km_in_of Y) ?hT9 ?hC9 ?hN9 ?F ?S
 case hT9 =>
  intro w h Y P hP
  simp only [List.mem_cons, List.not_mem_nil, or_false] at hP
  rcases hP with rfl | rfl
  ·exact PySem.W.km_tabs_of Y 433 (by simp)
  ·exact PySem.W.km_tabs_of Y 438 (by simp)
 case hC9 =>
  intro w h X P hP
  simp only [List.mem_cons, List.not_mem_nil, or_false] at hP
  rcases hP with rfl | rfl
  ·exact ⟨435, PySem.W.codeHd_of_K X (by kernel_rfl)⟩
  ·exact ⟨440, PySem.W.codeHd_of_K X (by kernel_rfl)⟩
 case hN9 =>
  intro w P hP
  simp only [List.mem_cons, List.not_mem_nil, or_false] at hP
  rcases hP with rfl | rfl
  ·kernel_rfl
  ·kernel_rfl
 case S => exact fun K H a ns hl hs hp => ⟨a, ns, rfl, hs, hl, hp, fun _ => rfl⟩
 case F =>
  intro w mg fa h KX G hmg
  refine' U.Og (cR := 435) (PR := 433) (c := 440) (Pt := 438) KX G hmg .d (U.bP ?a0 ?b0 ?c0 ?e0) (U.bP ?a1 ?b1 ?c1 ?e1) (U.bP ?a2 ?b2 ?c2 ?e2) (U.bP ?a3 ?b3 ?c3 ?e3) (U.bP ?a4 ?b4 ?c4 ?e4) (U.bP ?a5 ?b5 ?c5 ?e5) (U.bP ?a6 ?b6 ?c6 ?e6) (U.bP ?a7 ?b7 ?c7 ?e7) (U.bP ?a8 ?b8 ?c8 ?e8) (U.bP ?a9 ?b9 ?c9 ?e9) (U.bP ?a10 ?b10 ?c10 ?e10) (U.bP ?a11 ?b11 ?c11 ?e11) (U.bP ?a12 ?b12 ?c12 ?e12) (U.bP ?a13 ?b13 ?c13 ?e13) (U.bP ?a14 ?b14 ?c14 ?e14) (U.bP ?a15 ?b15 ?c15 ?e15) (U.bP ?a16 ?b16 ?c16 ?e16) (U.bP ?a17 ?b17 ?c17 ?e17) (U.bP ?a18 ?b18 ?c18 ?e18) (U.bP ?a19 ?b19 ?c19 ?e19) (U.bP ?a20 ?b20 ?c20 ?e20) (U.bP ?a21 ?b21 ?c21 ?e21) (U.bP ?a22 ?b22 ?c22 ?e22) (U.bP ?a23 ?b23 ?c23 ?e23) (U.bP ?a24 ?b24 ?c24 ?e24) (U.bP ?a25 ?b25 ?c25 ?e25) (U.bP ?a26 ?b26 ?c26 ?e26) (U.bP ?a27 ?b27 ?c27 ?e27) (U.bP ?a28 ?b28 ?c28 ?e28) (U.bP ?a29 ?b29 ?c29 ?e29) (U.bP ?a30 ?b30 ?c30 ?e30) (U.bP ?a31 ?b31 ?c31 ?e31) (U.bP ?a32 ?b32 ?c32 ?e32) (U.bP ?a33 ?b33 ?c33 ?e33) (U.bP ?a34 ?b34 ?c34 ?e34) ?r1R ?r2R ?r3R ?r4R ?r5R ?l1 ?l2 ?l3 ?l4 ?g1 ?lo0 ?lo1 ?eB ?eL ?eN ?eU ?eM ?eS ?xB ?xL ?xN ?xU ?xM ?gaB ?hoB ?clB ?gaL ?hoL ?clL ?gaN ?hoN ?clN ?gaU ?hoU ?clU ?gaM ?hoM ?clM
  case a0|b0|c0|e0|a1|b1|c1|e1|a2|b2|c2|e2|a3|b3|c3|e3|a4|b4|c4|e4|a5|b5|c5|e5|a6|b6|c6|e6|a7|b7|c7|e7|a8|b8|c8|e8|a9|b9|c9|e9|a10|b10|c10|e10|a11|b11|c11|e11|a12|b12|c12|e12|a13|b13|c13|e13|a14|b14|c14|e14|a15|b15|c15|e15|a16|b16|c16|e16|a17|b17|c17|e17|a18|b18|c18|e18|a19|b19|c19|e19|a20|b20|c20|e20|a21|b21|c21|e21|a22|b22|c22|e22|a23|b23|c23|e23|a24|b24|c24|e24|a25|b25|c25|e25|a26|b26|c26|e26|a27|b27|c27|e27|a28|b28|c28|e28|a29|b29|c29|e29|a30|b30|c30|e30|a31|b31|c31|e31|a32|b32|c32|e32|a33|b33|c33|e33|a34|b34|c34|e34|r1R|r2R|r3R|r5R|l1|l2|l3|lo0|lo1|eB|eL|eN|eU|eM|eS|gaB|hoB|clB|gaL|hoL|clL|gaN|hoN|clN|gaU|hoU|clU|gaM|hoM|clM=>k_is
  case r4R|l4|g1|xB|xL|xN|xU|xM=>kernel_rfl
