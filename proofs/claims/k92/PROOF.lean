import PyProof.Rows.All
import Wide.All
import OpenK.AllK
import Wide.FinOn
import Lean
import PySem.Challenge.RW_unlikesteps_k92_desks_told_and_asked
set_option Elab.async false
set_option linter.all false
set_option compiler.extract_closed false
local macro_rules|`(.o)=>`(by omega)
local macro_rules|`(.d)=>`(by decide)
noncomputable section
set_option maxRecDepth 100000
set_option maxHeartbeats 0
def eg:=@PySem.wpAny_bind
def gc:=@PySem.Heap.get?_push_of_some
def Zaa:=@List.getElem?_eq_some_iff
def Zad:=@List.mem_cons_of_mem
def Zae:=@List.length_map
def Zaf:=@List.mem_cons
def Zai:=@List.mem_cons_self
def Zaj:=@Bool.false_ne_true
def Zal:=@PySem.Heap.lt_size
def Zam:=@List.length_append
def Zao:=@PySem.wpAny_pure
def Zap:=@List.mem_append_right
def Zaq:=@Nat.le_refl
def Zar:=@List.mem_singleton
def Zas:=@List.size_toArray
def Zau:=@PySem.Heap.get?_push_size
def Zav:=@decide_eq_false
def Zaw:=@Nat.lt_of_lt_of_le
def Zax:=@List.getElem?_eq_getElem
def Zay:=@Nat.ne_of_lt
def Zaz:=@PySem.sizeLine_eq
def ZaA:=@decide_eq_true
def ZaC:=@List.mem_of_getElem?
def ZaD:=@if_neg
def ZaE:=@List.length_cons
def ZaF:=@List.map_append
def ZaG:=@if_pos
def ZaH:=@List.take_length
def ZaI:=@PySem.wpAny_mono
def ZaJ:=@Bool.and_eq_true
def ZaK:=@List.mem_filter
def ZaL:=@Nat.le_trans
def ZaM:=@PySem.Str.length_append
def ZaP:=@Nat.zero_le
def ZaQ:=@List.map_cons
def ZaT:=@List.take_add_one
def ZaU:=@PySem.wpAny_holding
def ZaW:=@List.length_take
def ZaZ:=@List.filterMap_cons
def Za0:=@List.mem_map
def Za1:=@PySem.Heap.get?_update_other
def Za2:=@Option.map_eq_some_iff
def Za3:=@Option.some.inj
def Za4:=@PyProof.Rows.boot_isinstance
def Za5:=@decide_eq_true_eq
def Za6:=@PySem.Paired.length
def Za9:=@List.filter_cons_of_neg
def Zba:=@Nat.lt_irrefl
def Zbb:=@List.nodup_iff_pairwise_ne
def Zbc:=@PySem.W.mg_of
def Zbe:=@Bool.false_eq_true
def Zbf:=@List.mem_append
def Zbg:=@PySem.wpAny_standAt
def Zbh:=@List.length_filter_le
def Zbi:=@List.getElem?_map
def Zbm:=@List.all_eq_true
def Zbo:=@List.filter_append
def Zbq:=@Array.length_toList
def Zbx:=@List.append_nil
def ZbB:=@PySem.wpAny_newObj_type
def ZbC:=@List.mem_range
def ZbE:=@PyProof.Rows.slot_tuple_getitem
def ZbH:=@PySem.wpAny_Call_Name_kw
def ZbW:=@PyProof.Rows.wpS_bind
def Zb0:=@PySem.F.plainAttrs_list
def Zb4:=@List.mem_map_of_mem
def Zb5:=@List.filter_cons_of_pos
def Zb6:=@PySem.PassesOwn.never
def Zb7:=@List.append_assoc
def Zb8:=@List.drop_eq_getElem_cons
def Zb9:=@List.flatMap_cons
def Zca:=@PySem.wpAny_field
def Zcb:=@PySem.Heap.get?_update_self
def Zcc:=@beq_eq_false_iff_ne
def Zcd:=@PySem.W.kia_one
def Zce:=@List.length_reverse
def Zcf:=@PySem.wpAny_callSpecial?_slot
def Zcg:=@PySem.wpAny_truthy_bool
def Zch:=@PySem.F.slot_tuple_iterator_next
def Zci:=@PySem.F.excBase_ValueError
def Zcj:=@List.mem_append_left
def Zck:=@List.mem_filterMap
def Zcl:=@Int.emod_lt_of_pos
def Zcm:=@Int.zero_add
def Zcn:=@List.pairwise_cons
def Zco:=@beq_iff_eq
def Zcp:=@List.nodup_cons
def Zcq:=@List.range_succ
def Zcr:=@congrArg
def Zcs:=@PySem.mem_of_lookup
def Zct:=@List.Pairwise.imp
def Zcu:=@PyProof.Rows.assignInOrder_cons
def Zcv:=@PyProof.Rows.callWith_type1
def Zcw:=@PySem.SeqAt.EqAt.int_int
def Zcx:=@PyProof.Rows.wpS_pure
def Zcy:=@PySem.codeAny_mono
def Zcz:=@List.length_drop
def ZcA:=@List.filter_cons
def ZcB:=@List.getElem?_append_right
def ZcC:=@PySem.F.plainAttrs_str
def ZcD:=@List.pairwise_map
def ZcE:=@List.getElem?_append_left
def ZcF:=@Array.getElem?_eq_getElem
def ZcG:=@Int.emod_nonneg
def ZcH:=@Option.isSome_iff_exists
def ZcI:=@PySem.wpAny_call_entry
def ZcJ:=@Nat.le_succ
def ZcK:=@List.not_mem_nil
def ZcL:=@Ne.symm
def ZcM:=@PyProof.Rows.joinParts_cons
def ZcN:=@Int.toNat_natCast
def ZcO:=@Nat.lt_succ_of_lt
def ZcP:=@Nat.le_succ_of_le
def ZcQ:=@of_decide_eq_true
def ZcR:=@List.length_range
def ZcS:=@List.reverse_cons
def ZcT:=@List.replicate_succ
def ZcU:=@List.flatMap_append
def ZcV:=@PySem.wpAny_pyNext_list_item
def ZcW:=@List.take_of_length_le
def ZcX:=@Array.getElem?_eq_some_iff
def ZcY:=@List.getD_eq_getElem?_getD
def ZcZ:=@Nat.lt_succ_self
def Zc6:=@Nat.succ_le_succ
def Zc7:=@List.length_replicate
def Zc8:=@PySem.F.slot_dict_get
def Zc9:=@PySem.F.slot_str_join
def Zda:=@PySem.F.type_str_join
def Zdb:=@PySem.wpAny_setField
def Zdc:=@PySem.Paired.snoc
def Zdd:=@if_false
def Zde:=@PySem.wpAny_pyIter_list
def Zdf:=@PySem.wpAny_passesOwn
def Zdg:=@Bool.eq_iff_iff
def Zdh:=@PySem.call_meets
def Zdi:=@List.filterMap_cons_some
def Zdj:=@List.nodup_append
def Zdk:=@PySem.F.slot_list_append
def Zdl:=@PySem.F.type_list_append
def Zdm:=@List.map_nil
def Zdn:=@List.map_map
def Zdo:=@List.getElem?_replicate
def Zdp:=@List.lookup_cons
def Zdq:=@Nat.max_eq_right
def Zdr:=@List.mem_flatMap
def Zds:=@PySem.Heap.size_push
def Zdt:=@PySem.wpAny_seqItems
def Zdu:=@PySem.wpAny_rule
def Zdv:=@PySem.Calls.callWith_builtin
def Zdw:=@PySem.F.slot_tuple_mul
def Zdx:=@PySem.F.args_tuple_iterator_next_1
def Zdy:=@PySem.Obj.data_mapFields
def Zdz:=@PySem.W.callWith_K
def ZdA:=@List.zip_cons_cons
def ZdB:=@Nat.lt_of_le_of_lt
def ZdC:=@of_decide_eq_false
def ZdD:=@or_false
def ZdE:=@PySem.boot_len
def ZdF:=@PySem.codeAny_builtin
def ZdG:=@PySem.F.entry_tuple_iterator_next
def ZdH:=@PySem.F.called_set
def ZdI:=@Array.getElem?_toList
def ZdJ:=@List.foldl_cons
def ZdK:=@List.find?_cons
def ZdL:=@Option.map_some
def ZdM:=@PyProof.Rows.formatField_int_small
def ZdN:=@List.flatten_cons
def ZdO:=@Array.perm_iff_toList_perm
def ZdP:=@PySem.Around.under_plainId
def ZdQ:=@List.getElem?_set_ne
def ZdR:=@PySem.W.looks_findIn
def ZdS:=@PySem.Calls.evalArgs_plain
def ZdT:=@PyProof.Rows.FormattedValue_plain
def ZdU:=@List.cons_append
def ZdV:=@List.any_eq_true
def ZdW:=@PySem.Heap.SameBut.update
def ZdX:=@Nat.add_le_add_left
def ZdY:=@PySem.F.args_tuple_add_2
def ZdZ:=@PySem.wpAny_comprehension_free
def Zd0:=@PyProof.Rows.wpS_forRange
def Zd1:=@PyProof.Rows.callWith_kw
def Zd3:=@List.length_filterMap_le
def Zd4:=@PySem.W.of_hideAll
def Zd5:=@List.length_nil
def Zd6:=@PySem.F.entry_tuple_add
def Zd7:=@List.length_set
def Zd8:=@PySem.F.args_dict_get_2
def Zd9:=@List.pairwise_singleton
def Zea:=@List.pairwise_filterMap
def Zeb:=@decide_eq_true_iff
def Zec:=@List.set_cons_zero
def Zed:=@List.set_cons_succ
def Zee:=@List.set_eq_take_append_cons_drop
def Zef:=@List.getElem?_set_self
def Zeg:=@PySem.F.slot_tuple_add
def Zeh:=@PySem.F.entry_dict_get
def Zei:=@PySem.F.plain_min_loop
def Zej:=@List.filter_eq_nil_iff
def Zek:=@Array.getElem?_setIfInBounds_ne
def Zel:=@PyProof.Rows.assignInOrder_nil
def Zem:=@if_true
def Zen:=@PySem.WalksT.enumerateD
def Zeo:=@PySem.wpAny_pyIter_enum
def Zep:=@Bool.not_eq_true'
def Zeq:=@List.drop_zero
def Zer:=@PySem.wpAny_bindName
def Zes:=@PySem.wpAny_tryCatch
def Zet:=@PySem.wpAny_pyIter_listiter
def Zeu:=@PySem.Obj.isFreed_of_fields
def Zev:=@Nat.le_of_lt
def Zew:=@PySem.W.methodCall_KW
def Zex:=@List.filterMap_append
def Zey:=@List.pairwise_flatMap
def Zez:=@PySem.wpAny_execs_cons
def ZeA:=@Option.getD_some
def ZeB:=@List.getElem_mem
def ZeC:=@PySem.W.kat_cons
def ZeD:=@PySem.F.plain_min_loop
def ZeE:=@PySem.codeAny_call_builtin
def ZeF:=@PySem.Heap.get?_none_of_le
def ZeG:=@PySem.wpAny_newFunctionEnv
def ZeH:=@List.range_eq_range'
def ZeI:=@PySem.wpAny_attempt
def ZeJ:=@List.any_cons
def ZeK:=@Prod.mk.injEq
def ZeL:=@PySem.wpAny_specialOf
def ZeM:=@PySem.W.hideAll_get
def ZeN:=@PySem.wpAny_execs_nil
def ZeO:=@PySem.W.plainGet_of
def ZeP:=@PySem.W.callWith_K0
def ZeQ:=@List.nil_append
def ZeR:=@List.getElem_of_mem
def ZeS:=@PySem.W.kat_yes
def ZeT:=@Nat.min_eq_left
def ZeU:=@List.filter_nil
def ZeV:=@PySem.F.slot_range_iterator_next
def ZeW:=@PySem.Calls.Name_function_global
def ZeX:=@Array.getElem?_eq_none_iff
def ZeY:=@Nat.ne_of_gt
def ZeZ:=@PySem.wpAny_pyIter_tuple
def Ze0:=@PySem.Calls.spliced_cons
def Ze1:=@PySem.tupleKind_room_in1
def Ze2:=@PySem.F.args_str_split_2
def Ze3:=@PyProof.Rows.pairsOf_size
def Ze4:=@Nat.add_sub_cancel
def Ze5:=@PySem.wpAny_binaryOp_repeat_ref
def Ze6:=@List.extract_eq_take_drop
def Ze7:=@List.pairwise_iff_getElem
def Ze8:=@PySem.W.kat_no
def Ze9:=@Nat.mul_le_mul
def Zfa:=@Classical.byContradiction
def Zfb:=@Nat.lt_of_succ_lt
def Zfc:=@PySem.wpAny_call
def Zfd:=@PySem.wpAny_assign_Name
def Zfe:=@PySem.Calls.spliced_nil
def Zff:=@PySem.Heap.SameBut.refl
def Zfg:=@PySem.F.args_tuple_mul_2
def Zfh:=@PySem.F.entry_str_split
def Zfi:=@List.mem_range'_1
def Zfj:=@and_false
def Zfk:=@List.Pairwise.imp_of_mem
def Zfl:=@PySem.F.slot_list_extend
def Zfm:=@PySem.F.type_list_extend
def Zfq:=@PySem.wpAny_newList
def Zfr:=@PySem.plainId_quiet
def Zfs:=@Bool.true_and
def Zfu:=@PySem.wpAny_isInstance
def Zfv:=@PySem.noFill_tuple_add
def Zfw:=@beq_self_eq_true
def Zfx:=@List.range'_succ
def Zfy:=@Array.toList_inj
def Zfz:=@PySem.F.slot_str_split
def ZfA:=@decide_eq_decide
def ZfB:=@PySem.Heap.size_update
def ZfC:=@List.nodup_range
def ZfD:=@PyProof.Rows.vals1
def ZfJ:=@PySem.codeAny_of_tree
def ZfK:=@List.of_mem_zip
def ZfN:=@Nat.mul_comm
def ZfP:=@Nat.sub_zero
def ZfS:=@Bool.or_eq_true
def ZfT:=@List.cons.injEq
def ZfU:=@PySem.wpAny_updateSeq
def ZfV:=@List.filter_map
def ZfY:=@PySem.typeIs_int
def Zf5:=@PySem.isSubtype_stop
def Zf6:=@Bool.false_and
def Zf7:=@Bool.not_false
def Zf8:=@PySem.wpAny_of_eq
def Zgd:=@PySem.wpAny_letGo
def Zgi:=@PySem.seq_tuple_add
def Zgp:=@bne_iff_ne
def Zgt:=@PySem.typeIs_str
abbrev ZgE:=PySem.W.Frag
namespace L2
open PySem PySem.Spec PyProof.Rows
theorem bH:1<=sizeLine:=.d
theorem bo:2<=sizeLine:=.d
theorem ke:3<=sizeLine:=.d
theorem ya:4<=sizeLine:=.d
theorem Lo:5<=sizeLine:=.d
theorem Ln:6<=sizeLine:=.d
def bL (h:Heap):Option Value->Prop
 |none=>True
 |some v=> ∃a o vs C,v=.ref a/\h.get? a=some o/\o.cls=.ref C/\o.data=.fields vs/\vs[2]? =some .none
theorem bL.keeps {h h':Heap}{x:Option Value}(hd:bL h x)(k:∀b o,h.get? b=some o->h'.get? b=some o):bL h' x:=by
 cases x with
 |none=>trivial
 |some v=>obtain⟨a,o,vs,C,e,h1,h2⟩:=hd;exact⟨a,o,vs,C,e,k _ _ h1,h2⟩
theorem bL.but {h h':Heap}{x:Option Value}{i:Addr}{o:Obj}{T:String}(k:∀b o,b≠i->h.get? b=some o->h'.get? b=some o)(hi:h.get? i=some o)(hT:o.cls=.type T)(hd:bL h x):bL h' x:=by
 cases x with
 |none=>trivial
 |some v=>obtain⟨a,oa,vs,C,e,h1,h2,h3⟩:=hd;refine⟨a,oa,vs,C,e,k _ _ (fun z=> ?_) h1,h2,h3⟩;rw[z,hi]at h1;cases h1;rw[hT]at h2;cases h2
theorem Zbn:entryFor table "proto.unchain" =some Builtin.«proto.unchain» :=entryFor_of_fast (by kernel_rfl)
theorem ZbG:plainId "proto.unchain" =true:=by decide+kernel
def xy (h:Heap)(e:Addr)(c:Value):Prop:=∃o vs,h.get? e=some o/\o.data=.fields vs/\vs[2]? =some c
section
variable {prog:Program}{w:World}{A:Around}{E:Value->Shared->Prop}{s:Shared}{α:Type}
theorem UH {e:Addr}{oe:Obj}{vs:Array Value}{Q:α->Shared->Prop}(hd:bL s.heap A.handled)(bW:A.handled≠some (.ref e))(he:s.heap.get? e=some oe)(PM:oe.data=.fields vs)(hz:2<vs.size)
  (h0:A.handled=none->E (.ref e) s) (h1:∀v,A.handled=some v->E (.ref e) {s with heap:=s.heap.update e (Obj.mapFields (·.setIfInBounds 2 v))}):wpAny (model prog w) A (raiseNew (.ref e):Sem α) Q E s:=by
 unfold raiseNew;refine eg (wpAny_handled ?_);cases hA:A.handled with
 |none=>exact eg (Zao (wpAny_throw (h0 hA)))
 |some v=>
  rw[hA]at hd bW;obtain⟨a,o,ws,_,rfl,g1,_,g2,g3⟩:=hd;have hb:(Value.ref a !=Value.ref e)=true:=by rw[Zgp];exact fun z=>bW (Zcr some z)
  dsimp only;rw[ZaG hb];refine eg (ZaU (wpAny_runValue (ZdF Zbn ?_)));rw[ZdP ZbG _];unfold Builtin.«proto.unchain»;refine eg (Zca g1 g2 g3 ?_);rw[ZaG (by rfl)];refine eg (Zao (Zao ?_));dsimp only;have:=Zdb (M:=model prog w) (A:=A) (E:=E) (s:=s) (i:=2) (x:=Value.ref a) (Q:=fun _ s'=>E (.ref e) s') he PM hz (h1 _ hA);exact eg (ZaI this (fun _ s' q=>wpAny_throw q) fun _ _ q=>q)
theorem WA {Q:α->Shared->Prop}(hd:bL s.heap A.handled)(hE:∀h' e,(∀b o,s.heap.get? b=some o->h'.get? b=some o)->(∃o,h'.get? e=some o/\o.cls=.type "StopIteration")->E (.ref e) {s with heap:=h'}):
  wpAny (model prog w) A (newExc (.type "StopIteration") [] >>=fun e=> (raiseNew e:Sem α)) Q E s:=by
 refine eg ?_;unfold newExc newTuple;refine eg (ZbB ?_ (by size_fits));refine eg (m:=firstArgMember _ _) (Zf8 (a:=Value.none) (by first |rfl |(simp only[firstArgMember];rfl)) ?_);refine ZbB ?_ (by size_fits);have k:∀b o,s.heap.get? b=some o->((s.heap.push {cls:=.type "tuple",data:=.seq ([]:List Value).toArray}).push {cls:=.type "StopIteration",data:=.fields (#[.ref s.heap.objs.size,.none,.none,.none,.bool false,.none]++ownMembersOf (.type "StopIteration") [])}).get? b=some o:=fun b o q=>gc _ (gc _ q);have ge:=Zau (s.heap.push {cls:=.type "tuple",data:=.seq ([]:List Value).toArray}) (o:= {cls:=.type "StopIteration",data:=.fields (#[.ref s.heap.objs.size,.none,.none,.none,.bool false,.none]++ownMembersOf (.type "StopIteration") [])}) rfl;have nw:∀o,s.heap.get? (s.heap.push {cls:=.type "tuple",data:=.seq ([]:List Value).toArray}).objs.size≠some o:=fun o q=>by have:=Zal q;rw[Zds]at this;exact absurd (Zfb this) (Zba _)
 refine UH (hd.keeps k) (fun z=> ?_) ge rfl (by rw[Array.size_append];exact Zaw (show 2<6 by decide) (Nat.le_add_right _ _)) (fun _=>hE _ _ k ⟨_,ge,rfl⟩) fun v _=>hE _ _ (fun b o q=> ?_) ⟨_,Zcb _ ge rfl,rfl⟩
 ·rw[z]at hd;obtain⟨a,o,ws,C,ea,g1,_⟩:=hd;cases ea;exact nw _ g1
 ·rw[Za1 _ _ (fun z=> ?_)]
  ·exact k b o q
  ·rw[<-z]at q;exact nw _ q
theorem JL {it l:Addr}{i:Nat}{items:Array Value}{Q:Option Value->Shared->Prop}(ff:bL s.heap A.handled)(hit:s.heap.IsListIter it l i)(hl:s.heap.IsList l items)(hx:items[i]? =none)
  (hQ:∀h',Heap.ExtBut it s.heap h'->Q none {s with heap:=h'}):wpAny (model prog w) A (pyNext (.ref it)) Q E s:=by
 obtain⟨o,ho,hc,hd⟩:=id hit;obtain⟨ol,lL,_,nl,qr⟩:=hl;unfold pyNext;refine eg (ZeI (Zcf (name:=Str.ofString "__next__") hit.typeIs slot_listiter_next (ZcI slot_listiter_next hit.typeIs entry_listiter_next ?_ (args_listiter_next _))));show wpAny _ _ (field (.ref it) 0 >>=_) _ _ s;refine eg (Zca ho hd (x:=.ref l) rfl ?_);show wpAny _ _ (if (Value.ref l==Value.none)=true then _ else _) _ _ s;rw[ZaD (show ¬((Value.ref l==Value.none)=true) from Zaj)];show wpAny _ _ (field (.ref it) 1 >>=_) _ _ s;refine eg (Zca ho hd (x:=.int i 0) rfl ?_);show wpAny _ _ (seqItems? (.ref l) >>=_) _ _ s;refine eg (Zdt lL qr ?_);simp only[ZcN,hx];refine eg (Zdu (eg (Zdb ho hd (by simp) ?_)));have sb:=ZdW s.heap it (Obj.mapFields (·.setIfInBounds 0 Value.none));refine WA (A:=A.in1) (bL.but (fun b o hb q=> (sb.2 b hb).trans q) ho hc ff) fun h' e k ⟨oe,g1,g2⟩=> ?_;refine eg (Zfu (T:= "StopIteration") (b:=true) ⟨_,g1,g2⟩ Zf5 ?_);exact Zao (hQ _ fun b o hb q=>k b o ((sb.2 b hb).trans q))
theorem HP {it l:Addr}{i:Nat}{items:Array Value}{Q:Option Value->Shared->Prop}(ff:bL s.heap A.handled)(hit:s.heap.IsTupleIter it l i)(hl:s.heap.IsTuple l items)(hx:items[i]? =none)
  (hQ:∀h',Heap.ExtBut it s.heap h'->Q none {s with heap:=h'}):wpAny (model prog w) A (pyNext (.ref it)) Q E s:=by
 obtain⟨o,ho,hc,hd⟩:=id hit;obtain⟨ol,lL,_,nl,qr⟩:=hl;unfold pyNext;refine eg (ZeI (Zcf (name:=Str.ofString "__next__") hit.typeIs Zch (ZcI Zch hit.typeIs ZdG ?_ (Zdx _))));show wpAny _ _ (field (.ref it) 0 >>=_) _ _ s;refine eg (Zca ho hd (x:=.ref l) rfl ?_);show wpAny _ _ (if (Value.ref l==Value.none)=true then _ else _) _ _ s;rw[ZaD (show ¬((Value.ref l==Value.none)=true) from Zaj)];show wpAny _ _ (field (.ref it) 1 >>=_) _ _ s;refine eg (Zca ho hd (x:=.int i 0) rfl ?_);show wpAny _ _ (seqItems? (.ref l) >>=_) _ _ s;refine eg (Zdt lL qr ?_);simp only[ZcN,hx];refine eg (Zdu (eg (Zdb ho hd (by simp) ?_)));have sb:=ZdW s.heap it (Obj.mapFields (·.setIfInBounds 0 Value.none));refine WA (A:=A.in1) (bL.but (fun b o hb q=> (sb.2 b hb).trans q) ho hc ff) fun h' e k ⟨oe,g1,g2⟩=> ?_;refine eg (Zfu (T:= "StopIteration") (b:=true) ⟨_,g1,g2⟩ Zf5 ?_);exact Zao (hQ _ fun b o hb q=>k b o ((sb.2 b hb).trans q))
theorem Vw {it:Addr}{x left step:Int}{Q:Option Value->Shared->Prop}(ff:bL s.heap A.handled)(hit:IsRangeIter s.heap it x left step)(O7:left<=0)
  (hQ:∀h',Heap.ExtBut it s.heap h'->Q none {s with heap:=h'}):wpAny (model prog w) A (pyNext (.ref it)) Q E s:=by
 have hT:s.TypeIs (.ref it) "range_iterator" :=⟨_,hit,rfl⟩;unfold pyNext;refine eg (ZeI (Zcf (name:=Str.ofString "__next__") hT ZeV (ZcI ZeV hT F.entry_range_iterator_next ?_ (F.args_range_iterator_next_1 _))));show wpAny _ _ (field (.ref it) 0 >>=_) _ _ s;refine eg (Zca hit rfl (x:=rawInt x) rfl ?_);show wpAny _ _ (field (.ref it) 1 >>=_) _ _ s;refine eg (Zca hit rfl (x:=rawInt left) rfl ?_);show wpAny _ _ (field (.ref it) 2 >>=_) _ _ s;refine eg (Zca hit rfl (x:=rawInt step) rfl ?_);show wpAny _ _ (if left<=0 then _ else _) _ _ s;rw[ZaG O7];refine eg (Zdu (eg ?_));refine WA (A:=A.in1) ff fun h' e k ⟨oe,g1,g2⟩=> ?_;refine eg (Zfu (T:= "StopIteration") (b:=true) ⟨_,g1,g2⟩ Zf5 ?_);exact Zao (hQ _ fun b o hb q=>k b o q)
def jS:Option Value->List Addr
 |some (.ref a)=> [a]
 |_=> []
theorem bL.at {h h':Heap}{x:Option Value}(hd:bL h x)(k:∀b∈jS x,∀o,h.get? b=some o->h'.get? b=some o):bL h' x:=by
 cases x with
 |none=>trivial
 |some v=>obtain⟨a,o,vs,C,rfl,h1,h2⟩:=hd;exact⟨a,o,vs,C,rfl,k a (.head _) _ h1,h2⟩
theorem bL.mem {h:Heap}{x:Option Value}{i:Addr}(hd:bL h x)(m:i∈jS x):∃o C,h.get? i=some o/\o.cls=.ref C:=by
 cases x with
 |none=>cases m
 |some v=>
  obtain⟨a,o,vs,C,rfl,h1,h2,_⟩:=hd;cases m with
  |head=>exact⟨o,C,h1,h2⟩
  |tail _ m=>cases m
theorem C6 (I ax:Addr)(bW:ax≠I)(hI:I∉jS A.handled)(items:Array Value):
  Walks prog w A I (I::ax::jS A.handled) [I] items.size (fun i v=>items[i]? =some v) (fun i h=>bL h A.handled/\h.IsListIter I ax i/\h.IsList ax items) where
 sub:=fun b hb=>by cases hb with
  |head=>exact .head _
  |tail _ hb=>cases hb
 frame:=fun _ _ _ st hk=> ⟨st.1.at fun b hb o e=>hk b (.tail _ (.tail _ hb)) o e,st.2.1.at fun o e=>hk I (.head _) o e,st.2.2.at fun o e=>hk ax (.tail _ (.head _)) o e⟩
 item:=fun i s Q E hi st hQ=>by refine ZcV st.2.1 st.2.2 (x:=items[i]) (by simp[hi]) fun h' A9 nR=> ?_;exact hQ _ h' s.toks (by simp[hi]) ⟨st.1.at fun b hb o e=>nR.extBut b o (fun z=>hI (z▸hb)) e,A9,st.2.2.extBut nR.extBut bW⟩ fun b o hb e=>nR.extBut b o (fun h=>hb (by simp[h])) e
 done:=fun s Q E st hQ=>JL st.1 st.2.1 st.2.2 (by simp) fun h' PD=>hQ h' s.toks fun b o hb e=>PD b o (fun h=>hb (by simp[h])) e
 self:=fun _ _ _ _ st hQ=>Zet st.2.1 hQ
theorem xG {t:Addr}{items:Array Value}{Q:List Value->Shared->Prop}(ff:bL s.heap A.handled)(ht:IsTup s.heap t items)
  (hQ:∀h',Heap.ExtBut s.heap.objs.size s.heap h'->Q items.toList {s with heap:=h'}):wpAny (model prog w) A (unpackItems (.ref t) items.size none) Q E s:=by
 have aI:t≠s.heap.objs.size:=by obtain⟨o,ho,_⟩:=ht;exact Zay (Zal ho)
 have nw:∀b o,s.heap.get? b=some o->b≠s.heap.objs.size:=fun b o q=>Zay (Zal q);unfold unpackItems;refine eg ?_
 ·unfold notIterableAtAll;refine eg (ZeL ht.typeIs slot_tuple_iter.lookup ?_);refine Zao ?_;simp only[Zbe,Zdd];refine eg (ZaU (iter_tuple ht ?_));refine eg (ZaU (draw_tuple aI items.size 0 _ _ ⟨_,Zau _ rfl,rfl,rfl⟩ (ht.push _) .o fun bt qj gq=> ?_));rw[show List.take items.size (List.drop 0 items.toList)=items.toList by rw[Zeq];exact ZcW (by simp),ZaD (by simp)];have k1:∀b o,s.heap.get? b=some o->bt.get? b=some o:=fun b o q=>gq.extBut b o (nw b o q) (gc _ q);refine eg (ZaU (HP (ff.keeps k1) qj ((ht.push _).extBut gq.extBut aI) (by simp) fun hX ql=> ?_));simp only[Option.isSome_none,Zbe,Zdd];refine Zao (hQ hX fun b o hb e=>ql b o hb (gq.extBut b o hb (gc _ e)))
theorem RF {env:Env}{elts:List Expr}{x1}{pos:Pos}{t:Addr}{items:Array Value}{Q:Unit->Shared->Prop}(ff:bL s.heap A.handled)(ht:IsTup s.heap t items)
  (hn:(assignEach elts env).length=items.size) (OC:(assignEach elts env).findIdx? (·.1)=none)
  (h:∀h',Heap.ExtBut s.heap.objs.size s.heap h'->wpAny (model prog w) A (assignInOrder ((assignEach elts env).map (·.2)) items.toList) Q E {s with heap:=h'}):
  wpAny (model prog w) A (assign (.Tuple elts x1 pos) env (.ref t)) Q E s:=by
 rw[assign_Tuple];refine eg (Zbg ?_);unfold unpack;rw[hn,OC];exact eg (ZaU (xG ff ht h))
end
section
variable {M:Model}{A:Around}{E:Value->Shared->Prop}{s:Shared}{base:Heap}{env:Env}{outer:List Env}{L e:Addr}{cls a0 c:Value}{Q:Unit->Shared->Prop}
theorem FW {oe:Obj}{vs:Array Value}{head:Value}{P6:Bool}(cU:A.frames=some (env::outer))(hl:s.heap.FunFrames base (env::outer))(hf:env.frame=some L)
  (he:s.heap.get? e=some oe) (jR:base.StaysIn s.heap) (qo:base.get? e=none) (hd:oe.data=.fields vs) (hsz:1<vs.size) (h0:vs[0]? =some a0) (h2:vs[2]? =some c)
  (h:∀h',Heap.NotedW base (env::outer) e oe.cls a0 (rawInt L) s.heap h'->xy h' e c->Q () {s with heap:=h'}):
  wpAny M A (do let a <-frameOf env;let pl <-entryPlaceOf L P6;let b <-EntryCells.newEntry head a .none (rawInt L) .none pl;setField (.ref e) 1 b) Q E s:=by
 have Py:e∉(env::outer).filterMap (·.frame):=fun hm=>by obtain⟨_,o,ho,cT⟩:=hl.mem hm;rw[he]at ho;cases ho;exact cT vs hd
 refine eg (wpAny_frameOf_fun cU hl hf fun bt gq=> ?_);refine eg (wpAny_entryPlaceOf fun pl cA=> ?_);unfold EntryCells.newEntry newFields;refine eg (ZbB ?_ (cA.sizeOk5 _ _ _ _ _));have Fh:bt.get? e=some oe:=(gq.2.1 e Py).trans he;have En:base.StaysIn bt:=fun b o gA=> (gq.2.1 b fun hm=>by rw[(hl.mem hm).1]at gA;cases gA).trans (jR b o gA);generalize hW:({cls:=.type "traceback",dict:=none,data:=.fields ([head,.ref L,.none,rawInt L,.none]++(if pl.isEmpty then List.replicate 6 Value.none else pl)).toArray} :Obj)=W;have ql:=gc (h:=bt) W Fh;refine Zdb ql hd hsz ?_;have lV:bt.objs.size≠e:=ZeY (Zal Fh);have Be:=Zdy hd (·.setIfInBounds 1 (Value.ref bt.objs.size));have Ff:=Zcb (Obj.mapFields (·.setIfInBounds 1 (Value.ref bt.objs.size))) ql (Zeu Be);have P9:=(Za1 (bt.push W) (Obj.mapFields (·.setIfInBounds 1 (Value.ref bt.objs.size))) (ZcL lV)).trans (Zau bt (by rw[<-hW];rfl));have keep:∀b o,b≠e->bt.get? b=some o->((bt.push W).update e (Obj.mapFields (·.setIfInBounds 1 (Value.ref bt.objs.size)))).get? b=some o:=fun b o iP hb=>by rw[Za1 _ _ (ZcL iP)];exact gc _ hb
 have lr:∀b o,s.heap.get? b=some o->(∀vs,o.data≠.fields vs)->b≠e:=fun b o hb cT q=>by rw[q,he]at hb;cases hb;exact cT vs hd
 refine h _ ⟨fun b o gA=>keep b o (fun q=>by rw[q,qo]at gA;cases gA) (En b o gA),hl.of_keeps fun b o hb cT=> ?_,?_,fun b o hb cT=> ?_⟩ ⟨_,_,Ff,Be,?_⟩
 ·obtain⟨sl,hs⟩:=gq.2.2 b o hb;exact⟨_,keep b _ (lr b o hb cT) hs,rfl⟩
 ·subst hW;exact⟨_,_,bt.objs.size,_,_,Ff,⟨Obj.cls_mapFields _ _,by rw[Zek .d];exact h0⟩,Be,by simp[hsz],En.fresh,lV,P9,rfl,by first |(simp;done) |(rcases cA with rfl |⟨_,_,_,_,_,_,_,rfl⟩<;>simp)⟩
 ·obtain⟨sl,hs⟩:=gq.2.2 b o hb;exact⟨sl,keep b _ (lr b o hb cT) hs⟩
 ·rw[Zek .d];exact h2
def qN (base:Heap)(l:List Env)(e:Addr)(cls a0 c:Value)(h:Heap):Prop:=Heap.FlyingW base l e cls a0 h/\xy h e c
def aai (base:Heap)(l:List Env)(e:Addr)(cls a0:Value)(L:Addr)(c:Value)(h:Heap):Prop:=Heap.HeldW base l e cls a0 L h/\xy h e c
theorem Eh (cU:A.frames=some (env::outer))(hf:env.frame=some L)(Bd:qN base (env::outer) e cls a0 c s.heap)
  (hQ:∀h',aai base (env::outer) e cls a0 L c h'->s.heap.UpToSlots h'->Q () {s with heap:=h'}):wpAny M A (noteFrame (.ref e) env) Q E s:=by
 obtain⟨⟨jR,qo,hl,oe,vs,T,oT,ts,he,⟨og,h0⟩,hd,h1,wa,lV,hT,lP,h3⟩,oc,vc,we,eC,h2⟩:=Bd;rw[he]at we;cases we;rw[hd]at eC;cases eC;subst og;unfold noteFrame;simp only[hf];refine eg (Zca he hd h1 ?_);rw[ZaG (show(Value.ref T !=Value.none)=true from by simp)];refine eg (Zca hT lP h3 ?_);rw[ZaD (show ¬((Value.none==rawInt L)=true) from by simp[rawInt])];refine eg (Zdb hT lP (ZcX.mp h3).1 ?_);have other:∀b,b≠T->(s.heap.update T (Obj.mapFields (·.setIfInBounds 3 Value.none))).get? b=s.heap.get? b:=fun b hb=>Za1 _ _ (ZcL hb);have lr:∀b o,s.heap.get? b=some o->(∀vs,o.data≠.fields vs)->b≠T:=fun b o hb cT q=>by rw[q,hT]at hb;cases hb;exact cT ts lP
 refine FW cU (hl.of_keeps fun b o hb cT=> ⟨o,(other b (lr b o hb cT)).trans hb,rfl⟩) hf ((other e (ZcL lV)).trans he)
  (fun b o gA=> (other b fun q=>by rw[q,wa]at gA;cases gA).trans (jR b o gA)) qo hd (ZcX.mp h1).1 h0 h2
  fun h' ⟨x1,x2,x3,x4⟩ hc=>hQ h' ⟨⟨x1,qo,x2,x3⟩,hc⟩ fun b o hb cT=>x4 b o ((other b (lr b o hb cT)).trans hb) cT
theorem vJ {fl:Value}{l:List Env}(jR:base.StaysIn s.heap)(qo:base.get? e=none)(hl:s.heap.FunFrames base l)(ht:s.heap.TracedAtW base e cls a0 fl)(hc:xy s.heap e c)
  (hQ:∀h',qN base l e cls a0 c h'->s.heap.UpToSlots h'->Q () {s with heap:=h'}):wpAny M A (setFlight (.ref e) none) Q E s:=by
 obtain⟨oe,vs,T,oT,ts,he,og,hd,h1,wa,lV,hT,lP,h3⟩:=ht;have EE:3<ts.size:=(ZcX.mp h3).1;have other:∀b,b≠T->(s.heap.update T (Obj.mapFields (·.setIfInBounds 3 ((none:Option Addr).elim Value.none fun f=>rawInt f)))).get? b=s.heap.get? b:=fun b hb=>Za1 _ _ (ZcL hb);have lr:∀b o,s.heap.get? b=some o->(∀vs,o.data≠.fields vs)->b≠T:=fun b o hb cT q=>by rw[q,hT]at hb;cases hb;exact cT ts lP
 unfold setFlight;refine eg (Zca he hd h1 ?_);rw[ZaG (show(Value.ref T !=Value.none)=true from by simp)];refine Zdb hT lP EE (hQ _ ⟨⟨fun b o gA=> (other b fun q=>by rw[q,wa]at gA;cases gA).trans (jR b o gA),qo,hl.of_keeps fun b o hb cT=> ⟨o,(other b (lr b o hb cT)).trans hb,rfl⟩,?_⟩,?_⟩ fun b o hb cT=> ⟨o.slots,(other b (lr b o hb cT)).trans hb⟩)
 ·exact⟨oe,vs,T,_,_,(other e (ZcL lV)).trans he,og,hd,h1,wa,lV,Zcb _ hT (Zeu (Zdy lP _)),Zdy lP _,by simp[EE]⟩
 ·obtain⟨oc,vc,we,eC,h2⟩:=hc;exact⟨oc,vc,(other e (ZcL lV)).trans we,eC,h2⟩
theorem El (cU:A.frames=some (env::outer))(hf:env.frame=some L)(Bd:qN base (env::outer) e cls a0 c s.heap)
  (hQ:∀h',qN base outer e cls a0 c h'->s.heap.UpToSlots h'->Q () {s with heap:=h'}):wpAny M A (leaving env (.ref e)) Q E s:=by
 unfold leaving;refine eg (Eh cU hf Bd fun h1 ⟨⟨k1,k2,k3,k4⟩,hc⟩ u1=> ?_);exact vJ k1 k2 k3 k4 hc fun h2 ⟨⟨j1,j2,⟨_,_,j3⟩,j4⟩,df⟩ u2=>hQ h2 ⟨⟨j1,j2,j3,j4⟩,df⟩ (u1.trans u2)
structure MadeX (h h':Heap)(e:Addr)(cls c:Value):Prop where
 keeps:∀b o,h.get? b=some o->h'.get? b=some o
 new:h.get? e=none
 there:∃t,h'.get? e=some {cls:=cls,data:=.fields #[.ref t,.none,c,.none,.bool false,.none]}
theorem NP {h:Heap}(cU:A.frames=some (env::outer))(hf:env.frame=some L)(jR:base.StaysIn h)(hl:h.FunFrames base (env::outer))(hx:MadeX h s.heap e cls c)
  (hQ:∀h' a0,qN base outer e cls a0 c h'->s.heap.UpToSlots h'->Q () {s with heap:=h'}):wpAny M A (leaving env (.ref e)) Q E s:=by
 obtain⟨t,he⟩:=hx.there;have fresh:base.get? e=none:=by
  cases hq:base.get? e with
  |none=>rfl
  |some o'=>have:=jR e o' hq;rw[hx.new]at this;cases this
 unfold leaving noteFrame;simp only[hf];refine eg (eg (Zca he rfl (x:=.none) rfl ?_));rw[ZaD .d];refine FW cU (hl.of_keeps fun b o hb _=> ⟨o,hx.keeps b o hb,rfl⟩) hf he (fun b o hb=>hx.keeps b o (jR b o hb)) fresh rfl (show 1<6 by decide) rfl rfl fun h1 ⟨x1,x2,x3,x4⟩ hc=> ?_;exact vJ x1 fresh x2 x3 hc fun h2 ⟨⟨j1,j2,⟨_,_,j3⟩,j4⟩,df⟩ u2=>hQ h2 _ ⟨⟨j1,j2,j3,j4⟩,df⟩ (Heap.UpToSlots.trans x4 u2)
end
section
variable {prog:Program}{w:World}{A:Around}{E:Value->Shared->Prop}{s:Shared}{env:Env}
variable {nm q:Str}{C N:Addr}{bs bm l8:List Value}{hdct:Bool}{sn:List Str}{sub:List Value}{ab:Bool}{col:Option Bool}{dd:Option Addr}{k0 k1 k2 k3 k5:Option Value}{B newId Az:String}
def BP (x:Option Value):Value:=x.getD .none
theorem DH {x:Sem Value}{Q:Flow->Shared->Prop}(lU:bm.contains (.type "BaseException")=true)
    (h:wpAny (model prog w) A x (fun v aG=> ∃e,v=.ref e/\aG.heap.get? C=some (excClassObj nm q C N bs bm hdct sn sub ab col dd k0 k1 k2 k3 k5 newId)/\bL aG.heap A.handled/\A.handled≠some (.ref e)/\
      ∃h₀,MadeX h₀ aG.heap e (.ref C) .none/\∀h',MadeX h₀ h' e (.ref C) (BP A.handled)->E (.ref e) {aG with heap:=h'}) E s):
    wpAny (model prog w) A (raiseStmt env (some x) none) Q E s:=by
  have PY:(Value.ref C::bm).contains (.type "BaseException")=true:=by rw[List.contains_cons,lU,Bool.or_true]
  unfold raiseStmt;refine eg (ZaI h (fun v aG bt=> ?_) fun _ _ x=>x);obtain⟨e,rfl,hC,hd,bW,h₀,mk,hE⟩:=bt;obtain⟨hp,g,d,tk,os⟩:=aG;obtain⟨t,he⟩:=id mk.there
  repeat (first |with_reducible refine wpAny_loadPart_at he ?_ |with_reducible refine wpAny_loadPart_at hC ?_ |(with_reducible refine wpAny_isSubtype_exc hC ?_;rw[PY]) |wp_step)
  refine UH hd bW he rfl (show 2<6 by decide) (fun hA=> ?_) fun v hA=> ?_
  · rw[hA]at hE;exact hE _ mk
  · rw[hA]at hE;refine hE _ ⟨fun b o hb=> ?_,mk.new,t,?_⟩
    · rw[Za1 _ _ (fun z=> ?_)]
      · exact mk.keeps b o hb
      · rw[<-z,mk.new]at hb;cases hb
    · rw[Zcb _ he rfl];rfl
theorem Me (F:ExcBaseFacts B newId Az l8){mN:Str->Option Value}{x:Str}{np bB pos:Pos}{args:List Expr}{Q:Flow->Shared->Prop}
    (lU:bm.contains (.type "BaseException")=true) (AQ:(backTo bB (starEach args env)).any (·.1)=false) (AW:mN "__init__" =none)
    (h:wpAny (model prog w) A (eval (.Name x np) env) (fun f aG=>f=.ref C/\wpAny (model prog w) A (evalArgs (.ref C) true (backTo bB (starEach args env)) [])
      (fun a dH=>a.kw=[]/\a.pos.length<=sizeLine/\dH.heap.get? C=some (excClassObj nm q C N bs bm hdct sn sub ab col dd k0 k1 k2 k3 k5 newId)/\dH.heap.Ns N mN/\OwnTail dH.heap l8 bm/\bL dH.heap A.handled/\
        ∀h' e,MadeX dH.heap h' e (.ref C) (BP A.handled)->E (.ref e) {dH with heap:=h'}) E aG) E s):
    wpAny (model prog w) A (exec (.Raise (some (.Call (.Name x np) args [] bB)) none pos) env) Q E s:=by
  rw[arm_exec_Raise]
  first
    |refine eg (Zbg (DH (C:=C) (nm:=nm) (q:=q) (N:=N) (bs:=bs) (bm:=bm) (hdct:=hdct) (sn:=sn) (sub:=sub) (ab:=ab) (col:=col) (dd:=dd) (k0:=k0) (k1:=k1) (k2:=k2) (k3:=k3) (k5:=k5) (newId:=newId) lU (eg (ZaI (wpAny_Call_ofName (ZaI h (fun f aG bt=> ?_) fun _ _ x=>x)) (fun v kK rW=>eg (Zbg (Zao rW))) fun _ _ x=>x))))
    |(simp only[evalOpt,Option.map];refine eg (Zbg (DH (C:=C) (nm:=nm) (q:=q) (N:=N) (bs:=bs) (bm:=bm) (hdct:=hdct) (sn:=sn) (sub:=sub) (ab:=ab) (col:=col) (dd:=dd) (k0:=k0) (k1:=k1) (k2:=k2) (k3:=k3) (k5:=k5) (newId:=newId) lU (eg (ZaI (wpAny_Call_ofName (ZaI h (fun f aG bt=> ?_) fun _ _ x=>x)) (fun v kK rW=>eg (Zbg (Zao rW))) fun _ _ x=>x)))))
  obtain⟨rfl,bt⟩:=bt;unfold callWith;refine eg (ZaU (ZaI bt (fun a dH hX=>eg (Zbg ?_)) fun _ _ x=>x));obtain⟨apos,RJ⟩:=a;obtain⟨Pc,hlen,hC,hn,T,hd,hX⟩:=hX;obtain rfl:RJ=[]:=Pc;obtain⟨hp,g,d,tk,os⟩:=dH;simp only[AQ];refine eg (wpAny_keeperOf_exc hC ?_);refine eg (wpAny_call_exc_subT (hrest:=hlen) F T hC hn AW fun h' e hm=>eg (ZaU (wpAny_point (Zao ?_))));obtain⟨t,ht,_,_⟩:=hm.there;refine⟨e,rfl,hm.keeps _ _ hC,hd.keeps hm.keeps,fun z=> ?_,hp,⟨hm.keeps,hm.new,t,ht⟩,fun h2 m2=>hX h2 e m2⟩;rw[z]at hd;obtain⟨a,o,vs,C',ea,g1,_⟩:=hd;cases ea;have:=hm.new;rw[g1]at this;cases this
end
section
variable {prog:Program}{w:World}{A:Around}{E:Value->Shared->Prop}{s:Shared}
abbrev kh (led:Bool):Obj:= {cls:=.type "set",dict:=none,data:=.set #[] 0 (.fresh 0 0 led)}
theorem Lu {l:Addr}{items:Array Value}{ns:List Int}{Q:Value->Shared->Prop}(ff:bL s.heap A.handled)(hl:s.heap.IsList l items)(hi:IntsAre items.toList ns)(hb:items.size+1<scanBound)
    (h:∀(h':Heap) (tk:Nat),h'.SetOf (intKind prog w) s.heap.objs.size (fun k'=> (firstMet (fun i=>ns.getD i 0) items.size).any (· ==k')) (firstMet (fun i=>ns.getD i 0) items.size).length->
      (∀b o,b<s.heap.objs.size->s.heap.get? b=some o->h'.get? b=some o)->Q (.ref s.heap.objs.size) {s with heap:=h',toks:=tk}):wpAny (model prog w) A (call (.type "set") [.ref l]) Q E s:=by
  obtain⟨c,tl,aas⟩:=ZdH.mro;have f1:=ZdH.made;have f2:=ZdH.sub;have f3:=ZdH.notType;have f4:=ZdH.canCreate;have f5:=F.typeCall_set_1 (.ref l);refine Zfc (ZfJ (show wpAny _ _ (callAny (.type "set") _) _ _ _ from Zao ⟨Code.quiet_builtin _ (by decide+kernel),ZdF F.entry_type_call ?_⟩));rw[Around.under_plain (weight_type_call_type "set" [.ref l] []) rfl]
  repeat (any_goals (first |assumption |wp_step))
  refine Zcy (code_set_new_1 (.ref l) (E:=E) (Q₁:=fun x aG=> ∃led:Bool,x=.ref s.heap.objs.size/\aG= {s with heap:=s.heap.push (kh led)}) fun led=> ⟨led,rfl,rfl⟩) fun r aG hr=> ?_;cases r with
  |error e=>exact hr
  |ok fl=>
   cases fl with
   |ret x=>
    obtain⟨led,rfl,rfl⟩:=hr;have hS:(s.heap.push (kh led)).get? s.heap.objs.size=some (kh led):=Zau _ rfl;have hT:Shared.TypeIs {s with heap:=s.heap.push (kh led)} (.ref s.heap.objs.size) "set" :=⟨_,hS,rfl⟩;have g1:=ZdH.init.lookup;have g2:=ZdH.init.bind (.ref s.heap.objs.size)
    repeat (any_goals (first |assumption |wp_step))
    refine Zcy (ZeE (R:=wants (fun r dH=>r=.none/\∃h' tk,dH= {s with heap:=h',toks:=tk}/\h'.SetOf (intKind prog w) s.heap.objs.size (fun k'=> (firstMet (fun i=>ns.getD i 0) items.size).any (· ==k')) (firstMet (fun i=>ns.getD i 0) items.size).length/\
        (∀b o,b<s.heap.objs.size->s.heap.get? b=some o->h'.get? b=some o)) E) ZdH.init.plain F.entry_set_init (check_set_init_1 hT ?_)) fun Mb dH AL=> ?_
    · obtain⟨⟨oc,od,ot,os⟩,lL,il,nl,qr⟩:=hl;simp only at il qr;subst il qr;have OR:(s.heap.push (kh led)).get? l=some {cls:=.type "list",dict:=od,data:=.seq items nl,slots:=os} :=gc _ lL;have u1:=F.sub_list_set;have u2:=F.sub_list_frozenset;have u3:(Value.type "list" ==Value.type "dict")=false:=.d;have cg:(s.heap.push (kh led)).IsList l items:=⟨_,OR,rfl,nl,rfl⟩;unfold Builtin.«set.__init__» noKeywords Builtin.Frozenset.updateFrom;generalize Qc:pyIter=PI
      wp_walk
      subst Qc;refine Zde cg (eg (wpAny_runValue ?_));have ET:l<s.heap.objs.size:=Zal lL;have zs:(s.heap.push (kh led)).objs.size=s.heap.objs.size+1:=Zds ..;have old:∀b∈jS A.handled,b<s.heap.objs.size:=fun b m=>by obtain⟨o,_,q,_⟩:=ff.mem m;exact Zal q
      have W:=(C6 (prog:=prog) (w:=w) (A:=A.in1.in1.in1) (s.heap.push (kh led)).objs.size l (by rw[zs];exact Zay (ZcO ET)) (fun m=>absurd (old _ m) (by rw[zs];exact Nat.not_lt.mpr (ZcJ _))) items).toS;have Qb:s.heap.objs.size∉(s.heap.push (kh led)).objs.size::l::jS A.handled:=by
        rw[zs];intro m;rcases Zaf.mp m with z |m
        · exact absurd z (Zay (ZcZ _))
        · rcases Zaf.mp m with z |m
          · exact absurd z.symm (Zay ET)
          · exact Zba _ (old _ m)
      refine codeAny_set_update_loopS W s.heap.objs.size Qb (fun i=>ns.getD i 0) (fun i v hv=>IntsAre.int_at hi i v (by rw[ZdI];exact hv)) hb (items.size-0) 0 _ .o (ZaP _)
        ⟨ff.keeps fun b o q=>gc _ (gc _ q),⟨_,Zau _ rfl,rfl,rfl⟩,cg.push _⟩ ?_ ?_
      · exact SetOf_congr ((setObjOf_fresh (knd:=intKind prog w) led).setOf (gc _ hS) (by unfold scanBound;omega)) (fun _=>rfl) rfl
      · intro s' hm iQ;obtain⟨h',g',d',C8,zZ⟩:=s';obtain rfl:g'=s.gens:=hm.gens;obtain rfl:d'=s.drawn:=hm.drawn;obtain rfl:zZ=s.os:=hm.os;refine Zao (show wpAny _ _ (ret Value.none) _ _ _ from Zao ⟨rfl,h',C8,rfl,iQ,fun b o hb e=>hm.heap b o ?_ (gc _ (gc _ e))⟩);rw[zs];intro m;rcases Zaf.mp m with z |m
        · exact absurd z (Zay hb)
        · exact absurd (Zar.mp m) (Zay (ZcO hb))
    · cases Mb with
      |error e=>exact AL
      |ok Qv=>
       cases Qv with
       |ret r=>
        obtain⟨rfl,h',tk,rfl,iQ,cj⟩:=AL
        repeat (any_goals (first |assumption |wp_step))
        exact h _ _ iQ cj
       |_=>exact AL.elim
   |_=>exact hr.elim
end
abbrev Key:=Sum Int Str
def lC:Key->Value->Bool
 | .inl k,v=>Value.isInt k v
 | .inr x,v=>Value.isStrOf x v
def As (w:World):Key->Int
 | .inl k=>hashInt k
 | .inr x=>hashStr w x
theorem ZY:∀{k:Key}{v:Value},lC k v=true->(∃i t,k=Sum.inl i/\v=Value.int i t)∨(∃x t,k=Sum.inr x/\v=Value.str x t)
 | .inl i,v,h=>by obtain⟨t,e⟩:=Value.isInt_shape (k:=i) (v:=v) h;exact .inl ⟨i,t,rfl,e⟩
 | .inr x,v,h=>by obtain⟨t,e⟩:=Value.isStrOf_shape (x:=x) (v:=v) h;exact .inr ⟨x,t,rfl,e⟩
theorem X9 (i:Int)(t:Tok):lC (.inl i) (.int i t)=true:=by simp[lC,Value.isInt]
theorem Zc5 (x:Str)(t:Tok):lC (.inr x) (.str x t)=true:=by simp[lC,Value.isStrOf]
theorem RZ (a b:Int):decide ((Sum.inl a:Key)=Sum.inl b)=(a==b):=by
 by_cases e:a=b
 ·subst e;simp
 ·have h:¬(Sum.inl a:Key)=Sum.inl b:=fun q=>e (Sum.inl.inj q);rw[Zav h];exact(Zcc.mpr e).symm
theorem R4 (a b:Str):decide ((Sum.inr a:Key)=Sum.inr b)=decide (a=b):=by
 by_cases e:a=b
 ·subst e;simp
 ·have h:¬(Sum.inr a:Key)=Sum.inr b:=fun q=>e (Sum.inr.inj q);rw[Zav h,Zav e]
theorem R0 (a:Int)(b:Str):decide ((Sum.inl a:Key)=Sum.inr b)=false:=Zav (fun q=>nomatch q)
theorem R3 (a:Str)(b:Int):decide ((Sum.inr a:Key)=Sum.inl b)=false:=Zav (fun q=>nomatch q)
def dN (prog:Program)(w:World):PySem.KeyKind prog w Key where
 is:=lC
 hash:=As w
 inj:=fun v a b ha hb=>by
  rcases ZY ha with ⟨i,t,rfl,rfl⟩ |⟨x,t,rfl,rfl⟩
  ·rcases ZY hb with ⟨j,u,rfl,e⟩ |⟨y,u,rfl,e⟩
   ·injection e with e1 _;rw[e1]
   ·exact nomatch e
  ·rcases ZY hb with ⟨j,u,rfl,e⟩ |⟨y,u,rfl,e⟩
   ·exact nomatch e
   ·injection e with e1 _;rw[e1]
 byValue:=fun k v h=>by rcases ZY h with ⟨i,t,rfl,rfl⟩ |⟨x,t,rfl,rfl⟩<;>rfl
 pyHash:=fun hv h=>by
  rcases ZY hv with ⟨i,t,rfl,rfl⟩ |⟨x,t,rfl,rfl⟩
  ·exact wpAny_pyHash_int h
  ·exact wpAny_pyHash_str h
 eqBool:=fun hu hv h=>by
  rcases ZY hu with ⟨i,t,rfl,rfl⟩ |⟨x,t,rfl,rfl⟩
  ·rcases ZY hv with ⟨j,u,rfl,rfl⟩ |⟨y,u,rfl,rfl⟩
   ·rw[RZ]at h;exact wpAny_eqBool_int h
   ·rw[R0]at h;exact SeqAt.EqAt.int_str i t y u _ _ _ _ h
  ·rcases ZY hv with ⟨j,u,rfl,rfl⟩ |⟨y,u,rfl,rfl⟩
   ·rw[R3]at h;exact SeqAt.EqAt.str_int x t j u _ _ _ _ h
   ·rw[R4]at h;exact wpAny_eqBool_str h
 «strs» :=fun k x t v h=>by
  rcases ZY h with ⟨i,u,rfl,e⟩ |⟨y,u,rfl,e⟩
  ·exact nomatch e
  ·injection e with e1 _;subst e1;cases v<;>rfl
theorem ZaO (prog:Program)(w:World)(i:Int)(t:Tok):(dN prog w).is (.inl i) (.int i t)=true:=X9 i t
theorem ZaN (prog:Program)(w:World)(x:Str)(t:Tok):(dN prog w).is (.inr x) (.str x t)=true:=Zc5 x t
inductive V where
 |ag |bl (b:Bool) |int (i:Int) |str (x:Str) |gE (b:Array UInt8) |jX (b:UInt64) |ref (a:Addr) |ty (n:String)
 deriving DecidableEq
def RelV:V->Value->Prop
 | .ag,u=>u=Value.none
 | .bl b,u=>u=Value.bool b
 | .int i,u=> ∃t,u=Value.int i t
 | .str x,u=> ∃t,u=Value.str x t
 | .gE b,u=> ∃t,u=Value.bytes b t
 | .jX b,u=> ∃t,u=Value.float b t
 | .ref a,u=>u=Value.ref a
 | .ty n,u=>u=Value.type n
abbrev Vals:List V->List Value->Prop:=Paired RelV
theorem Vals.length {xs:List V}{us:List Value}(r:Vals xs us):xs.length=us.length:=Za6 r
theorem Vals.get:∀{xs:List V}{us:List Value}{i:Nat}{x:V},Vals xs us->xs[i]? =some x->∃u,us[i]? =some u/\RelV x u
 |_,_,_,_,.nil,e=>by simp at e
 |_,_,0,_,.cons r _,e=>by simp at e;subst e;exact⟨_,rfl,r⟩
 |_,_,i+1,x,.cons _ t,e=>by obtain⟨u,h1,h2⟩:=Vals.get (i:=i) (x:=x) t (by simpa using e);exact⟨u,by simpa using h1,h2⟩
theorem Vals.set {x:V}{u:Value}(r:RelV x u):∀{xs:List V}{us:List Value}(i:Nat),Vals xs us->Vals (xs.set i x) (us.set i u)
 |_,_,_,.nil=> .nil
 |_,_,0,.cons _ t=> .cons r t
 |_,_,i+1,.cons q t=> .cons q (Vals.set r i t)
theorem Vals.append:∀{xs ys:List V}{us ws:List Value},Vals xs us->Vals ys ws->Vals (xs++ys) (us++ws)
 |_,_,_,_,.nil,s=>s
 |_,_,_,_,.cons r t,s=> .cons r (Vals.append t s)
theorem Vals.take:∀{xs:List V}{us:List Value}(n:Nat),Vals xs us->Vals (xs.take n) (us.take n)
 |_,_,0,_=> .nil
 |_,_,_+1,.nil=> .nil
 |_,_,n+1,.cons r t=> .cons r (Vals.take n t)
theorem Vals.drop:∀{xs:List V}{us:List Value}(n:Nat),Vals xs us->Vals (xs.drop n) (us.drop n)
 |_,_,0,r=>r
 |_,_,_+1,.nil=> .nil
 |_,_,n+1,.cons _ t=>Vals.drop n t
def fm:Option V->Option Value->Prop
 |some v,some u=>RelV v u
 |none,none=>True
 |_,_=>False
def KV {κ:Type} :List (κ×V)->List (κ×Value)->Prop:=Paired fun(p:κ×V) (q:κ×Value)=>p.1=q.1/\RelV p.2 q.2
def kV:Key->V
 | .inl i=> .int i
 | .inr x=> .str x
inductive HO where
  |lst (xs:List V)
  |tup (xs:List V)
  |par (xs:List V)
  |dK (ai:List (Key×V)) |dT (ai:List (List Key×V))
  |set (S:Int->Bool) (n:Nat)
  |ins (C dx:Addr) (fs:List (Str×V))
  |own (x:Addr)
  |xd (fs:List (Str×V))
  |met (f x:Addr)
  |kX (lo hi:Int)
  |dA (o:Obj) (u:HO)
  |bM (ps:Array Value)
  |ext (φ:Heap->Prop)
abbrev Hp:=Addr->Option HO
def upd (H:Hp)(a:Addr)(o:HO):Hp:=fun b=>if b=a then some o else H b
theorem Zc {H:Hp}{a:Addr}{o:HO} :upd H a o a=some o:=by unfold upd;rw[ZaG rfl]
theorem Zi {H:Hp}{a b:Addr}{o:HO}(h:b≠a):upd H a o b=H b:=by unfold upd;rw[ZaD h]
theorem Wf {H:Hp}{a b:Addr}{o u:HO}(h:H a=some o)(h':H b=some u)(d:o≠u):a≠b:=by intro e;subst e;rw[h]at h';exact d (Za3 h')
theorem Zd {H:Hp}{a b:Addr}{o:HO}(h:H a=some o)(h':H b=none):a≠b:=by intro e;subst e;rw[h]at h';cases h'
section
variable (P:Program) (w:World)
def bN (H:Hp)(h:Heap)(a:Addr):HO->Prop
 | .lst xs=>xs.length<=sizeLine/\∃(ae:List Value) (n:Nat),Vals xs ae/\h.get? a=some {cls:=.type "list",data:=.seq ae.toArray n}
 | .tup xs=>xs.length<=sizeLine/\∃ae:List Value,Vals xs ae/\IsTup h a ae.toArray/\∃o,h.get? a=some o/\o.dict=none
 | .par xs=>xs.length<=sizeLine/\∃ae:List Value,Vals xs ae/\IsTup h a ae.toArray
 | .dK ai=>ai.length<=sizeLine/\(a==sysModules)=false/\∃vs,KV ai vs/\h.DictOf (dN P w) a vs
 | .dT ai=>ai.length<=sizeLine/\(a==sysModules)=false/\∃xs:List (List Key×Addr×Value),
   Paired (fun(p:List Key×V) (q:List Key×Addr×Value)=>p.1=q.1/\H q.2.1=some (.tup (p.1.map kV))/\RelV p.2 q.2.2) ai xs/\
   ∃o es ep,h.get? a=some o/\o.ExactDict/\o.data=.dict es ep/\es.toList=xs.map (entryOfKey (tupleKind (dN P w)))/\(xs.map (·.1)).Nodup
 | .set S n=>h.SetOf (intKind P w) a S n
 | .ins C dx fs=>H dx=some (.own a)/\fs.length<=1000/\dx≠a/\h.get? a=some (PySem.W.instObj C dx)/\
   ∃mA,h.Ns1 dx mA/\(∀f,fm (fs.lookup f) (mA f))/\PySem.Within mA (fs.map (·.1))
 | .own _=> ∃o,h.get? a=some o
 | .xd fs=> ∃mA,h.Ns1 a mA/\∀f,fm (fs.lookup f) (mA f)
 | .kX lo hi=> ∃t u v,h.get? a=some {cls:=.type "range",data:=.fields #[.int lo t,.int hi u,.int 1 v]}
 | .dA o u=>h.get? a=some o/\bN H h a u
 | .bM ps=>h.get? a=some {cls:=.none,data:=.fields ps}
 | .met f x=>h.get? a=some (PySem.W.methodObj (.ref f) (.ref x))
 | .ext φ=>φ h/\(∃o,h.get? a=some o)/\∀h1 h2:Heap,φ h1->(∀o,h1.get? a=some o->h2.get? a=some o)->φ h2
def bC (H:Hp)(h:Heap):Prop:=∀a o,H a=some o->bN P w H h a o
end
section
variable {P:Program}{w:World}{H H':Hp}{h h':Heap}{a:Addr}{o:HO}
theorem bN.lt (x:bN P w H h a o):a<h.objs.size:=by
 cases o with
 |lst xs=>obtain⟨_,_,_,_,e⟩:=x;exact Zal e
 |tup xs=>obtain⟨_,_,_,p,_⟩:=x;exact p.lt
 |par xs=>obtain⟨_,_,_,p⟩:=x;exact p.lt
 |dK ai=>obtain⟨_,_,_,_,o,_,_,e,_⟩:=x;exact Zal e
 |dT ai=>obtain⟨_,_,_,_,o,_,_,e,_⟩:=x;exact Zal e
 |set S n=>obtain⟨o,_,_,_,e,_⟩:=x;exact Zal e
 |ins C dx fs=>obtain⟨_,_,_,e,_⟩:=x;exact Zal e
 |own y=>obtain⟨_,e⟩:=x;exact Zal e
 |xd fs=>obtain⟨_,⟨_,_,_,e,_⟩,_⟩:=x;exact Zal e
 |kX lo hi=>obtain⟨_,_,_,e⟩:=x;exact Zal e
 |dA ob u=>obtain⟨e,_⟩:=x;exact Zal e
 |bM ps=>exact Zal (show h.get? a=some _ from x)
 |met f y=>exact Zal (show h.get? a=some _ from x)
 |ext φ=>obtain⟨_,⟨_,e⟩,_⟩:=x;exact Zal e
theorem Paired.bj {α β:Type}{F G:α->β->Prop} :∀{lB:List α}{lA:List β},Paired F lB lA->(∀a b,F a b->G a b)->Paired G lB lA
 |_,_,.nil,_=> .nil
 |_,_,.cons r t,f=> .cons (f _ _ r) (Paired.bj t f)
theorem bN.g8 (x:bN P w H h a o)(k:∀b u,(b=a∨H b=some (.own a))->h.get? b=some u->h'.get? b=some u)
  (ho:∀b,H b=some (.own a)->H' b=some (.own a)) (ht:∀b xs,H b=some (.tup xs)->H' b=some (.tup xs)):bN P w H' h' a o:=by
 induction o with
 |lst xs=>obtain⟨z,ae,n,r,e⟩:=x;exact⟨z,ae,n,r,k _ _ (.inl rfl) e⟩
 |tup xs=>obtain⟨z,ae,r,⟨ob,e,c⟩,o2,e2,c2⟩:=x;exact⟨z,ae,r,⟨ob,k _ _ (.inl rfl) e,c⟩,o2,k _ _ (.inl rfl) e2,c2⟩
 |par xs=>obtain⟨z,ae,r,ob,e,c⟩:=x;exact⟨z,ae,r,ob,k _ _ (.inl rfl) e,c⟩
 |dK ai=>obtain⟨z,y,vs,r,ob,es,ep,e,c⟩:=x;exact⟨z,y,vs,r,ob,es,ep,k _ _ (.inl rfl) e,c⟩
 |dT ai=>obtain⟨z,y,xs,r,ob,es,ep,e,c⟩:=x;exact⟨z,y,xs,Paired.bj r fun p q z=> ⟨z.1,ht _ _ z.2.1,z.2.2⟩,ob,es,ep,k _ _ (.inl rfl) e,c⟩
 |set S n=>obtain⟨ob,es,ep,t,e,c⟩:=x;exact⟨ob,es,ep,t,k _ _ (.inl rfl) e,c⟩
 |ins C dx fs=>obtain⟨d,z,ne,e,mA,⟨od,es,ep,e2,c⟩,r⟩:=x;exact⟨ho _ d,z,ne,k _ _ (.inl rfl) e,mA,⟨od,es,ep,k _ _ (.inr d) e2,c⟩,r⟩
 |own y=>obtain⟨ob,e⟩:=x;exact⟨ob,k _ _ (.inl rfl) e⟩
 |xd fs=>obtain⟨mA,⟨od,es,ep,e,c⟩,r⟩:=x;exact⟨mA,⟨od,es,ep,k _ _ (.inl rfl) e,c⟩,r⟩
 |kX lo hi=>obtain⟨t,u,v,e⟩:=x;exact⟨t,u,v,k _ _ (.inl rfl) e⟩
 |dA ob u ih=>obtain⟨e,q⟩:=x;exact⟨k _ _ (.inl rfl) e,ih q⟩
 |bM ps=>have e:h.get? a=some {cls:=.none,data:=.fields ps} :=x;show h'.get? a=some {cls:=.none,data:=.fields ps};exact k a _ (.inl rfl) e
 |met f y=>have e:h.get? a=some (PySem.W.methodObj (.ref f) (.ref y)):=x;show h'.get? a=some (PySem.W.methodObj (.ref f) (.ref y));exact k a _ (.inl rfl) e
 |ext φ=>obtain⟨p,⟨o,e⟩,st⟩:=x;exact⟨st _ _ p fun o q=>k _ _ (.inl rfl) q,⟨o,k _ _ (.inl rfl) e⟩,st⟩
theorem bC.lt (x:bC P w H h)(e:H a=some o):a<h.objs.size:=(x a o e).lt
theorem bC.fresh (x:bC P w H h)(e:h.objs.size<=a):H a=none:=by
 cases q:H a with
 |none=>rfl
 |some u=>exact absurd (Zaw (x.lt q) e) (Zba _)
theorem bC.kept (x:bC P w H h)(k:∀b u,h.get? b=some u->h'.get? b=some u):bC P w H h':=fun a o e=>
 (x a o e).g8 (fun b u _ q=>k b u q) (fun _ q=>q) fun _ _ q=>q
theorem bC.laid (x:bC P w H h)(k:∀b u,h.get? b=some u->h'.get? b=some u)(hp:h.objs.size<=a)(new:bN P w (upd H a o) h' a o):bC P w (upd H a o) h':=fun b u e=>by
 have hn:=x.fresh hp;by_cases hb:b=a
 ·subst hb;rw[Zc]at e;cases e;exact new
 ·rw[Zi hb]at e;exact(x b u e).g8 (fun c v _ q=>k c v q) (fun c q=>by rw[Zi (Zd q hn)];exact q) fun c xs q=>by rw[Zi (Zd q hn)];exact q
end
def Rd (H:Hp)(a:Addr)(u:HO):Prop:=H a=some u∨∃o,H a=some (.dA o u)
theorem Rd.ok {P:Program}{w:World}{H:Hp}{h:Heap}{a:Addr}{u:HO}(r:Rd H a u)(x:bC P w H h):bN P w H h a u:=by
 rcases r with r |⟨o,r⟩
 ·exact x a u r
 ·obtain⟨_,q⟩:=x a _ r;exact q
def ub:Option HO->Prop
 |some (.lst _)=>True
 |some (.dK _)=>True
 |some (.dT _)=>True
 |some (.set _ _)=>True
 |some (.ins _ _ _)=>True
 |some (.ext _)=>True
 |_=>False
section
variable {P:Program}{w:World}{H:Hp}{h h':Heap}{x e:Addr}{o':HO}
theorem bC.write (ok:bC P w H h)(mu:ub (H x))(he:e=x∨H e=some (.own x))(k:∀b u,b≠e->h.get? b=some u->h'.get? b=some u)(qm:∃u,h'.get? e=some u)
  (new:bN P w (upd H x o') h' x o'):bC P w (upd H x o') h':=fun b u q=>by
 have DT:∀c y,H c=some (.own y)->c≠x:=fun c y r z=>by subst z;rw[r]at mu;exact mu
 have M9:∀c xs,H c=some (.tup xs)->c≠x:=fun c xs r z=>by subst z;rw[r]at mu;exact mu
 by_cases hb:b=x
 ·subst hb;rw[Zc]at q;cases q;exact new
 ·rw[Zi hb]at q;by_cases iP:b=e
  ·have q':H b=some (.own x):=by
    rcases he with z |z
    ·exact absurd (iP.trans z) hb
    ·rw[iP];exact z
   rw[q]at q';cases q';obtain⟨v,hv⟩:=qm;exact⟨v,by rw[iP];exact hv⟩
  ·refine(ok b u q).g8 (fun c v hc r=>k c v ?_ r) (fun c r=>by rw[Zi (DT c b r)];exact r) fun c xs r=>by rw[Zi (M9 c xs r)];exact r
   rcases hc with rfl |hc
   ·exact iP
   ·rintro rfl;rcases he with z |z
    ·exact DT c b hc z
    ·rw[hc]at z;cases z;exact hb rfl
end
structure Un (fs ex:List Addr)(H H':Hp)(h h':Heap):Prop where
 keep:∀b o,h.get? b=some o->H b=none->b∉fs->b∉ex->h'.get? b=some o
 slot:∀b o,h.get? b=some o->H b=none->b∈fs->b∉ex->∃sl,h'.get? b=some {o with slots:=sl}
 free:∀b o,h.get? b=some o->H b=none->b∉ex->H' b=none
 there:∀b o,h.get? b=some o->b∉ex->∃o',h'.get? b=some o'
 f9:∀b xs,H b=some (.tup xs)->H' b=some (.tup xs)
 fN:∀b o u,H b=some (.dA o u)->H' b=some (.dA o u)
 fv:∀b ps,H b=some (.bM ps)->∃more,H' b=some (.bM (ps++more))
section
variable {fs Qu ex QD:List Addr}{H H1 H2:Hp}{h h1 h2 h':Heap}{a x e:Addr}{o:HO}
theorem Un.any (u:Un fs ex H H1 h h1){b:Addr}{ob:Obj}(q:h.get? b=some ob)(n:H b=none)(hx:b∉ex):∃sl,h1.get? b=some {ob with slots:=sl} :=by
 by_cases hb:b∈fs
 ·exact u.slot b ob q n hb hx
 ·exact⟨ob.slots,u.keep b ob q n hb hx⟩
theorem Un.kept (k:∀b u,h.get? b=some u->h'.get? b=some u):Un fs ex H H h h':=
 ⟨fun b ob q _ _ _=>k b ob q,fun b ob q _ _ _=> ⟨ob.slots,k b ob q⟩,fun _ _ _ n _=>n,fun b ob q _=> ⟨ob,k b ob q⟩,fun _ _ q=>q,fun _ _ _ q=>q,fun _ ps q=> ⟨#[],by rw[q];simp⟩⟩
theorem Un.refl:Un fs ex H H h h:=Un.kept fun _ _ q=>q
theorem Un.laid (k:∀b u,h.get? b=some u->h'.get? b=some u)(hp:h.objs.size<=a)(hn:H a=none):Un fs ex H (upd H a o) h h' where
 keep:=fun b u q _ _ _=>k b u q
 slot:=fun b u q _ _ _=> ⟨u.slots,k b u q⟩
 free:=fun b u q n _=>by rw[Zi (Zay (Zaw (Zal q) hp))];exact n
 there:=fun b u q _=> ⟨u,k b u q⟩
 f9:=fun b xs q=>by rw[Zi (Zd q hn)];exact q
 fN:=fun b u xs q=>by rw[Zi (Zd q hn)];exact q
 fv:=fun b ps q=> ⟨#[],by rw[Zi (Zd q hn),q];simp⟩
theorem Un.write (mu:ub (H x))(he:e=x∨H e=some (.own x))(k:∀b u,b≠e->h.get? b=some u->h'.get? b=some u)(qm:∃u,h'.get? e=some u):Un fs ex H (upd H x o) h h':=by
 have hx:∀b,H b=none->b≠x:=fun b n z=>by subst z;rw[n]at mu;exact mu
 have hb:∀b,H b=none->b≠e:=fun b n z=>by
  subst z;rcases he with r |r
  ·exact hx b n r
  ·rw[n]at r;cases r
 have hm:∀b u,H b=some u->¬ub (some u)->b≠x:=fun b u q nm z=>by subst z;rw[q]at mu;exact nm mu
 refine⟨fun b u q n _ _=>k b u (hb b n) q,fun b u q n _ _=> ⟨u.slots,k b u (hb b n) q⟩,fun b u q n _=>by rw[Zi (hx b n)];exact n,fun b u q _=> ?_,
  fun b xs q=>by rw[Zi (hm b _ q fun z=>z)];exact q,fun b u xs q=>by rw[Zi (hm b _ q fun z=>z)];exact q,fun b ps q=> ⟨#[],by rw[Zi (hm b _ q fun z=>z),q];simp⟩⟩
 by_cases iP:b=e
 ·subst iP;exact qm
 ·exact⟨u,k b u iP q⟩
end
def uA (h:Heap)(H:Hp):List Addr:=(List.range h.objs.size).filter fun a=> (H a).isSome
def iN (h:Heap)(H:Hp):Heap:=PySem.W.hideAll h (uA h H)
theorem UR (h:Heap)(H:Hp):(iN h H).objs.size=h.objs.size:=PySem.W.hideAll_size _ _
theorem Im {h:Heap}{H:Hp}{b:Addr}{o:Obj}(e:h.get? b=some o)(n:H b=none):(iN h H).get? b=some o:=
 ZeM _ e fun hm=>by have q:(H b).isSome=true:=(ZaK.mp hm).2;rw[n]at q;simp at q
theorem Hn {h:Heap}{H:Hp}{b:Addr}{o:Obj}(e:(iN h H).get? b=some o):h.get? b=some o/\H b=none:=by
 have e':h.get? b=some o:=Zd4 (uA h H) e;refine⟨e',?_⟩;cases q:H b with
 |none=>rfl
 |some x=>have hm:b∈uA h H:=ZaK.mpr ⟨ZbC.mpr (Zal e'),by simp[q]⟩;have z:(iN h H).get? b=none:=PySem.W.hideAll_none (uA h H) hm;rw[z]at e;cases e
def RI (g h:Heap)(L:Addr):List (Addr×Obj):=(List.range h.objs.size).filterMap fun a=>if a=L∨(g.get? a).isSome=true then none else (h.get? a).map fun o=> (a,o)
def rest (g h:Heap)(L d:Addr):List (Addr×Obj):=(RI g h L).filter fun p=>decide (p.1≠d)
structure Mod (K:ZgE)(mg:Str->Option Value)(base:Heap):Prop where
 kA:K.In base
 glob:base.Ns mainGlobals mg
 blt:∃mb,base.Ns builtinsNs mb/\∀x:Str,x≠ "__name__" ->mb x=bootBuiltins x
 nolimit:base.NoLimit
structure Cx where
 prog:Program
 w:World
 K:ZgE
 mg:Str->Option Value
 base:Heap
 A:Around
 N:List Str
 bY:Shared
 kG:Hp
 env:Env
 outer:List Env
 stack:List Env
 ex:List Addr
 fn:Str->Bool
 calm:Bool
 pn:List (Addr×Obj)
 xe:Value->Shared->Prop
def aU (l:List Env):List Addr:=l.filterMap (·.frame)
abbrev Cx.fs (X:Cx):List Addr:=aU X.outer
def oH (sc:Scope)(x:Str):Prop:=sc.names.lookup x=some .local∨sc.names.lookup x=some .cell∨sc.names.lookup x=some .free
def Loc (sc:Scope)(x:Str):Prop:=sc.names.lookup x=some .local∨sc.names.lookup x=some .cell
def Look (env:Env)(h:Heap)(m:Str->Option Value)(x:Str)(u:Value):Prop:=
 (env.kindOf x=some .local/\m x=some u)∨((env.kindOf x=some .cell∨env.kindOf x=some .free)/\∃c,env.cells.lookup x=some c/\h.IsCell c (some u))
structure Cx.Ok (X:Cx):Prop where
 mod:Mod X.K X.mg X.base
 kind:X.env.scope.kind=.function
 glob:X.env.globals=mainGlobals
 blt:X.env.builtins=builtinsNs
 above:X.bY.heap.objs.size<=X.env.locals
 inj:∀x y c,X.env.cells.lookup x=some c->X.env.cells.lookup y=some c->x=y
 has:∀x,(X.env.kindOf x=some .cell∨X.env.kindOf x=some .free)->∃c,X.env.cells.lookup x=some c
 jZ:∀x c,X.fn x=true->X.env.cells.lookup x=some c->X.bY.heap.objs.size<=c
 hd:X.calm=true->bL X.base X.A.handled
 frames:X.A.frames=some X.stack
 kL:X.stack=X.outer∨(X.stack=X.env::X.outer/\X.env.frame=some X.env.locals)
 jY:∀b∈X.ex,b≠X.env.locals/\∀x c,X.env.cells.lookup x=some c->c≠b
 bs:∀b o,X.base.get? b=some o->X.bY.heap.get? b=some o/\X.kG b=none
 iz:X.base.objs.size<=X.bY.heap.objs.size
 kz:∀b o,X.base.get? b=some o->b∉X.ex
 jB:∀b∈X.ex,b∉X.fs
 dg:X.bY.heap.FunFrames X.base X.outer
 gB:∀b∈X.fs,X.kG b=none
structure Inv (X:Cx)(pins:List (Addr×Obj))(σ:List (Option V))(H:Hp)(s:Shared):Prop where
 ok:X.Ok
 os:s.os=X.bY.os
 bare:AllBare s.gens
 base:Un X.fs X.ex X.kG H X.bY.heap s.heap
 loc:∃m,s.heap.Ns X.env.locals m/\∀(i:Nat) (x:Str) (v:V),X.N[i]? =some x->σ[i]? =some (some v)->oH X.env.scope x->∃u,RelV v u/\Look X.env s.heap m x u
 cell:∀x c,X.env.cells.lookup x=some c->∃v,s.heap.IsCell c v
 free:H X.env.locals=none
 fO:∀x c,X.env.cells.lookup x=some c->H c=none
 pin:∀p∈X.pn++pins,s.heap.get? p.1=some p.2/\H p.1=none/\p.1≠X.env.locals/\p.1∉X.fs/\∀v,p.2.data≠.cell v
 ar:bC X.prog X.w H s.heap
 len:σ.length=X.N.length
section
variable {X:Cx}{pins:List (Addr×Obj)}{σ:List (Option V)}{H H':Hp}{s:Shared}{h':Heap}
theorem Cx.Ok.Nf (ok:X.Ok){b:Addr}{o:Obj}(e:X.base.get? b=some o):b∉X.fs:=fun hb=>by have:=(ok.dg.mem hb).1;rw[e]at this;cases this
theorem Inv.bs (I:Inv X pins σ H s):∀b o,X.base.get? b=some o->s.heap.get? b=some o/\H b=none:=fun b o e=>
 ⟨I.base.keep b o (I.ok.bs b o e).1 (I.ok.bs b o e).2 (I.ok.Nf e) (I.ok.kz b o e),I.base.free b o (I.ok.bs b o e).1 (I.ok.bs b o e).2 (I.ok.kz b o e)⟩
theorem Inv.bk (I:Inv X pins σ H s):∀b o,X.base.get? b=some o->s.heap.get? b=some o:=fun b o e=> (I.bs b o e).1
theorem Inv.eC (I:Inv X pins σ H s)(hc:X.calm=true):bL s.heap X.A.handled:=(I.ok.hd hc).keeps I.bk
theorem Inv.mod (I:Inv X pins σ H s):Mod X.K X.mg X.base:=I.ok.mod
theorem Inv.bA (I:Inv X pins σ H s):X.K.In s.heap:=I.ok.mod.kA.keeps I.bk
theorem Inv.lt (I:Inv X pins σ H s):X.env.locals<s.heap.objs.size:=let ⟨_,hn,_⟩:=I.loc;hn.lt
theorem Inv.sz (I:Inv X pins σ H s):X.bY.heap.objs.size<=s.heap.objs.size:=ZaL I.ok.above (Zev I.lt)
theorem Inv.Nc (I:Inv X pins σ H s){a:Addr}(h:s.heap.objs.size<=a):a∉X.fs:=fun hb=>by obtain⟨_,o,ho,_⟩:=I.ok.dg.mem hb;exact absurd (Zaw (Zal ho) (ZaL I.sz h)) (Zba _)
theorem Inv.iT (I:Inv X pins σ H s):∀x c,X.env.cells.lookup x=some c->c≠X.env.locals:=fun x c e z=>by obtain⟨v,o,ho,hd⟩:=I.cell x c e;obtain⟨m,⟨o',es,ep,bV,Bi,_⟩,_⟩:=I.loc;rw[z,bV]at ho;cases ho;rw[Bi]at hd;cases hd
theorem Inv.dg (I:Inv X pins σ H s):s.heap.FunFrames X.base X.outer:=by
 have all:∀(l:List Env),(∀b∈aU l,b∈X.fs)->X.bY.heap.FunFrames X.base l->s.heap.FunFrames X.base l:=by
  intro l
  induction l with
  |nil=>intro _ _;trivial
  |cons env r ih=>intro hs hl;obtain⟨hk,⟨L,o,hf,hn,ho,hd⟩,hr⟩:=hl;have hL:L∈X.fs:=hs L (by unfold aU;rw[ZaZ,hf];exact Zai);obtain⟨sl,e⟩:=I.base.slot L o ho (I.ok.gB L hL) hL fun z=>I.ok.jB L z hL;exact⟨hk,⟨L,_,hf,hn,e,hd⟩,ih (fun b hb=>hs b (by unfold aU;rw[ZaZ,hf];exact Zad _ hb)) hr⟩
 exact all X.outer (fun _ hb=>hb) I.ok.dg
theorem Inv.stack (I:Inv X pins σ H s):s.heap.FunFrames X.base X.stack:=by
 rcases I.ok.kL with e |⟨e,hf⟩
 ·rw[e];exact I.dg
 ·rw[e];obtain⟨m,hn,_⟩:=I.loc;refine .cons (by rw[I.ok.kind];decide) hf hn ?_ I.dg;exact ZeF (ZaL I.ok.iz I.ok.above)
theorem Inv.qZ (I:Inv X pins σ H s):∀b∈aU X.stack,b∈X.env.locals::X.fs:=fun b hb=>by
 rcases I.ok.kL with e |⟨e,hf⟩
 ·rw[e]at hb;exact Zad _ hb
 ·rw[e]at hb;unfold aU at hb;rw[ZaZ,hf]at hb;exact hb
theorem Inv.oU (I:Inv X pins σ H s):∀b∈aU X.stack,H b=none:=fun b hb=>by
 rcases Zaf.mp (I.qZ b hb) with e |hb
 ·rw[e];exact I.free
 ·obtain⟨_,o,ho,_⟩:=I.ok.dg.mem hb;exact I.base.free b o ho (I.ok.gB b hb) fun z=>I.ok.jB b z hb
theorem Inv.step {g':Array GenState}{t':Nat}{d':Drawn}{ch:List Addr}(I:Inv X pins σ H s)
  (jT:∀b∈ch,(b∈X.ex∨X.bY.heap.objs.size<=b)/\b≠X.env.locals/\(∀x c,X.env.cells.lookup x=some c->c≠b)/\∀p∈X.pn++pins,p.1≠b)
  (keep:∀b o,b≠X.env.locals->b∉X.fs->b∉ch->s.heap.get? b=some o->H b=none->h'.get? b=some o)
  (slot:∀b o,b≠X.env.locals->b∈X.fs->b∉ch->s.heap.get? b=some o->H b=none->∃sl,h'.get? b=some {o with slots:=sl}) (free:∀b o,b∉ch->s.heap.get? b=some o->H b=none->H' b=none)
  (there:∀b o,b∉ch->s.heap.get? b=some o->∃o',h'.get? b=some o')
  (f9:∀b xs,H b=some (.tup xs)->H' b=some (.tup xs)) (fN:∀b o u,H b=some (.dA o u)->H' b=some (.dA o u)) (fv:∀b ps,H b=some (.bM ps)->∃more,H' b=some (.bM (ps++more)))
  (ns:∀m,s.heap.Ns X.env.locals m->h'.Ns X.env.locals m) (ar:bC X.prog X.w H' h') (hg:AllBare g'):
  Inv X pins σ H' {s with heap:=h',gens:=g',drawn:=d',toks:=t'} :=by
 have DZ:∀b o,X.bY.heap.get? b=some o->b≠X.env.locals:=fun b o e=>Zay (Zaw (Zal e) I.ok.above);have eJ:∀b o,X.bY.heap.get? b=some o->b∉X.ex->b∉ch:=fun b o e hx hb=>by
  rcases (jT b hb).1 with z |z
  ·exact hx z
  ·exact absurd (Zaw (Zal e) z) (Zba _)
 have cellK:∀x c,X.env.cells.lookup x=some c->∀v,s.heap.IsCell c v->h'.IsCell c v:=fun x c e v ⟨o,ho,hd⟩=>by
  have rL:c∉ch:=fun z=> (jT c z).2.2.1 x c e rfl;by_cases hc:c∈X.fs
  ·obtain⟨sl,q⟩:=slot c o (I.iT x c e) hc rL ho (I.fO x c e);exact⟨_,q,hd⟩
  ·exact⟨o,keep c o (I.iT x c e) hc rL ho (I.fO x c e),hd⟩
 refine⟨I.ok,I.os,hg,⟨fun b o e n hb hx=> ?_,fun b o e n hb hx=> ?_,fun b o e n hx=> ?_,fun b o e hx=> ?_,fun b xs e=>f9 b xs (I.base.f9 b xs e),fun b o xs e=>fN b o xs (I.base.fN b o xs e),fun b ps e=> ?_⟩,?_,fun x c e=> ?_,?_,fun x c e=> ?_,fun p hp=> ?_,ar,I.len⟩
 ·exact keep b o (DZ b o e) hb (eJ b o e hx) (I.base.keep b o e n hb hx) (I.base.free b o e n hx)
 ·obtain⟨sl,e1⟩:=I.base.slot b o e n hb hx;obtain⟨Ls,e2⟩:=slot b _ (DZ b o e) hb (eJ b o e hx) e1 (I.base.free b o e n hx);exact⟨Ls,e2⟩
 ·obtain⟨o',e1⟩:=I.base.there b o e hx;exact free b o' (eJ b o e hx) e1 (I.base.free b o e n hx)
 ·obtain⟨o',e1⟩:=I.base.there b o e hx;exact there b o' (eJ b o e hx) e1
 ·obtain⟨m1,e1⟩:=I.base.fv b ps e;obtain⟨m2,e2⟩:=fv b _ e1;exact⟨m1++m2,by rw[e2,Array.append_assoc]⟩
 ·obtain⟨m,hn,hl⟩:=I.loc;refine⟨m,ns m hn,fun i x v e1 e2 e3=> ?_⟩;obtain⟨u,r,l⟩:=hl i x v e1 e2 e3;refine⟨u,r,?_⟩;rcases l with l |⟨k,c,e,z⟩
  ·exact .inl l
  ·exact .inr ⟨k,c,e,cellK x c e _ z⟩
 ·obtain⟨v,z⟩:=I.cell x c e;exact⟨v,cellK x c e v z⟩
 ·obtain⟨m,⟨o,_,_,ho,_⟩,_⟩:=I.loc;exact free _ o (fun z=> (jT _ z).2.1 rfl) ho I.free
 ·obtain⟨v,o,ho,hd⟩:=I.cell x c e;exact free c o (fun z=> (jT c z).2.2.1 x c e rfl) ho (I.fO x c e)
 ·obtain⟨e,n,ne,nf,d⟩:=I.pin p hp;have rL:p.1∉ch:=fun z=> (jT p.1 z).2.2.2 p hp rfl;exact⟨keep p.1 p.2 ne nf rL e n,free p.1 p.2 rL e n,ne,nf,d⟩
theorem Inv.un {t':Nat}(I:Inv X pins σ H s)(u:Un X.fs [] H H' s.heap h')(ar:bC X.prog X.w H' h'):Inv X pins σ H' {s with heap:=h',toks:=t'} :=by
 obtain⟨m,⟨o,es,ep,ho,r⟩,_⟩:=id I.loc;obtain⟨sl,hL⟩:=u.any ho I.free (by simp);exact I.step (g':=s.gens) (d':=s.drawn) (ch:=[]) (fun _ z=>nomatch z) (fun b o _ hb _ e n=>u.keep b o e n hb (by simp)) (fun b o _ hb _ e n=>u.slot b o e n hb (by simp)) (fun b o _ e n=>u.free b o e n (by simp)) (fun b o _ e=>u.there b o e (by simp)) u.f9 u.fN u.fv (fun m' hm=>by obtain⟨o',l0,tI,bV,r'⟩:=hm;rw[ho]at bV;cases bV;exact⟨_,l0,tI,hL,r'⟩) ar I.bare
theorem Inv.call {g':Array GenState}{t':Nat}{d':Drawn}{ch:List Addr}(I:Inv X pins σ H s)(u:Un (aU X.stack) ch H H' s.heap h')(ar:bC X.prog X.w H' h')(hg:AllBare g')
  (jT:∀b∈ch,(b∈X.ex∨X.bY.heap.objs.size<=b)/\b≠X.env.locals/\(∀x c,X.env.cells.lookup x=some c->c≠b)/\∀p∈X.pn++pins,p.1≠b):
  Inv X pins σ H' {s with heap:=h',gens:=g',drawn:=d',toks:=t'} :=by
 obtain⟨m,⟨o,es,ep,ho,r⟩,_⟩:=id I.loc;obtain⟨sl,hL⟩:=u.any ho I.free fun z=> (jT _ z).2.1 rfl;exact I.step (ch:=ch) jT (fun b o hL hb hc e n=>u.keep b o e n (fun z=> (Zaf.mp (I.qZ b z)).elim hL hb) hc) (fun b o _ _ hc e n=>u.any e n hc) (fun b o hc e n=>u.free b o e n hc) (fun b o hc e=>u.there b o e hc) u.f9 u.fN u.fv (fun m' hm=>by obtain⟨o',l0,tI,bV,r'⟩:=hm;rw[ho]at bV;cases bV;exact⟨_,l0,tI,hL,r'⟩) ar hg
theorem Inv.turned {t':Nat}{it:Addr}(I:Inv X pins σ H s)(k:∀b o,b≠it->s.heap.get? b=some o->h'.get? b=some o)(hn:H it=none)(hL:it≠X.env.locals)
  (h1:it∈X.ex∨X.bY.heap.objs.size<=it) (h2:∀x c,X.env.cells.lookup x=some c->c≠it) (h3:∀p∈X.pn++pins,p.1≠it):Inv X pins σ H {s with heap:=h',toks:=t'} :=by
 have DY:∀b u,H b=some u->b≠it:=fun b u e z=>by rw[z,hn]at e;cases e
 refine I.step (g':=s.gens) (d':=s.drawn) (ch:=[it]) (fun b hb=> ?_) (fun b o _ _ hc e _=>k b o (fun z=>hc (by simp[z])) e) (fun b o _ _ hc e _=> ⟨o.slots,k b o (fun z=>hc (by simp[z])) e⟩) (fun _ _ _ _ n=>n)
  (fun b o hc e=> ⟨o,k b o (fun z=>hc (by simp[z])) e⟩) (fun _ _ e=>e) (fun _ _ _ e=>e) (fun b ps e=> ⟨#[],by rw[e];simp⟩) (fun m hm=> ?_) (fun b u e=> ?_) I.bare
 ·have e:b=it:=by simpa using hb
  subst e;exact⟨h1,hL,h2,h3⟩
 ·obtain⟨o,es,ep,ho,r⟩:=hm;exact⟨o,es,ep,k _ o (ZcL hL) ho,r⟩
 ·refine(I.ar b u e).g8 (fun c v hc q=>k c v ?_ q) (fun _ q=>q) fun _ _ q=>q;rcases hc with z |z
  ·rw[z];exact DY b u e
  ·exact DY c _ z
theorem Inv.tok (I:Inv X pins σ H s)(t:Nat):Inv X pins σ H {s with toks:=t} :=I.un (h':=s.heap) (t':=t) Un.refl I.ar
theorem Inv.kept {t':Nat}(I:Inv X pins σ H s)(k:∀b u,s.heap.get? b=some u->h'.get? b=some u):Inv X pins σ H {s with heap:=h',toks:=t'} :=I.un (Un.kept k) (I.ar.kept k)
theorem Inv.laid {a:Addr}{o:HO}{t':Nat}(I:Inv X pins σ H s)(k:∀b u,s.heap.get? b=some u->h'.get? b=some u)(hp:s.heap.objs.size<=a)(new:bN X.prog X.w (upd H a o) h' a o):
  Inv X pins σ (upd H a o) {s with heap:=h',toks:=t'} :=I.un (Un.laid k hp (I.ar.fresh hp)) (I.ar.laid k hp new)
theorem Inv.write {x e:Addr}{o:HO}{t':Nat}(I:Inv X pins σ H s)(mu:ub (H x))(he:e=x∨H e=some (.own x))(k:∀b u,b≠e->s.heap.get? b=some u->h'.get? b=some u)(qm:∃u,h'.get? e=some u)
  (new:bN X.prog X.w (upd H x o) h' x o):Inv X pins σ (upd H x o) {s with heap:=h',toks:=t'} :=I.un (Un.write mu he k qm) (I.ar.write mu he k qm new)
theorem Inv.DP {DQ:List (Addr×Obj)}(I:Inv X pins σ H s)(h:∀p∈DQ,s.heap.get? p.1=some p.2/\H p.1=none/\p.1≠X.env.locals/\p.1∉X.fs/\∀v,p.2.data≠.cell v):Inv X DQ σ H s:=
 ⟨I.ok,I.os,I.bare,I.base,I.loc,I.cell,I.free,I.fO,fun p hp=> (Zbf.mp hp).elim (fun z=>I.pin p (Zcj _ z)) (h p),I.ar,I.len⟩
theorem WQ {N:List Str}(hN:N.Nodup){i j:Nat}{x:Str}(a:N[i]? =some x)(b:N[j]? =some x):i=j:=by obtain⟨h1,e1⟩:=Zaa.mp a;obtain⟨h2,e2⟩:=Zaa.mp b;exact(List.getElem_inj hN).mp (e1.trans e2.symm)
theorem JZ {M:Model}{A:Around}{E:Value->Shared->Prop}{i:Nat}{x:Str}{v:V}{u:Value}{Q:Unit->Shared->Prop}(I:Inv X pins σ H s)(hN:X.N.Nodup)(hi:X.N[i]? =some x)(hx:Loc X.env.scope x)(r:RelV v u)
  (h:∀s',Inv X pins (σ.set i (some v)) H s'->(∃a,Heap.SameBut a s.heap s'.heap/\(a=X.env.locals∨X.env.cells.lookup x=some a))->Q () s') (hf:X.fn x=true∨X.env.scope.names.lookup x=some .local:=by first |exact .inl rfl |exact .inr rfl |assumption):wpAny M A (storeName X.env x u) Q E s:=by
 obtain⟨m,hn,hl⟩:=id I.loc;have og:(X.env.scope.kind==.class||(X.env.scope.kind==.module&&X.env.locals !=X.env.globals))=false:=by rw[I.ok.kind];rfl
 have EX:i<σ.length:=by rw[I.len];exact(Zaa.mp hi).1
 have iT:=I.iT;have tracked:∀{a:Addr}{h':Heap},(∃o,s.heap.get? a=some o/\H a=none)->Heap.SameBut a s.heap h'->bC X.prog X.w H h':=fun {a h'} ha hs b ob e=>by
  obtain⟨_,_,Fc⟩:=ha;refine(I.ar b ob e).g8 (fun c w' hc q=> (hs.2 c ?_).trans q) (fun _ q=>q) fun _ _ q=>q;rintro rfl;rcases hc with rfl |hc
  ·rw[Fc]at e;cases e
  ·rw[Fc]at hc;cases hc
 rcases hx with hk |hk
 ·refine wpAny_storeName_local hk hn (fun h' su hs=> ?_) og;obtain⟨oL,_,_,hoL,_⟩:=id hn;refine h _ ⟨I.ok,I.os,I.bare,⟨fun b o e n hb hx=> ?_,fun b o e n hb hx=> ?_,I.base.free,fun b o e hx=> ?_,I.base.f9,I.base.fN,I.base.fv⟩,⟨_,su,fun j y v' e1 e2 e3=> ?_⟩,fun y c e=> ?_,I.free,I.fO,fun p hp=> ?_,tracked ⟨oL,hoL,I.free⟩ hs,by simpa using I.len⟩ ⟨_,hs,.inl rfl⟩
  ·exact(hs.2 b (Zay (Zaw (Zal e) I.ok.above))).trans (I.base.keep b o e n hb hx)
  ·obtain⟨sl,e1⟩:=I.base.slot b o e n hb hx;exact⟨sl,(hs.2 b (Zay (Zaw (Zal e) I.ok.above))).trans e1⟩
  ·obtain⟨o',e1⟩:=I.base.there b o e hx;exact⟨o',(hs.2 b (Zay (Zaw (Zal e) I.ok.above))).trans e1⟩
  ·by_cases hj:j=i
   ·subst hj;rw[hi]at e1;cases e1;rw[Zef EX]at e2;cases e2;exact⟨u,r,.inl ⟨hk,by simp⟩⟩
   ·rw[ZdQ (ZcL hj)]at e2;obtain⟨u',r',q⟩:=hl j y v' e1 e2 e3;refine⟨u',r',?_⟩;rcases q with ⟨k,e⟩ |⟨k,c,e,z⟩
    ·refine .inl ⟨k,?_⟩;have:y≠x:=fun e=>hj (WQ hN e1 (e▸hi));simp[this,e]
    ·exact .inr ⟨k,c,e,z.sameBut hs (iT y c e)⟩
  ·obtain⟨w',z⟩:=I.cell y c e;exact⟨w',z.sameBut hs (iT y c e)⟩
  ·obtain⟨e,n,ne,nf,d⟩:=I.pin p hp;exact⟨(hs.2 p.1 ne).trans e,n,ne,nf,d⟩
 ·have fK:X.fn x=true:=by
   rcases hf with z |z
   ·exact z
   ·rw[z]at hk;cases hk
  obtain⟨c,hc⟩:=I.ok.has x (.inl hk);obtain⟨w',z⟩:=I.cell x c hc;refine wpAny_storeName_cell I.ok.kind hk hc z (fun h' bX hs=> ?_);obtain⟨oc,EM,OS⟩:=id z;refine h {s with heap:=h'} ⟨I.ok,I.os,I.bare,⟨fun b o e n hb hx=> ?_,fun b o e n hb hx=> ?_,I.base.free,fun b o e hx=> ?_,I.base.f9,I.base.fN,I.base.fv⟩,⟨m,hn.sameBut hs (ZcL (iT x c hc)),fun j y v' e1 e2 e3=> ?_⟩,fun y c' e=> ?_,I.free,I.fO,fun p hp=> ?_,tracked ⟨oc,EM,I.fO x c hc⟩ hs,by simpa using I.len⟩ ⟨c,hs,.inr hc⟩
  ·exact(hs.2 b (Zay (Zaw (Zal e) (I.ok.jZ x c fK hc)))).trans (I.base.keep b o e n hb hx)
  ·obtain⟨sl,e1⟩:=I.base.slot b o e n hb hx;exact⟨sl,(hs.2 b (Zay (Zaw (Zal e) (I.ok.jZ x c fK hc)))).trans e1⟩
  ·obtain⟨o',e1⟩:=I.base.there b o e hx;exact⟨o',(hs.2 b (Zay (Zaw (Zal e) (I.ok.jZ x c fK hc)))).trans e1⟩
  ·by_cases hj:j=i
   ·subst hj;rw[hi]at e1;cases e1;rw[Zef EX]at e2;cases e2;exact⟨u,r,.inr ⟨.inl hk,c,hc,bX⟩⟩
   ·rw[ZdQ (ZcL hj)]at e2;obtain⟨u',r',q⟩:=hl j y v' e1 e2 e3;refine⟨u',r',?_⟩;rcases q with q |⟨k,c',e,z'⟩
    ·exact .inl q
    ·refine .inr ⟨k,c',e,z'.sameBut hs ?_⟩;rintro rfl;exact hj (WQ hN e1 (I.ok.inj _ _ _ e hc▸hi))
  ·by_cases iO:c'=c
   ·subst iO;exact⟨_,bX⟩
   ·obtain⟨w2,z2⟩:=I.cell y c' e;exact⟨w2,z2.sameBut hs iO⟩
  ·obtain⟨e,n,ne,nf,d⟩:=I.pin p hp;refine⟨(hs.2 p.1 ?_).trans e,n,ne,nf,d⟩;intro q;rw[q,EM]at e;have q':oc=p.2:=Za3 e;exact d w' (by rw[<-q'];exact OS)
theorem Yj {M:Model}{A:Around}{E:Value->Shared->Prop}{i:Nat}{x:Str}{v:V}{u:Value}{Q:Unit->Shared->Prop}(I:Inv X pins σ H s)(hN:X.N.Nodup)(hi:X.N[i]? =some x)(hx:Loc X.env.scope x)(r:RelV v u)
  (h:∀s',Inv X pins (σ.set i (some v)) H s'->Q () s') (hf:X.fn x=true∨X.env.scope.names.lookup x=some .local:=by first |exact .inl rfl |exact .inr rfl |assumption):wpAny M A (storeName X.env x u) Q E s:=
 JZ I hN hi hx r (fun s' I' _=>h s' I') hf
theorem Inv.wW {s':Shared}{ch:List Addr}(I:Inv X pins σ H s)(ho:s'.os=s.os)(u:Un (aU X.stack) ch H H' s.heap s'.heap)(ar:bC X.prog X.w H' s'.heap)(hg:AllBare s'.gens)
  (jT:∀b∈ch,(b∈X.ex∨X.bY.heap.objs.size<=b)/\b≠X.env.locals/\(∀x c,X.env.cells.lookup x=some c->c≠b)/\∀p∈X.pn++pins,p.1≠b):Inv X pins σ H' s':=by
 obtain⟨h',g',d',t',o'⟩:=s';have e:o'=s.os:=ho;subst e;exact I.call (g':=g') (t':=t') (d':=d') u ar hg jT
end
abbrev XK:=Value->Option Addr->Hp->Prop
abbrev St:=List (Option V)
abbrev VK:=V->Hp->Prop
abbrev TE:=St->Hp->VK->Prop
abbrev TT:=St->Hp->(Bool->Hp->Prop)->Prop
abbrev TA:=St->Hp->(List V->Hp->Prop)->Prop
structure Ends where
 nx:St->Hp->Prop
 rt:VK
 bk:St->Hp->Prop:=fun _ _=>False
 ct:St->Hp->Prop:=fun _ _=>False
abbrev TS:=Ends->St->Hp->Prop
def EP (X:Cx)(pins:List (Addr×Obj))(σ:St)(Q:VK)(u:Value)(s':Shared):Prop:=∃v H',Inv X pins σ H' s'/\RelV v u/\Q v H'
def TP (X:Cx)(pins:List (Addr×Obj))(σ:St)(Q:Bool->Hp->Prop)(b:Bool)(s':Shared):Prop:=∃H',Inv X pins σ H' s'/\Q b H'
def AP (X:Cx)(pins:List (Addr×Obj))(σ:St)(Q:List V->Hp->Prop)(us:List Value)(s':Shared):Prop:=∃vs H',Inv X pins σ H' s'/\Vals vs us/\Q vs H'
def SP (X:Cx)(pins:List (Addr×Obj))(D:Ends)(f:Flow)(s':Shared):Prop:=
 match f with
 | .next=> ∃ah H',Inv X pins ah H' s'/\D.nx ah H'
 | .brk=> ∃ah H',Inv X pins ah H' s'/\D.bk ah H'
 | .cont=> ∃ah H',Inv X pins ah H' s'/\D.ct ah H'
 | .ret u=> ∃v ah H',Inv X pins ah H' s'/\RelV v u/\D.rt v H'
def PE (X:Cx)(e:Expr)(t:TE):Prop:=
 ∀(pins:List (Addr×Obj)) (s:Shared) (σ:St) (H:Hp) (Q:VK),Inv X pins σ H s->t σ H Q->wpAny (model X.prog X.w) X.A (eval e X.env) (EP X pins σ Q) X.xe s
def PT (X:Cx)(e:Expr)(t:TT):Prop:=
 ∀(pins:List (Addr×Obj)) (s:Shared) (σ:St) (H:Hp) (Q:Bool->Hp->Prop),Inv X pins σ H s->t σ H Q->wpAny (model X.prog X.w) X.A (isTrue e X.env (eval e X.env)) (TP X pins σ Q) X.xe s
def PW (X:Cx)(e:Expr)(t:TT):Prop:=
 ∀(whole:Sem Value) (pins:List (Addr×Obj)) (s:Shared) (σ:St) (H:Hp) (Q:Bool->Hp->Prop),Inv X pins σ H s->t σ H Q->wpAny (model X.prog X.w) X.A (isTrue e X.env whole) (TP X pins σ Q) X.xe s
theorem PW.pt {X:Cx}{e:Expr}{t:TT}(h:PW X e t):PT X e t:=h _
def PA (X:Cx)(es:List Expr)(t:TA):Prop:=
 ∀(pos:Pos) (pins:List (Addr×Obj)) (s:Shared) (σ:St) (H:Hp) (Q:List V->Hp->Prop),Inv X pins σ H s->t σ H Q->wpAny (model X.prog X.w) X.A (spliced (backTo pos (starEach es X.env))) (AP X pins σ Q) X.xe s
def PS (X:Cx)(st:Stmt)(t:TS):Prop:=
 ∀(pins:List (Addr×Obj)) (s:Shared) (σ:St) (H:Hp) (D:Ends),Inv X pins σ H s->t D σ H->wpAny (model X.prog X.w) X.A (exec st X.env) (SP X pins D) X.xe s
def dG (X:Cx)(st:List Stmt)(t:TS):Prop:=
 ∀(pins:List (Addr×Obj)) (s:Shared) (σ:St) (H:Hp) (D:Ends),Inv X pins σ H s->t D σ H->wpAny (model X.prog X.w) X.A (execs st X.env) (SP X pins D) X.xe s
theorem au {α:Type}{t:Sem α}{Q Q':α->Shared->Prop}{M:Model}{A:Around}{E:Value->Shared->Prop}{s:Shared}(h:wpAny M A t Q E s)(hQ:∀a s,Q a s->Q' a s):wpAny M A t Q' E s:=ZaI h hQ fun _ _ x=>x
section
variable {X:Cx}
def gf (i:Nat):TE:=fun σ H Q=> ∃v,σ[i]? =some (some v)/\Q v H
def tC (v:V):TE:=fun _ H Q=>Q v H
theorem J3 {i:Nat}{x:Str}{pos:Pos}(hN:X.N[i]? =some x)(hv:oH X.env.scope x)(hd:(x==("__debug__" :Str))=false:=by decide)(cV:(x==("__classdict__" :Str))=false:=by decide):PE X (.Name x pos) (gf i):=by
 intro pins s σ H Q I h;obtain⟨v,e,h⟩:=h;obtain⟨m,hn,hl⟩:=I.loc;obtain⟨u,r,l⟩:=hl i x v hN e hv;have fin:EP X pins σ Q u s:=⟨v,H,I,r,h⟩;rcases l with ⟨hk,hm⟩ |⟨hk,c,hc,lQ⟩
 ·exact wpAny_Name (wpAny_loadName_local I.ok.kind hk hn hm fin) hd
 ·rcases hk with hk |hk
  ·exact wpAny_Name (wpAny_loadName_cell I.ok.kind hk hc lQ fin) hd
  ·exact wpAny_Name (wpAny_loadName_free I.ok.kind hk hc lQ fin cV) hd
theorem Zf {i j pos} :PE X (.Constant (.int i) j pos) (tC (.int i)):=fun _ _ _ H _ I h=>wpAny_Constant_int ⟨.int i,H,I.tok _,⟨_,rfl⟩,h⟩
theorem JG {b j pos} :PE X (.Constant (.bool b) j pos) (tC (.bl b)):=fun _ _ _ H _ I h=>Constant_bool ⟨.bl b,H,I,rfl,h⟩
theorem Yb {j pos} :PE X (.Constant .none j pos) (tC .ag):=fun _ _ _ H _ I h=>Constant_none ⟨.ag,H,I,rfl,h⟩
theorem Zr {x j pos} :PE X (.Constant (.str x) j pos) (tC (.str x)):=fun _ _ _ H _ I h=>Calls.Constant_str ⟨.str x,H,I.tok _,⟨_,rfl⟩,h⟩
def Gl (X:Cx)(x:Str):Prop:=X.env.kindOf x=some .globalImplicit
theorem YL {E:Value->Shared->Prop}{pins:List (Addr×Obj)}{s:Shared}{σ:St}{H:Hp}{x:Str}{u:Value}{pos:Pos}{Q:Value->Shared->Prop}(I:Inv X pins σ H s)(hg:Gl X x)(hm:X.mg x=some u)(h:Q u s)
  (hd:(x==("__debug__" :Str))=false:=by decide):wpAny (model X.prog X.w) X.A (eval (.Name x pos) X.env) Q E s:=
 ZeW I.ok.kind hg (Calls.loadGlobal_global (by rw[I.ok.glob];exact I.mod.glob.keeps I.bk) hm h) hd
theorem YQ {E:Value->Shared->Prop}{pins:List (Addr×Obj)}{s:Shared}{σ:St}{H:Hp}{x:Str}{u:Value}{pos:Pos}{Q:Value->Shared->Prop}(I:Inv X pins σ H s)(hg:Gl X x)(hm:X.mg x=none)(hv:bootBuiltins x=some u)(h:Q u s)
  (hn:x≠ "__name__" :=by decide) (hd:(x==("__debug__" :Str))=false:=by decide):wpAny (model X.prog X.w) X.A (eval (.Name x pos) X.env) Q E s:=by
 obtain⟨mb,h1,h2⟩:=I.mod.blt;exact ZeW I.ok.kind hg (Calls.loadGlobal_builtin (by rw[I.ok.glob];exact I.mod.glob.keeps I.bk) hm (by rw[I.ok.blt];exact h1.keeps I.bk) ((h2 x hn).trans hv) h) hd
theorem ZK {x:Str}{v:V}{u:Value}{pos:Pos}(hg:Gl X x)(hm:X.mg x=some u)(r:RelV v u)(hd:(x==("__debug__" :Str))=false:=by decide):PE X (.Name x pos) (tC v):=
 fun _ _ _ H _ I h=>YL I hg hm ⟨v,H,I,r,h⟩ hd
theorem Y2 {x:Str}{v:V}{u:Value}{pos:Pos}(hg:Gl X x)(hm:X.mg x=none)(hv:bootBuiltins x=some u)(r:RelV v u)(hn:x≠ "__name__" :=by decide)(hd:(x==("__debug__" :Str))=false:=by decide):PE X (.Name x pos) (tC v):=
 fun _ _ _ H _ I h=>YQ I hg hm hv ⟨v,H,I,r,h⟩ hn hd
variable {a b:Expr}{ta tb:TE}{pos:Pos}
def PC (X:Cx)(op:CmpOp)(a b:Expr)(t:TE):Prop:=
 ∀(pins:List (Addr×Obj)) (s:Shared) (σ:St) (H:Hp) (Q:VK),Inv X pins σ H s->t σ H Q->
  wpAny (model X.prog X.w) X.A (eval a X.env) (fun v aG=>wpAny (model X.prog X.w) X.A (eval b X.env) (fun u dH=>wpAny (model X.prog X.w) X.A (compareOp op v u) (EP X pins σ Q) X.xe dH) X.xe aG) X.xe s
theorem DW (b:Expr){op:CmpOp}(h:op≠.In)(h2:op≠.NotIn):behindInMarks op b=false:=by
 have e1:(op==CmpOp.In)=false:=by cases op<;>first |rfl |exact absurd rfl h
 have e2:(op==CmpOp.NotIn)=false:=by cases op<;>first |rfl |exact absurd rfl h2
 cases b<;>simp[behindInMarks,e1,e2]
def K1 (ta:TE):TE:=fun σ H Q=>ta σ H fun x H1=>Q (.bl (decide (x=.ag))) H1
def KS (ta:TE):TE:=fun σ H Q=>ta σ H fun x H1=>Q (.bl (!decide (x=.ag))) H1
theorem RelV.DV {x:V}{v:Value}(r:RelV x v):(v==Value.none)=decide (x=.ag):=by
 cases x with
 |ag=>cases r;rfl
 |bl _=>cases r;rfl
 |int _=>obtain⟨t,rfl⟩:=r;rfl
 |str _=>obtain⟨t,rfl⟩:=r;rfl
 |gE _=>obtain⟨t,rfl⟩:=r;rfl
 |jX _=>obtain⟨t,rfl⟩:=r;rfl
 |ref _=>cases r;rfl
 |ty _=>cases r;rfl
theorem Ju {j pos'}(ha:PE X a ta):PC X .Is a (.Constant .none j pos') (K1 ta):=by intro pins s σ H Q I h;refine au (ha pins s σ H _ I h) fun v s1 ⟨x,H1,I1,r1,q1⟩=> ?_;exact Constant_none (is_none_gen ⟨.bl _,H1,I1,by rw[r1.DV];rfl,q1⟩)
theorem Wt {j pos'}(ha:PE X a ta):PC X .IsNot a (.Constant .none j pos') (KS ta):=by intro pins s σ H Q I h;refine au (ha pins s σ H _ I h) fun v s1 ⟨x,H1,I1,r1,q1⟩=> ?_;exact Constant_none (isnot_none_gen ⟨.bl _,H1,I1,by rw[r1.DV];rfl,q1⟩)
def tB (t:TE):TT:=fun σ H Q=>t σ H fun x H1=> ∃c,x=.bl c/\Q c H1
theorem GY {op:CmpOp}{t:TE}(h:PC X op a b t)(h1:behindInMarks op b=false:=by first |exact DW _ .d .d |rfl):PE X (.Compare a [op] [b] pos) t:=fun pins s σ H Q I hw=>wpAny_Compare1 (h pins s σ H Q I hw) h1
theorem YM {op:CmpOp}{t:TE}(h:PC X op a b t)(h1:behindInMarks op b=false:=by first |exact DW _ .d .d |rfl):PT X (.Compare a [op] [b] pos) (tB t):=by intro pins s σ H Q I hw;refine wpAny_isTrue_Compare1 (au (h pins s σ H _ I hw) fun v s1 h1=>au h1 fun u s2 h2=>au h2 fun c s3 ⟨x,H1,I1,r1,q1⟩=> ?_) h1;obtain⟨d,rfl,q⟩:=q1;cases r1;exact Zcg ⟨H1,I1,q⟩
theorem Z0 {e:Expr}{t:TE}(h:PE X e t)(he:∀whole,isTrue e X.env whole=(do let v <-whole;standAt e.pos;holding [v] (truthy v)):=by intro _;rfl):PT X e (tB t):=by intro pins s σ H Q I hw;refine isTrue_plain (au (h pins s σ H _ I hw) fun v s1 ⟨x,H1,I1,r1,q1⟩=> ?_) (he _);obtain⟨d,rfl,q⟩:=q1;cases r1;exact Zcg ⟨H1,I1,q⟩
variable {tA uF:TT}{rest:List Expr}
def Ll (t u:TT):TT:=fun σ H Q=>t σ H fun c H1=>if c=true then u σ H1 Q else Q false H1
def KQ (t u:TT):TT:=fun σ H Q=>t σ H fun c H1=>if c=true then Q true H1 else u σ H1 Q
def KU (t:TT):TT:=fun σ H Q=>t σ H fun c H1=>Q (!c) H1
theorem Cr (ha:PT X a tA):PW X (.BoolOp .And [a] pos) tA:=by
 intro wh pins s σ H Q I h;refine isTrue_and (au (ha pins s σ H Q I h) fun c s1 e=> ?_);cases c with
 |true=>exact isTrue_and_nil e
 |false=>exact e
theorem WJ (ha:PT X a tA):PW X (.BoolOp .Or [a] pos) tA:=by
 intro wh pins s σ H Q I h;refine isTrue_or (au (ha pins s σ H Q I h) fun c s1 e=> ?_);cases c with
 |false=>exact isTrue_or_nil e
 |true=>exact e
theorem Cc (ha:PT X a tA)(hb:PW X (.BoolOp .And (b::rest) pos) uF):PW X (.BoolOp .And (a::b::rest) pos) (Ll tA uF):=by
 intro wh pins s σ H Q I h;refine isTrue_and (au (ha pins s σ H _ I h) fun c s1 ⟨H1,I1,q1⟩=> ?_);cases c with
 |true=>exact hb wh pins s1 σ H1 Q I1 q1
 |false=>exact⟨H1,I1,q1⟩
theorem tW (ha:PT X a tA)(hb:PW X (.BoolOp .Or (b::rest) pos) uF):PW X (.BoolOp .Or (a::b::rest) pos) (KQ tA uF):=by
 intro wh pins s σ H Q I h;refine isTrue_or (au (ha pins s σ H _ I h) fun c s1 ⟨H1,I1,q1⟩=> ?_);cases c with
 |true=>exact⟨H1,I1,q1⟩
 |false=>exact hb wh pins s1 σ H1 Q I1 q1
theorem Yw (ha:PT X a tA):PT X (.UnaryOp .Not a pos) (KU tA):=by intro pins s σ H Q I h;exact isTrue_not (ha pins s σ H (fun c H1=>Q (!c) H1) I h)
def Lk (ta tb:TE):TE:=fun σ H Q=>ta σ H fun x H1=> ∃c,x=.bl c/\if c=true then tb σ H1 Q else Q (.bl false) H1
def KO (ta tb:TE):TE:=fun σ H Q=>ta σ H fun x H1=> ∃c,x=.bl c/\if c=true then Q (.bl true) H1 else tb σ H1 Q
def KR (ta:TE):TE:=fun σ H Q=>ta σ H fun x H1=> ∃c,x=.bl c/\Q (.bl (!c)) H1
theorem YN {op}{t:TE}(h:PE X a t):PE X (.BoolOp op [a] pos) t:=fun pins s σ H Q I hw=>BoolOp_one (h pins s σ H Q I hw)
theorem Jt (ha:PE X a ta)(hb:PE X (.BoolOp .And (b::rest) pos) tb):PE X (.BoolOp .And (a::b::rest) pos) (Lk ta tb):=by
 intro pins s σ H Q I h;refine BoolOp_and (au (ha pins s σ H _ I h) fun v s1 ⟨x,H1,I1,r1,q1⟩=> ?_);obtain⟨c,rfl,q1⟩:=q1;cases r1;refine Zcg ?_;cases c with
 |true=>exact hb pins s1 σ H1 Q I1 q1
 |false=>exact⟨.bl false,H1,I1,rfl,q1⟩
theorem SJ (ha:PE X a ta)(hb:PE X (.BoolOp .Or (b::rest) pos) tb):PE X (.BoolOp .Or (a::b::rest) pos) (KO ta tb):=by
 intro pins s σ H Q I h;refine BoolOp_or (au (ha pins s σ H _ I h) fun v s1 ⟨x,H1,I1,r1,q1⟩=> ?_);obtain⟨c,rfl,q1⟩:=q1;cases r1;refine Zcg ?_;cases c with
 |false=>exact hb pins s1 σ H1 Q I1 q1
 |true=>exact⟨.bl true,H1,I1,rfl,q1⟩
theorem TF (ha:PE X a ta):PE X (.UnaryOp .Not a pos) (KR ta):=by intro pins s σ H Q I h;refine UnaryOp_ (au (ha pins s σ H _ I h) fun v s1 ⟨x,H1,I1,r1,q1⟩=> ?_);obtain⟨c,rfl,q1⟩:=q1;cases r1;exact not_of (Zcg ⟨.bl (!c),H1,I1,rfl,q1⟩)
def xY (t:TT)(ta tb:TE):TE:=fun σ H Q=>t σ H fun c H1=>if c=true then ta σ H1 Q else tb σ H1 Q
theorem Yt {c:Expr}(hc:PT X c tA)(ha:PE X a ta)(hb:PE X b tb):PE X (.IfExp c a b pos) (xY tA ta tb):=by
 intro pins s σ H Q I h;refine wpAny_IfExp (au (hc pins s σ H _ I h) fun d s1 ⟨H1,I1,q1⟩=> ?_);cases d with
 |true=>exact ha pins s1 σ H1 Q I1 q1
 |false=>exact hb pins s1 σ H1 Q I1 q1
end
def ao (K:ZgE)(H:Hp)(a:Addr)(xs:List V):Prop:=
 Rd H a (.lst xs)∨
  ∃(o:Obj) (ae:Array Value) (n:Nat),K.lookup a=some o/\o.cls=.type "list" /\o.dict=none/\o.data=.seq ae n/\ae.size<=sizeLine/\Vals xs ae.toList
def aq (K:ZgE)(H:Hp)(a:Addr)(xs:List V):Prop:=
 Rd H a (.tup xs)∨
  (∃(o:Obj) (ae:Array Value) (n:Nat),K.lookup a=some o/\o.cls=.type "tuple" /\o.data=.seq ae n/\ae.size<=sizeLine/\Vals xs ae.toList)∨H a=some (.par xs)
def RK:Value->Option V
 | .none=>some .ag
 | .bool b=>some (.bl b)
 | .int i _=>some (.int i)
 | .str x _=>some (.str x)
 | .bytes b _=>some (.gE b)
 | .float b _=>some (.jX b)
 | .ref a=>some (.ref a)
 | .type n=>some (.ty n)
 |_=>none
theorem RelV.abs {x:V}{u:Value}(r:RelV x u):RK u=some x:=by
 cases x with
 |ag=>cases r;rfl
 |bl _=>cases r;rfl
 |int _=>obtain⟨t,rfl⟩:=r;rfl
 |str _=>obtain⟨t,rfl⟩:=r;rfl
 |gE _=>obtain⟨t,rfl⟩:=r;rfl
 |jX _=>obtain⟨t,rfl⟩:=r;rfl
 |ref _=>cases r;rfl
 |ty _=>cases r;rfl
theorem RelV.inj {x y:V}{u:Value}(r:RelV x u)(q:RelV y u):x=y:=Za3 (r.abs.symm.trans q.abs)
theorem Vals.inj:∀{xs ys:List V}{us:List Value},Vals xs us->Vals ys us->xs=ys
 |_,_,_,.nil,.nil=>rfl
 |_,_,_,.cons r t,.cons r' t'=>by rw[r.inj r',Vals.inj t t']
section
variable {X:Cx}{pins:List (Addr×Obj)}{σ:St}{H:Hp}{s:Shared}{a:Addr}{xs ys:List V}
theorem ao.of {K:ZgE}(h:H a=some (.lst xs)):ao K H a xs:=.inl (.inl h)
theorem aq.of {K:ZgE}(h:H a=some (.tup xs)):aq K H a xs:=.inl (.inl h)
theorem aq.Ab {K:ZgE}(h:H a=some (.par xs)):aq K H a xs:=.inr (.inr h)
theorem Inv.list (I:Inv X pins σ H s)(h:ao X.K H a xs):∃ae:List Value,Vals xs ae/\PlainL s.heap a ae.toArray/\xs.length<=sizeLine:=by
 rcases h with h |⟨o,ae,n,hk,hc,hd,hs,hz,r⟩
 ·obtain⟨z,ae,n,r,e⟩:=h.ok I.ar;exact⟨ae,r,⟨_,n,e,rfl,rfl,rfl⟩,z⟩
 ·refine⟨ae.toList,r,⟨o,n,I.bA a o hk,hc,hd,by simpa using hs⟩,?_⟩;have e:=r.length;simp only[Zbq]at e;omega
theorem Inv.tuple (I:Inv X pins σ H s)(h:aq X.K H a xs):∃ae:List Value,Vals xs ae/\IsTup s.heap a ae.toArray/\xs.length<=sizeLine:=by
 rcases h with h |⟨o,ae,n,hk,hc,hs,hz,r⟩ |h
 ·obtain⟨z,ae,r,p,_⟩:=h.ok I.ar;exact⟨ae,r,p,z⟩
 rotate_left
 ·obtain⟨z,ae,r,p⟩:=(show bN X.prog X.w H s.heap a (.par xs) from I.ar a _ h);exact⟨ae,r,p,z⟩
 ·refine⟨ae.toList,r,⟨o,I.bA a o hk,hc,n,by simpa using hs⟩,?_⟩;have e:=r.length;simp only[Zbq]at e;omega
theorem Inv.vI (I:Inv X pins σ H s)(h:ao X.K H a xs)(h':ao X.K H a ys):xs=ys:=by
 obtain⟨ae,r,⟨o,n,e,_,_,d⟩,_⟩:=I.list h;obtain⟨its',r',⟨o',n',e',_,_,d'⟩,_⟩:=I.list h';rw[e]at e';cases e';rw[d]at d';injection d' with d1 _;have:ae=its':=by simpa using congrArg Array.toList d1
 subst this;exact r.inj r'
theorem Inv.C7 (I:Inv X pins σ H s)(h:aq X.K H a xs)(h':aq X.K H a ys):xs=ys:=by
 obtain⟨ae,r,⟨o,e,_,n,d⟩,_⟩:=I.tuple h;obtain⟨its',r',⟨o',e',_,n',d'⟩,_⟩:=I.tuple h';rw[e]at e';cases e';rw[d]at d';injection d' with d1 _;have:ae=its':=by simpa using congrArg Array.toList d1
 subst this;exact r.inj r'
end
abbrev Cx.fq (X:Cx)(E:Value->Shared->Prop):Cx:= {X with xe:=E}
abbrev Cx.hU (X:Cx):Cx:=X.fq fun _ _=>False
theorem Cx.Ok.fq {X:Cx}(ok:X.Ok)(E:Value->Shared->Prop):(X.fq E).Ok:=
 ⟨ok.mod,ok.kind,ok.glob,ok.blt,ok.above,ok.inj,ok.has,ok.jZ,ok.hd,ok.frames,ok.kL,ok.jY,ok.bs,ok.iz,ok.kz,ok.jB,ok.dg,ok.gB⟩
theorem Cx.Ok.i9 {X:Cx}{E:Value->Shared->Prop}(ok:(X.fq E).Ok):X.Ok:=
 ⟨ok.mod,ok.kind,ok.glob,ok.blt,ok.above,ok.inj,ok.has,ok.jZ,ok.hd,ok.frames,ok.kL,ok.jY,ok.bs,ok.iz,ok.kz,ok.jB,ok.dg,ok.gB⟩
section
variable {X:Cx}{pins:List (Addr×Obj)}{σ:St}{H:Hp}{s:Shared}{E:Value->Shared->Prop}
theorem Inv.fq (I:Inv X pins σ H s)(E:Value->Shared->Prop):Inv (X.fq E) pins σ H s:=⟨I.ok.fq E,I.os,I.bare,I.base,I.loc,I.cell,I.free,I.fO,I.pin,I.ar,I.len⟩
theorem Inv.i9 (I:Inv (X.fq E) pins σ H s):Inv X pins σ H s:=⟨I.ok.i9,I.os,I.bare,I.base,I.loc,I.cell,I.free,I.fO,I.pin,I.ar,I.len⟩
theorem SP.i9 {D:Ends}{f:Flow}{s':Shared}(h:SP (X.fq E) pins D f s'):SP X pins D f s':=by
 cases f with
 |next=>obtain⟨ah,H',I,q⟩:=h;exact⟨ah,H',I.i9,q⟩
 |brk=>obtain⟨ah,H',I,q⟩:=h;exact⟨ah,H',I.i9,q⟩
 |cont=>obtain⟨ah,H',I,q⟩:=h;exact⟨ah,H',I.i9,q⟩
 |ret u=>obtain⟨v,ah,H',I,r,q⟩:=h;exact⟨v,ah,H',I.i9,r,q⟩
theorem dG.hU {st:List Stmt}{t:TS}(h:dG X.hU st t):dG X st t:=fun pins s σ H D I hw=>
 ZaI (h pins s σ H D (I.fq _) hw) (fun _ _ q=>q.i9) fun _ _ z=>False.elim z
end
section
variable {X:Cx}{st:Stmt}{rest:List Stmt}{t u:TS}{e:Expr}{te:TE}{pos:Pos}
def Dg:TS:=fun D σ H=>D.nx σ H
def xU (t u:TS):TS:=fun D σ H=>t {D with nx:=u D} σ H
theorem Zy:dG X [] Dg:=fun _ _ σ H _ I h=>ZeN ⟨σ,H,I,h⟩
theorem Ze (h1:PS X st t)(h2:dG X rest u):dG X (st::rest) (xU t u):=by
 intro pins s σ H D I h;refine Zez (au (h1 pins s σ H {D with nx:=u D} I h) fun f s1 q=> ?_);cases f with
 |next=>obtain⟨ah,H',I',q⟩:=q;exact h2 pins s1 ah H' D I' q
 |ret v=>exact q
 |brk=>exact q
 |cont=>exact q
theorem Zg (h1:PS X st t):dG X [st] t:=by
 intro pins s σ H D I h;refine Zez (au (h1 pins s σ H D I h) fun f s1 q=> ?_);cases f with
 |next=>exact ZeN q
 |ret v=>exact q
 |brk=>exact q
 |cont=>exact q
theorem Inv.quiet {pins:List (Addr×Obj)}{σ:St}{H:Hp}{s:Shared}(I:Inv X pins σ H s):interactive X.env=false:=by simp[interactive,I.ok.kind]
def K8 (te:TE):TS:=fun D σ H=>te σ H fun _ H1=>D.nx σ H1
theorem ZR (he:PE X e te)(hs:swapsWith e none pos.line X.env=pure false:=by rfl):PS X (.Expr e pos) (K8 te):=by intro pins s σ H D I h;exact wpAny_Expr_any (au (he pins s σ H _ I h) fun v s1 ⟨x,H1,I1,r1,q1⟩=> ⟨σ,H1,I1,q1⟩) I.quiet hs
def xV (te:TE):TS:=fun D σ H=>te σ H D.rt
theorem Zo (he:PE X e te):PS X (.Return (some e) pos) (xV te):=by intro pins s σ H D I h;exact wpAny_Return_some (au (he pins s σ H _ I h) fun v s1 ⟨x,H1,I1,r1,q1⟩=> ⟨x,σ,H1,I1,r1,q1⟩)
def K2 (c:TT)(t u:TS):TS:=fun D σ H=>c σ H fun b H1=>if b=true then t D σ H1 else u D σ H1
theorem ZN {c:Expr}{a b:List Stmt}{tc:TT}(hc:PT X c tc)(ha:dG X a t)(hb:dG X b u):PS X (.If c a b pos) (K2 tc t u):=by
 intro pins s σ H D I h;refine wpAny_If (au (hc pins s σ H _ I h) fun d s1 ⟨H1,I1,q1⟩=> ?_);cases d with
 |true=>exact ha pins s1 σ H1 D I1 q1
 |false=>exact hb pins s1 σ H1 D I1 q1
def KW:TS:=fun _ _ _=>False
theorem ZP {Lq:List Stmt} :dG X Lq KW:=fun _ _ _ _ _ _ h=>h.elim
end
abbrev TG:=V->St->Hp->(St->Hp->Prop)->Prop
abbrev kE:=List V->St->Hp->(St->Hp->Prop)->Prop
def PG (X:Cx)(target:Expr)(t:TG):Prop:=
 ∀(pins:List (Addr×Obj)) (s:Shared) (σ:St) (H:Hp) (v:V) (u:Value) (Q:St->Hp->Prop),Inv X pins σ H s->RelV v u->t v σ H Q->
  wpAny (model X.prog X.w) X.A (assign target X.env u) (fun _ s'=> ∃ah H',Inv X pins ah H' s'/\Q ah H') X.xe s
def tZ (X:Cx)(ts:List Expr)(t:kE):Prop:=
 ∀(pins:List (Addr×Obj)) (s:Shared) (σ:St) (H:Hp) (vs:List V) (us:List Value) (Q:St->Hp->Prop),Inv X pins σ H s->Vals vs us->t vs σ H Q->
  wpAny (model X.prog X.w) X.A (assignInOrder ((assignEach ts X.env).map (·.2)) us) (fun _ s'=> ∃ah H',Inv X pins ah H' s'/\Q ah H') X.xe s
abbrev Cv:=V->V->V->Hp->(Hp->Prop)->Prop
def IC (X:Cx)(t:Cv):Prop:=
 ∀(pins:List (Addr×Obj)) (s:Shared) (σ:St) (H:Hp) (o i v:V) (ov iv u:Value) (Q:Hp->Prop),Inv X pins σ H s->RelV o ov->RelV i iv->RelV v u->t o i v H Q->
  wpAny (model X.prog X.w) X.A (setItem ov iv u) (fun _ s'=> ∃H',Inv X pins σ H' s'/\Q H') X.xe s
section
variable {X:Cx}{pos:Pos}
def bQ (i:Nat):TG:=fun v σ H Q=>Q (σ.set i (some v)) H
theorem Zx {i:Nat}{x:Str}(hN:X.N.Nodup)(hi:X.N[i]? =some x)(hx:Loc X.env.scope x)(hf:X.fn x=true∨X.env.scope.names.lookup x=some .local:=by first |exact .inl rfl |exact .inr rfl |assumption):PG X (.Name x pos) (bQ i):=by intro pins s σ H v u Q I r h;exact Zfd (Yj I hN hi hx r (fun s' I'=> ⟨_,H,I',h⟩) hf)
def jW:kE:=fun vs σ H Q=>vs=[]/\Q σ H
def cH (t:TG)(u:kE):kE:=fun vs σ H Q=> ∃v r,vs=v::r/\t v σ H fun ah H'=>u r ah H' Q
theorem ZS:tZ X [] jW:=by intro pins s σ H vs us Q I r h;obtain⟨e,h⟩:=h;subst e;cases r;exact Zel ⟨σ,H,I,h⟩
theorem Zm {e:Expr}{es:List Expr}{t:TG}{u:kE}(h1:PG X e t)(h2:tZ X es u)
  (hs:(assignEach (e::es) X.env).map (·.2)=assign e X.env::(assignEach es X.env).map (·.2):=by rfl):tZ X (e::es) (cH t u):=by
 intro pins s σ H vs us Q I r h;obtain⟨v,vr,e1,h⟩:=h;subst e1;cases r with
 |cons r rr=>rw[hs];refine Zcu (au (h1 pins s σ H _ _ _ I r h) fun _ s1 ⟨jI,H1,I1,q1⟩=> ?_);exact h2 pins s1 jI H1 _ _ Q I1 rr q1
def jV (K:ZgE)(n:Nat)(t:kE):TG:=fun v σ H Q=> ∃a xs,v=.ref a/\aq K H a xs/\xs.length=n/\t xs σ H Q
theorem Z3 {es:List Expr}{k:Nat}{t:kE}{n:Nat}(hc:X.calm=true)(h:tZ X es t)
  (hn:(assignEach es X.env).length=n:=by rfl) (fH:(assignEach es X.env).findIdx? (·.1)=none:=by rfl):PG X (.Tuple es k pos) (jV X.K n t):=by
 intro pins s σ H v u Q I r hw;obtain⟨a,xs,e1,hq,hl,hw⟩:=hw;subst e1;cases r;obtain⟨ae,rv,ht,hz⟩:=I.tuple hq;refine RF (I.eC hc) ht (by simp[hn,<-hl,rv.length]) fH fun h' hx=> ?_;have I1:Inv X pins σ H {s with heap:=h'} :=I.kept (t':=s.toks) fun b o e=>hx b o (Zay (Zal e)) e;exact h pins _ σ H xs _ Q I1 (by simpa using rv) hw
def Qq (to ti:TE)(t:Cv):TG:=fun v σ H Q=>to σ H fun o H1=>ti σ H1 fun i H2=>t o i v H2 fun H3=>Q σ H3
theorem B8 {o i:Expr}{to ti:TE}{t:Cv}(ho:PE X o to)(hi:PE X i ti)(hs:IC X t)
    (ha:∀v,assign (.Subscript o i pos) X.env v=(do
      let ov <-holding [v] (eval o X.env)
      let iv <-holding [v,ov] (eval i X.env)
      standAt pos
      holding [v,ov,iv] (setItem ov iv v)
      release [v,ov,iv] []):=by intro _;rfl):PG X (.Subscript o i pos) (Qq to ti t):=by
  intro pins s σ H v u Q I r h;rw[ha];refine eg (ZaU (au (ho pins s σ H _ I h) fun ov s1 ⟨x,H1,I1,r1,q1⟩=> ?_));refine eg (ZaU (au (hi pins s1 σ H1 _ I1 q1) fun iv s2 ⟨y,H2,I2,r2,q2⟩=> ?_));refine eg (Zbg (eg (ZaU (au (hs pins s2 σ H2 x y v ov iv u _ I2 r1 r2 r q2) fun _ s3 ⟨H3,I3,q3⟩=> ?_))));exact wpAny_release ⟨σ,H3,I3,q3⟩
def qW (te:TE)(g:TG):TS:=fun D σ H=>te σ H fun x H1=>g x σ H1 D.nx
theorem Yp {tg e:Expr}{te:TE}{g:TG}(he:PE X e te)(hg:PG X tg g)(hs:swapsWithSole [tg] e pos.line X.env=pure false:=by rfl)(hw:swappedStores [tg] e X.env=pure none:=by rfl)
  (h1:(assignEach [tg] X.env).map (·.2)=[assign tg X.env]:=by rfl):PS X (.Assign [tg] e pos) (qW te g):=by
 intro pins s σ H D I h;refine wpAny_Assign_stores (au (he pins s σ H _ I h) fun v s1 ⟨x,H1,I1,r1,q1⟩=> ?_) hs hw;rw[h1];exact au (hg pins s1 σ H1 x v _ I1 r1 q1) fun _ s2 q=>q
theorem ZF {i:Nat}{x:Str}{e:Expr}{te:TE}{pos':Pos}(hN:X.N.Nodup)(hi:X.N[i]? =some x)(hx:Loc X.env.scope x)(he:PE X e te)(hs:swapsWith e (some (.Name x pos')) pos.line X.env=pure false:=by rfl)(hf:X.fn x=true∨X.env.scope.names.lookup x=some .local:=by first |exact .inl rfl |exact .inr rfl |assumption):
  PS X (.Assign [.Name x pos'] e pos) (qW te (bQ i)):=by
 intro pins s σ H D I h;refine wpAny_Assign_Name (au (he pins s σ H _ I h) fun v s1 ⟨y,H1,I1,r1,q1⟩=> ?_) hs;exact Yj I1 hN hi hx r1 (fun s2 I2=> ⟨_,H1,I2,q1⟩) hf
def KN (i j:Nat)(ta:TA):TS:=fun D σ H=>ta σ H fun vs H1=> ∃v w,vs=[v,w]/\D.nx ((σ.set i (some v)).set j (some w)) H1
theorem Ca {i j:Nat}{x y:Str}{a b:Expr}{ta:TA}{px py pt:Pos}{kt k2 mT}(hc:X.calm=true)(hN:X.N.Nodup)(hi:X.N[i]? =some x)(hj:X.N[j]? =some y)(Bb:i≠j)
  (hx:X.env.scope.names.lookup x=some .local) (hy:X.env.scope.names.lookup y=some .local) (ha:PA X [a,b] ta)
  (hw:swappedStores [.Tuple [.Name x px,.Name y py] kt pt] (.Tuple [a,b] k2 mT) X.env=pure (some [x,y]))
  (hs:swapsWithSole [.Tuple [.Name x px,.Name y py] kt pt] (.Tuple [a,b] k2 mT) pos.line X.env=pure false:=by rfl):
  PS X (.Assign [.Tuple [.Name x px,.Name y py] kt pt] (.Tuple [a,b] k2 mT) pos) (KN i j ta):=by
 intro pins s σ H D I h;rw[exec_Assign_arm];refine eg (Zbg ?_);rw[hs];refine eg (Zao ?_);rw[ZaD .d];refine eg (Tuple_ (au (ha _ pins s σ H _ I h) fun us s1 ⟨vs,H1,I1,r1,q1⟩=> ?_));obtain⟨v,w,e1,q1⟩:=q1;subst e1;obtain⟨u1,u2,rfl,rv,gL⟩:∃u1 u2,us=[u1,u2]/\RelV v u1/\RelV w u2:=by
  cases r1 with
  |cons p q=>
   cases q with
   |cons p' q'=>cases q';exact⟨_,_,rfl,p,p'⟩
 refine ZbB ?_ bo;have I2:Inv X pins σ H1 {s1 with heap:=s1.heap.push {cls:=.type "tuple",data:=.seq [u1,u2].toArray} } :=I1.kept (t':=s1.toks) fun b o e=>gc _ e;rw[hw];refine eg (Zao ?_);show wpAny (model X.prog X.w) X.A (do rule "assign.swapped-stores";let items <-unpackItems (.ref s1.heap.objs.size) 2 none;assignInOrder [fun v=>bindName X.env y v,fun v=>bindName X.env x v] items.reverse;pure Flow.next) _ _ _;refine eg (Zdu (eg (xG (items:= #[u1,u2]) ((I1.eC hc).keeps fun b o q=>gc _ q) (IsTup.new s1.heap _) fun h' iK=> ?_)));have I3:=I2.kept (h':=h') (t':=s1.toks) fun b o e=>iK b o (Zay (Zal e)) e;show wpAny _ _ (assignInOrder [fun v=>bindName X.env y v,fun v=>bindName X.env x v] [u2,u1] >>=fun _=>pure Flow.next) _ _ _;refine eg (Zcu (Zer (Yj I3 hN hj (.inl hy) gL (fun s2 I4=> ?_) (.inr hy))));refine Zcu (Zer (Yj I4 hN hi (.inl hx) rv (fun s3 I5=>Zel (Zao ?_)) (.inr hx)));rw[List.set_comm _ _ (ZcL Bb)]at I5;exact⟨_,H1,I5,q1⟩
def KC (c:TT)(tb:TS):TS:=fun D σ H=> ∃W:Nat->St->Hp->Prop,(∃m,W m σ H)/\∀m σ H,W m σ H->
 c σ H fun b H1=>if b=true then ∃N:St->Hp->Prop,(∀ah H',N ah H'->∃m',m'<m/\W m' ah H')/\tb {D with nx:=N,ct:=N,bk:=D.nx} σ H1 else D.nx σ H1
theorem Xr {c:Expr}{body:List Stmt}{tc:TT}{tb:TS}(hp:PassesOwn (model X.prog X.w) X.A X.env X.xe)(hc:PT X c tc)(hb:dG X body tb):PS X (.While c body [] pos) (KC tc tb):=by
 intro pins s σ H D I h;obtain⟨W,⟨m0,w0⟩,turn⟩:=h;refine wpAny_While (codeAny_whileLoop (fun n s'=> ∃ah H',Inv X pins ah H' s'/\W n ah H') ?_ m0 ⟨σ,H,I,w0⟩);rintro n s1 ⟨jI,H1,I1,w1⟩;refine Zdf hp (au (hc pins s1 jI H1 _ I1 (turn n jI H1 w1)) fun b s2 ⟨H2,I2,q2⟩=> ?_);cases b with
 |true=>
  obtain⟨N,hN,q2⟩:=q2;rw[ZaG rfl];refine Zdf hp (au (hb pins s2 jI H2 _ I2 q2) fun f s3 q3=> ?_);cases f with
  |next=>obtain⟨cK,H3,I3,n3⟩:=q3;obtain⟨m',hm,w3⟩:=hN cK H3 n3;exact⟨m',hm,cK,H3,I3,w3⟩
  |cont=>obtain⟨cK,H3,I3,n3⟩:=q3;obtain⟨m',hm,w3⟩:=hN cK H3 n3;exact⟨m',hm,cK,H3,I3,w3⟩
  |brk=>exact q3
  |ret v=>exact q3
 |false=>rw[ZaD Zaj];exact ZeN ⟨jI,H2,I2,q2⟩
end
structure It where
 go:Nat->Hp->Prop
 mn:Nat->Hp->V->Hp->Prop
 stop:Nat->Hp->Prop
def bb (X:Cx)(pins:List (Addr×Obj))(H:Hp)(b:Addr):Prop:=
 H b=none/\b≠X.env.locals/\b∉X.fs/\(b∈X.ex∨X.bY.heap.objs.size<=b)/\(∀x c,X.env.cells.lookup x=some c->c≠b)/\∀p∈X.pn++pins,p.1≠b
theorem Inv.lY {X:Cx}{pins:List (Addr×Obj)}{σ:St}{H H':Hp}{s:Shared}{b:Addr}(I:Inv X pins σ H s)(hb:s.heap.objs.size<=b)(hn:H' b=none):bb X pins H' b:=by
 refine⟨hn,ZeY (Zaw I.lt hb),I.Nc hb,.inr (ZaL I.sz hb),fun x c e z=> ?_,fun p hp z=> ?_⟩
 ·obtain⟨v,q⟩:=I.cell x c e;exact absurd (Zaw q.lt (by rw[z];exact hb)) (Zba _)
 ·exact absurd (Zaw (Zal (I.pin p hp).1) (by rw[z];exact hb)) (Zba _)
structure Turn (P:Program)(w:World)(K:ZgE)(hd:Option Value)(tg:Expr)(J:It)(fp:List Addr)(it:Addr)(tn:Nat->Heap->Prop):Prop where
 mem:it∈fp
 obj:∀i h,tn i h->∀b∈fp,∃o,h.get? b=some o/\∀v,o.data≠.cell v
 keep:∀i h h',tn i h->(∀b∈fp,∀o,h.get? b=some o->h'.get? b=some o)->tn i h'
 item:∀(X:Cx),X.prog=P->X.w=w->X.K=K->X.calm=true->X.A.handled=hd->∀(i:Nat) (pins:List (Addr×Obj)) (s:Shared) (σ:St) (H:Hp) (E:Value->Shared->Prop),Inv X pins σ H s->(∀b∈fp,bb X pins H b)->tn i s.heap->J.go i H->
  wpAny (model P w) X.A (pyNext (.ref it)) (fun r s1=> ∃u,r=some u/\
   wpAny (model P w) X.A (letOwnedTupleGo tg (.ref it) u) (fun _ s2=> ∃x H',Inv X pins σ H' s2/\RelV x u/\J.mn i H x H'/\tn (i+1) s2.heap/\∀b∈fp,H' b=none) E s1) E s
 done:∀(X:Cx),X.prog=P->X.w=w->X.K=K->X.calm=true->X.A.handled=hd->∀(i:Nat) (pins:List (Addr×Obj)) (s:Shared) (σ:St) (H:Hp) (E:Value->Shared->Prop),Inv X pins σ H s->(∀b∈fp,bb X pins H b)->tn i s.heap->J.stop i H->
  wpAny (model P w) X.A (pyNext (.ref it)) (fun r s1=>r=none/\Inv X pins σ H s1) E s
 self:∀(A:Around) (i:Nat) (s:Shared) (Q:Value->Shared->Prop) (E:Value->Shared->Prop),tn i s.heap->Q (.ref it) s->wpAny (model P w) A (pyIter (.ref it)) Q E s
abbrev TI:=St->Hp->(It->Hp->Prop)->Prop
def ID (X:Cx)(pins:List (Addr×Obj))(σ:St)(tg:Expr)(R:It->Hp->Prop)(jN:Value)(s2:Shared):Prop:=
 ∃(it:Addr) (fp:List Addr) (tn:Nat->Heap->Prop) (J:It) (H':Hp),jN=.ref it/\Inv X pins σ H' s2/\Turn X.prog X.w X.K X.A.handled tg J fp it tn/\tn 0 s2.heap/\(∀b∈fp,bb X pins H' b)/\R J H'
def PI (X:Cx)(tg iter:Expr)(wi:TI):Prop:=
 ∀(pins:List (Addr×Obj)) (s:Shared) (σ:St) (H:Hp) (R:It->Hp->Prop),Inv X pins σ H s->wi σ H R->
  wpAny (model X.prog X.w) X.A (eval iter X.env) (fun v s1=>wpAny (model X.prog X.w) X.A (pyIter v) (ID X pins σ tg R) X.xe s1) X.xe s
theorem BY {M:Model}{A:Around}{E:Value->Shared->Prop}{s:Shared}{tg:Expr}{it:Addr}{u:Value}{o:Obj}{n:String}{vs:Array Value}{Q:Unit->Shared->Prop}(ho:s.heap.get? it=some o)(hc:o.cls=.type n)(hd:o.data=.fields vs)
    (hn:["enumerate", "zip", "dict_itemiterator", "dict_reverseitemiterator", "odict_iterator", "itertools.zip_longest", "itertools.pairwise"].contains n=false) (hQ:Q () s):wpAny M A (letOwnedTupleGo tg (.ref it) u) Q E s:=by
  unfold letOwnedTupleGo;cases tg<;>first
    |exact Zao hQ
    |(cases u<;>first
        |exact Zao hQ
        |(refine eg (wpAny_load ho ?_)
          rw[hc,hd];show wpAny M A (if (["enumerate", "zip", "dict_itemiterator", "dict_reverseitemiterator", "odict_iterator", "itertools.zip_longest", "itertools.pairwise"].contains n&&vs[0]? ==some (rawInt _))=true then _ else _) Q E s;rw[ZaD (by intro h;rw[hn,Zf6]at h;cases h)];exact Zao hQ))
def oQ (K:ZgE)(a:Addr):It:=
 ⟨fun i H=> ∃xs x,ao K H a xs/\xs[i]? =some x,fun i H x H'=>H'=H/\∀xs,ao K H a xs->xs[i]? =some x,fun i H=> ∃xs,ao K H a xs/\xs.length<=i⟩
def qL (K:ZgE)(a:Addr):It:=
 ⟨fun i H=> ∃xs x,aq K H a xs/\xs[i]? =some x,fun i H x H'=>H'=H/\∀xs,aq K H a xs->xs[i]? =some x,fun i H=> ∃xs,aq K H a xs/\xs.length<=i⟩
def oO (lo:Int)(n:Nat):It:=⟨fun i _=>i<n,fun i H x H'=>H'=H/\x=.int (lo+i),fun i _=>n<=i⟩
theorem XY {P:Program}{w:World}{hd:Option Value}{K:ZgE}{tg:Expr}(a it:Addr):Turn P w K hd tg (oQ K a) [it] it (fun i h=>h.IsListIter it a i) where
 mem:=by simp
 obj:=fun i h st b hb=>by
  have e:b=it:=by simpa using hb
  subst e;obtain⟨o,e,c,d⟩:=st;exact⟨o,e,fun v z=>by rw[d]at z;cases z⟩
 keep:=fun i h h' st k=>st.at fun o e=>k it (by simp) o e
 item:=by intro X hP hw hK hc hh i pins s σ H E I hf st hg;subst hP hw hK;obtain⟨xs,x,hq,hx⟩:=hg;obtain⟨ae,rv,p,hz⟩:=I.list hq;obtain⟨u,hu,ru⟩:=rv.get hx;obtain⟨f0,f1,f2,f3,f4,f5⟩:=hf it (by simp);refine ZcV st p.isList (x:=u) (by simpa using hu) fun h' av sb=> ?_;have I1:Inv X pins σ H {s with heap:=h'} :=I.turned (t':=s.toks) (fun b o hb e=> (sb.2 b hb).trans e) f0 f1 f3 f4 f5;obtain⟨o,e,c,d⟩:=id av;exact⟨u,rfl,BY (s:= {s with heap:=h'}) e c d .d ⟨x,H,I1,ru,⟨rfl,fun ys hy=>by rw[I.vI hy hq];exact hx⟩,av,fun b hb=> (hf b hb).1⟩⟩
 done:=by intro X hP hw hK hc hh i pins s σ H E I hf st hg;subst hP hw hK;obtain⟨xs,hq,hx⟩:=hg;obtain⟨ae,rv,p,hz⟩:=I.list hq;obtain⟨f0,f1,f2,f3,f4,f5⟩:=hf it (by simp);have hl:=rv.length;exact JL (I.eC hc) st p.isList (by simp;omega) fun h' eb=> ⟨rfl,I.turned (t':=s.toks) (fun b o hb e=>eb b o hb e) f0 f1 f3 f4 f5⟩
 self:=fun _ _ _ _ _ st h=>Zet st h
theorem Zbs {P:Program}{w:World}{hd:Option Value}{K:ZgE}{tg:Expr}(a it:Addr):Turn P w K hd tg (qL K a) [it] it (fun i h=>h.IsTupleIter it a i) where
 mem:=by simp
 obj:=fun i h st b hb=>by
  have e:b=it:=by simpa using hb
  subst e;obtain⟨o,e,c,d⟩:=st;exact⟨o,e,fun v z=>by rw[d]at z;cases z⟩
 keep:=fun i h h' st k=>st.at fun o e=>k it (by simp) o e
 item:=by intro X hP hw hK hc hh i pins s σ H E I hf st hg;subst hP hw hK;obtain⟨xs,x,hq,hx⟩:=hg;obtain⟨ae,rv,p,hz⟩:=I.tuple hq;obtain⟨u,hu,ru⟩:=rv.get hx;obtain⟨f0,f1,f2,f3,f4,f5⟩:=hf it (by simp);refine wpAny_pyNext_tuple_item st (show s.heap.IsTuple a ae.toArray from p) (x:=u) (by simpa using hu) fun h' av sb=> ?_;have I1:Inv X pins σ H {s with heap:=h'} :=I.turned (t':=s.toks) (fun b o hb e=> (sb.2 b hb).trans e) f0 f1 f3 f4 f5;obtain⟨o,e,c,d⟩:=id av;exact⟨u,rfl,BY (s:= {s with heap:=h'}) e c d .d ⟨x,H,I1,ru,⟨rfl,fun ys hy=>by rw[I.C7 hy hq];exact hx⟩,av,fun b hb=> (hf b hb).1⟩⟩
 done:=by intro X hP hw hK hc hh i pins s σ H E I hf st hg;subst hP hw hK;obtain⟨xs,hq,hx⟩:=hg;obtain⟨ae,rv,p,hz⟩:=I.tuple hq;obtain⟨f0,f1,f2,f3,f4,f5⟩:=hf it (by simp);have hl:=rv.length;exact HP (I.eC hc) st (show s.heap.IsTuple a ae.toArray from p) (by simp;omega) fun h' eb=> ⟨rfl,I.turned (t':=s.toks) (fun b o hb e=>eb b o hb e) f0 f1 f3 f4 f5⟩
 self:=fun _ _ _ _ _ st h=>wpAny_pyIter_tupleiter st h
theorem Zbt {P:Program}{w:World}{hd:Option Value}{K:ZgE}{tg:Expr}(it:Addr)(lo:Int)(n:Nat):Turn P w K hd tg (oO lo n) [it] it (fun i h=>IsRangeIter h it (lo+(i:Nat)*1) ((n:Int)-(i:Nat)) 1) where
 mem:=by simp
 obj:=fun i h st b hb=>by
  have e:b=it:=by simpa using hb
  subst e;exact⟨_,st,fun v z=>by have z':Data.fields _=Data.cell v:=z;cases z'⟩
 keep:=fun i h h' st k=>k it (by simp) _ st
 item:=by
  intro X hP hw hK hc hh i pins s σ H E I hf st hg;subst hP hw hK;obtain⟨f0,f1,f2,f3,f4,f5⟩:=hf it (by simp);have hg:i<n:=hg;refine wpAny_pyNext_range_item st .o fun h' av sb=> ?_;have av:IsRangeIter h' it (lo+((i+1:Nat):Int)*1) ((n:Int)-((i+1:Nat):Int)) 1:=by rw[show lo+((i+1:Nat):Int)*1=lo+(i:Int)*1+1 by omega,show(n:Int)-((i+1:Nat):Int)=(n:Int)-(i:Int)-1 by omega];exact av
  have I1:Inv X pins σ H {s with heap:=h',toks:=s.toks+1} :=I.turned (fun b o hb e=>sb.extBut b o (by simpa using hb) e) f0 f1 f3 f4 f5;refine⟨_,rfl,BY (s:= {s with heap:=h',toks:=s.toks+1}) (n:= "range_iterator") av rfl rfl .d ⟨.int (lo+i),H,I1,⟨s.toks,?_⟩,⟨rfl,rfl⟩,av,fun b hb=> (hf b hb).1⟩⟩;rw[Int.mul_one]
 done:=by intro X hP hw hK hc hh i pins s σ H E I hf st hg;subst hP hw hK;obtain⟨f0,f1,f2,f3,f4,f5⟩:=hf it (by simp);exact Vw (I.eC hc) st (by have:n<=i:=hg;omega) fun h' eb=> ⟨rfl,I.turned (t':=s.toks) (fun b o hb e=>eb b o hb e) f0 f1 f3 f4 f5⟩
 self:=fun _ _ _ _ _ st h=>wpAny_pyIter_rangeiter st h
section
variable {X:Cx}{tg:Expr}
def AA (K:ZgE)(tl:TE):TI:=fun σ H R=>tl σ H fun x H1=> ∃a,x=.ref a/\(∃xs,ao K H1 a xs)/\R (oQ K a) H1
def NZ (K:ZgE)(tl:TE):TI:=fun σ H R=>tl σ H fun x H1=> ∃a,x=.ref a/\(∃xs,aq K H1 a xs)/\R (qL K a) H1
theorem ZW {l:Expr}{tl:TE}(hl:PE X l tl):PI X tg l (AA X.K tl):=by
 intro pins s σ H R I h;refine au (hl pins s σ H _ I h) fun v s1 ⟨x,H1,I1,r1,q1⟩=> ?_;obtain⟨a,e,⟨xs,hq⟩,q⟩:=q1;subst e;cases r1;obtain⟨ae,rv,p,hz⟩:=I1.list hq;refine Zde p.isList ?_;refine⟨s1.heap.objs.size,[s1.heap.objs.size],_,_,H1,rfl,I1.kept (t':=s1.toks) fun b o e=>gc _ e,XY a _,⟨_,Zau _ rfl,rfl,rfl⟩,fun b hb=> ?_,q⟩;have e:b=s1.heap.objs.size:=by simpa using hb
 subst e;exact I1.lY (Zaq _) (I1.ar.fresh (Zaq _))
theorem J0 {l:Expr}{tl:TE}(hl:PE X l tl):PI X tg l (NZ X.K tl):=by
 intro pins s σ H R I h;refine au (hl pins s σ H _ I h) fun v s1 ⟨x,H1,I1,r1,q1⟩=> ?_;obtain⟨a,e,⟨xs,hq⟩,q⟩:=q1;subst e;cases r1;obtain⟨ae,rv,p,hz⟩:=I1.tuple hq;refine ZeZ (show s1.heap.IsTuple a ae.toArray from p) ?_;refine⟨s1.heap.objs.size,[s1.heap.objs.size],_,_,H1,rfl,I1.kept (t':=s1.toks) fun b o e=>gc _ e,Zbs a _,⟨_,Zau _ rfl,rfl,rfl⟩,fun b hb=> ?_,q⟩;have e:b=s1.heap.objs.size:=by simpa using hb
 subst e;exact I1.lY (Zaq _) (I1.ar.fresh (Zaq _))
theorem Xu {pins:List (Addr×Obj)}{σ:St}{H:Hp}{s:Shared}{R:It->Hp->Prop}{E:Value->Shared->Prop}{lo hi:Int}{t u v:Tok}{tk:Nat}(I:Inv X pins σ H s)(h1: -(2^62)<=lo)(h2:lo<2^62)(h3: -(2^62)<=hi)(h4:hi<2^62)
  (q:R (oO lo (hi-lo).toNat) H):wpAny (model X.prog X.w) X.A (pyIter (.ref s.heap.objs.size)) (ID X pins σ tg R) E {s with heap:=s.heap.push {cls:=.type "range",data:=.fields #[.int lo t,.int hi u,.int 1 v]},toks:=tk} :=by
 refine wpAny_pyIter_range (IsRange.new ..) (small_one h1 h2 h3 h4) ?_;have I1:Inv X pins σ H {s with heap:=s.heap.push {cls:=.type "range",data:=.fields #[.int lo t,.int hi u,.int 1 v]},toks:=tk} :=I.kept fun b o e=>gc _ e;refine⟨(s.heap.push {cls:=.type "range",data:=.fields #[.int lo t,.int hi u,.int 1 v]}).objs.size,[(s.heap.push {cls:=.type "range",data:=.fields #[.int lo t,.int hi u,.int 1 v]}).objs.size],_,_,H,rfl,
  I1.kept (t':=tk) fun b o e=>gc _ e,Zbt _ lo (hi-lo).toNat,?_,fun b hb=> ?_,q⟩
 ·have e1:lo+((0:Nat):Int)*1=lo:=by simp
  have e2:(((hi-lo).toNat:Nat):Int)-((0:Nat):Int)=Builtin.Range.rangeSize lo hi 1:=by rw[rangeSize_one];split<;>omega
  show IsRangeIter _ _ (lo+((0:Nat):Int)*1) ((((hi-lo).toNat:Nat):Int)-((0:Nat):Int)) 1;rw[e1,e2];exact Zau _ rfl
 ·have e:b=(s.heap.push {cls:=.type "range",data:=.fields #[.int lo t,.int hi u,.int 1 v]}).objs.size:=by simpa using hb
  subst e;exact I1.lY (Zaq _) (I1.ar.fresh (Zaq _))
def N0 (ta:TA):TI:=fun σ H R=>ta σ H fun vs H1=> ∃j:Int,vs=[.int j]/\ -(2^62)<=j/\j<2^62/\R (oO 0 j.toNat) H1
theorem ZV {a:Expr}{ta:TA}{p pos:Pos}(hg:Gl X "range")(hm:X.mg "range" =none)(ha:PA X [a] ta)(hs:starEach [a] X.env=[(false,eval a X.env)]:=by rfl):PI X tg (.Call (.Name "range" p) [a] [] pos) (N0 ta):=by
 intro pins s σ H R I h;refine Call_ (YQ I hg hm boot_range (Zcv (au (ha pos pins s σ H _ I h) fun us s1 ⟨vs,H1,I1,r1,q1⟩=> ?_) hs rfl));obtain⟨j,e,q1,q2,q⟩:=q1;subst e;cases r1 with
 |cons r rr=>cases rr;obtain⟨t,rfl⟩:=r;exact call_range_1 (Xu I1 .o .o q1 q2 (by simpa using q))
def K5 (wi:TI)(g:TG)(tb:TS):TS:=fun D σ H=>wi σ H fun J H1=> ∃W:Nat->Nat->St->Hp->Prop,(∃m,W 0 m σ H1)/\∀i m σ H,W i m σ H->
 (J.stop i H/\D.nx σ H)∨(J.go i H/\∃N:St->Hp->Prop,(∀ah H',N ah H'->∃m',m'<m/\W (i+1) m' ah H')/\∀x H',J.mn i H x H'->g x σ H' fun bh H2=>tb {D with nx:=N,ct:=N,bk:=D.nx} bh H2)
def gP (fp:List Addr)(h:Heap):List (Addr×Obj):=fp.filterMap fun b=> (h.get? b).map fun o=> (b,o)
theorem ZJ {fp:List Addr}{h:Heap}{b:Addr}{o:Obj}(hb:b∈fp)(e:h.get? b=some o):(b,o)∈gP fp h:=Zck.mpr ⟨b,hb,by rw[e];rfl⟩
theorem YW {fp:List Addr}{h:Heap}{p:Addr×Obj}(hp:p∈gP fp h):p.1∈fp/\h.get? p.1=some p.2:=by
 obtain⟨b,hb,e⟩:=Zck.mp hp;cases q:h.get? b with
 |none=>rw[q]at e;cases e
 |some o=>rw[q]at e;have e':(b,o)=p:=Za3 e;subst e';exact⟨hb,q⟩
theorem Inv.pinned {pins:List (Addr×Obj)}{σ:St}{H:Hp}{s:Shared}{fp:List Addr}(I:Inv X pins σ H s)(hf:∀b∈fp,bb X pins H b)(ho:∀b∈fp,∃o,s.heap.get? b=some o/\∀v,o.data≠.cell v):Inv X (pins++gP fp s.heap) σ H s:=
 I.DP fun p hp=> (Zbf.mp hp).elim (fun z=>I.pin p (Zap _ z)) fun z=>by obtain⟨hb,e⟩:=YW z;obtain⟨f0,f1,f2,_⟩:=hf p.1 hb;obtain⟨o,e',d⟩:=ho p.1 hb;rw[e]at e';cases e';exact⟨e,f0,f1,f2,d⟩
theorem Inv.ft {pins pl:List (Addr×Obj)}{σ:St}{H:Hp}{s:Shared}(I:Inv X (pins++pl) σ H s):Inv X pins σ H s:=I.DP fun p hp=>I.pin p (Zap _ (Zcj _ hp))
theorem Yx {iter:Expr}{body:List Stmt}{wi:TI}{g:TG}{tb:TS}{pos:Pos}(hp:PassesOwn (model X.prog X.w) X.A X.env X.xe)(hc:X.calm=true)(hi:PI X tg iter wi)(hg:PG X tg g)(hb:dG X body tb)
  (hs:∀x,foldedSetIterable iter X.env x=pure x:=by intro _;rfl):PS X (.For tg iter body [] pos) (K5 wi g tb):=by
 intro pins s σ H D I h;refine wpAny_For (au (hi pins s σ H _ I h) fun v s1 h1=>au h1 fun jN s2 h2=> ?_) hs;obtain⟨it,fp,tn,J,H2,e,I2,T,bZ,f2,W,⟨m0,w0⟩,turn⟩:=h2;subst e;have stat:∀{H':Hp},(∀b∈fp,H' b=none)->∀b∈fp,bb X pins H' b:=fun hn b hb=> ⟨hn b hb,(f2 b hb).2⟩;refine codeAny_forLoop_any (fun n s'=> ∃i ah H',Inv X pins ah H' s'/\tn i s'.heap/\(∀b∈fp,H' b=none)/\W i n ah H') ?_ m0 ⟨0,σ,H2,I2,bZ,fun b hb=> (f2 b hb).1,w0⟩;rintro n s3 ⟨i,cK,H3,I3,dJ,qx,w3⟩;rcases turn i n cK H3 w3 with ⟨stop,qn⟩ |⟨go,N,hN,step⟩
 ·refine Zdf hp (au (T.done X rfl rfl rfl hc rfl i pins s3 cK H3 X.xe I3 (stat qx) dJ stop) fun r s4 ⟨hr,I4⟩=> ?_);subst hr;exact ZeN ⟨cK,H3,I4,qn⟩
 ·refine Zdf hp (au (T.item X rfl rfl rfl hc rfl i pins s3 cK H3 X.xe I3 (stat qx) dJ go) fun r s4 ⟨u,hr,h4⟩=> ?_);subst hr;refine Zdf hp (au h4 fun _ s5 ⟨x,H5,I5,r5,y5,jb,tw⟩=> ?_);have ue:=I5.pinned (stat tw) (T.obj _ _ jb);refine Zdf hp (au (hg _ s5 cK H5 x u _ ue r5 (step x H5 y5)) fun _ s6 ⟨kd,H6,I6,q6⟩=> ?_);refine Zdf hp (au (hb _ s6 kd H6 _ I6 q6) fun f s7 q7=> ?_);have again:∀{cJ:St}{H7:Hp},Inv X (pins++gP fp s5.heap) cJ H7 s7->N cJ H7->∃m,m<n/\∃i ah H',Inv X pins ah H' s7/\tn i s7.heap/\(∀b∈fp,H' b=none)/\W i m ah H':=fun {cJ H7} I7 n7=>by obtain⟨m',hm,w7⟩:=hN cJ H7 n7;refine⟨m',hm,i+1,cJ,H7,I7.ft,T.keep _ _ _ jb fun b hb o e=> (I7.pin (b,o) (Zap _ (Zap _ (ZJ hb e)))).1,fun b hb=> ?_,w7⟩;obtain⟨o,e,d⟩:=T.obj _ _ jb b hb;exact(I7.pin (b,o) (Zap _ (Zap _ (ZJ hb e)))).2.1
  cases f with
  |next=>obtain⟨cJ,H7,I7,n7⟩:=q7;exact again I7 n7
  |cont=>obtain⟨cJ,H7,I7,n7⟩:=q7;exact again I7 n7
  |brk=>obtain⟨cJ,H7,I7,q7⟩:=q7;exact⟨cJ,H7,I7.ft,q7⟩
  |ret v=>obtain⟨x7,cJ,H7,I7,r7,q7⟩:=q7;exact⟨x7,cJ,H7,I7.ft,r7,q7⟩
end
theorem HG {K:ZgE}{a:Addr}{xs:List V}{g:TG}{tb:TS}{D:Ends}{σ:St}{H:Hp}(Pv:Nat->St->Hp->Prop)(h0:Pv 0 σ H)(hl:∀i σ H,i<=xs.length->Pv i σ H->ao K H a xs)
  (hs:∀i x σ H,xs[i]? =some x->Pv i σ H->g x σ H fun bh H2=>tb {D with nx:=Pv (i+1),ct:=Pv (i+1),bk:=D.nx} bh H2) (hd:∀σ H,Pv xs.length σ H->D.nx σ H):
  ∃W:Nat->Nat->St->Hp->Prop,(∃m,W 0 m σ H)/\∀i m σ H,W i m σ H->
   ((oQ K a).stop i H/\D.nx σ H)∨((oQ K a).go i H/\∃N:St->Hp->Prop,(∀ah H',N ah H'->∃m',m'<m/\W (i+1) m' ah H')/\∀x H',(oQ K a).mn i H x H'->g x σ H' fun bh H2=>tb {D with nx:=N,ct:=N,bk:=D.nx} bh H2):=by
 refine⟨fun i m σ H=>m=xs.length-i/\i<=xs.length/\Pv i σ H,⟨xs.length,by simp,ZaP _,h0⟩,?_⟩;rintro i m σ H ⟨rfl,hi,p⟩;have q:=hl i σ H hi p;by_cases aI:i<xs.length
 ·refine .inr ⟨⟨xs,xs[i],q,by simp[aI]⟩,Pv (i+1),fun ah H' p'=> ⟨xs.length-(i+1),.o,rfl,aI,p'⟩,fun x H' y=> ?_⟩;obtain⟨e,y⟩:=y;subst e;exact hs i x σ _ (y xs q) p
 ·have e:i=xs.length:=.o;subst e;exact .inl ⟨⟨xs,q,Zaq _⟩,hd σ H p⟩
theorem S5 {K:ZgE}{a:Addr}{xs:List V}{g:TG}{tb:TS}{D:Ends}{σ:St}{H:Hp}(Pv:Nat->St->Hp->Prop)(h0:Pv 0 σ H)(hl:∀i σ H,i<=xs.length->Pv i σ H->aq K H a xs)
  (hs:∀i x σ H,xs[i]? =some x->Pv i σ H->g x σ H fun bh H2=>tb {D with nx:=Pv (i+1),ct:=Pv (i+1),bk:=D.nx} bh H2) (hd:∀σ H,Pv xs.length σ H->D.nx σ H):
  ∃W:Nat->Nat->St->Hp->Prop,(∃m,W 0 m σ H)/\∀i m σ H,W i m σ H->
   ((qL K a).stop i H/\D.nx σ H)∨((qL K a).go i H/\∃N:St->Hp->Prop,(∀ah H',N ah H'->∃m',m'<m/\W (i+1) m' ah H')/\∀x H',(qL K a).mn i H x H'->g x σ H' fun bh H2=>tb {D with nx:=N,ct:=N,bk:=D.nx} bh H2):=by
 refine⟨fun i m σ H=>m=xs.length-i/\i<=xs.length/\Pv i σ H,⟨xs.length,by simp,ZaP _,h0⟩,?_⟩;rintro i m σ H ⟨rfl,hi,p⟩;have q:=hl i σ H hi p;by_cases aI:i<xs.length
 ·refine .inr ⟨⟨xs,xs[i],q,by simp[aI]⟩,Pv (i+1),fun ah H' p'=> ⟨xs.length-(i+1),.o,rfl,aI,p'⟩,fun x H' y=> ?_⟩;obtain⟨e,y⟩:=y;subst e;exact hs i x σ _ (y xs q) p
 ·have e:i=xs.length:=.o;subst e;exact .inl ⟨⟨xs,q,Zaq _⟩,hd σ H p⟩
theorem Yh {lo:Int}{n:Nat}{g:TG}{tb:TS}{D:Ends}{σ:St}{H:Hp}(Pv:Nat->St->Hp->Prop)(h0:Pv 0 σ H)
  (hs:∀i σ H,i<n->Pv i σ H->g (.int (lo+i)) σ H fun bh H2=>tb {D with nx:=Pv (i+1),ct:=Pv (i+1),bk:=D.nx} bh H2) (hd:∀σ H,Pv n σ H->D.nx σ H):
  ∃W:Nat->Nat->St->Hp->Prop,(∃m,W 0 m σ H)/\∀i m σ H,W i m σ H->
   ((oO lo n).stop i H/\D.nx σ H)∨((oO lo n).go i H/\∃N:St->Hp->Prop,(∀ah H',N ah H'->∃m',m'<m/\W (i+1) m' ah H')/\∀x H',(oO lo n).mn i H x H'->g x σ H' fun bh H2=>tb {D with nx:=N,ct:=N,bk:=D.nx} bh H2):=by
 refine⟨fun i m σ H=>m=n-i/\i<=n/\Pv i σ H,⟨n,by simp,ZaP _,h0⟩,?_⟩;rintro i m σ H ⟨rfl,hi,p⟩;by_cases aI:i<n
 ·refine .inr ⟨aI,Pv (i+1),fun ah H' p'=> ⟨n-(i+1),.o,rfl,aI,p'⟩,fun x H' y=> ?_⟩;obtain⟨e,y⟩:=y;subst e y;exact hs i σ _ aI p
 ·have e:i=n:=.o;subst e;exact .inl ⟨Zaq _,hd σ H p⟩
abbrev R2:=V->V->Hp->VK->Prop
def aZ (X:Cx)(f:Value->Value->Sem Value)(r:R2):Prop:=
 ∀(pins:List (Addr×Obj)) (s:Shared) (σ:St) (H:Hp) (x y:V) (v u:Value) (Q:VK),Inv X pins σ H s->RelV x v->RelV y u->r x y H Q->
  wpAny (model X.prog X.w) X.A (f v u) (EP X pins σ Q) X.xe s
def Cu (X:Cx)(f:Value->Sem Value)(r:V->Hp->VK->Prop):Prop:=
 ∀(pins:List (Addr×Obj)) (s:Shared) (σ:St) (H:Hp) (x:V) (v:Value) (Q:VK),Inv X pins σ H s->RelV x v->r x H Q->
  wpAny (model X.prog X.w) X.A (f v) (EP X pins σ Q) X.xe s
def fY (X:Cx)(f:Value)(r:List V->Hp->VK->Prop):Prop:=
 ∀(pins:List (Addr×Obj)) (s:Shared) (σ:St) (H:Hp) (xs:List V) (us:List Value) (Q:VK),Inv X pins σ H s->Vals xs us->r xs H Q->
  wpAny (model X.prog X.w) X.A (call f us) (EP X pins σ Q) X.xe s
def aaa (X:Cx)(r:V->Hp->(Bool->Hp->Prop)->Prop):Prop:=
 ∀(pins:List (Addr×Obj)) (s:Shared) (σ:St) (H:Hp) (x:V) (v:Value) (Q:Bool->Hp->Prop),Inv X pins σ H s->RelV x v->r x H Q->
  wpAny (model X.prog X.w) X.A (truthy v) (TP X pins σ Q) X.xe s
def iH (r:R2)(ta tb:TE):TE:=fun σ H Q=>ta σ H fun x H1=>tb σ H1 fun y H2=>r x y H2 Q
def KD (r:V->Hp->VK->Prop)(ta:TE):TE:=fun σ H Q=>ta σ H fun x H1=>r x H1 Q
def rI (C:Int->Int->Prop)(g:Int->Int->V):R2:=fun x y H Q=> ∃i j,x=.int i/\y=.int j/\C i j/\Q (g i j) H
def kn (g:Int->Int->V):R2:=fun x y H Q=> ∃i j,x=.int i/\y=.int j/\Q (g i j) H
def rU (g:Int->V):V->Hp->VK->Prop:=fun x H Q=> ∃i,x=.int i/\Q (g i) H
section
variable {X:Cx}{a b c:Expr}{ta tb tc:TE}{pos:Pos}
theorem BS (ha:PE X a ta)(hb:PE X b tb){pins:List (Addr×Obj)}{s:Shared}{σ:St}{H:Hp}{R:V->V->Hp->Prop}(I:Inv X pins σ H s)
  (h:ta σ H fun x H1=>tb σ H1 fun y H2=>R x y H2) {Q:Value->Shared->Prop}{f:Value->Value->Sem Value}
  (hf:∀v u s2 x y H2,Inv X pins σ H2 s2->RelV x v->RelV y u->R x y H2->wpAny (model X.prog X.w) X.A (f v u) Q X.xe s2):
  wpAny (model X.prog X.w) X.A (eval a X.env) (fun v aG=>wpAny (model X.prog X.w) X.A (eval b X.env) (fun u dH=>wpAny (model X.prog X.w) X.A (f v u) Q X.xe dH) X.xe aG) X.xe s:=by
 refine au (ha pins s σ H _ I h) fun v s1 ⟨x,H1,I1,r1,q1⟩=> ?_;refine au (hb pins s1 σ H1 _ I1 q1) fun u s2 ⟨y,H2,I2,r2,q2⟩=> ?_;exact hf v u s2 x y H2 I2 r1 r2 q2
theorem Zp {op:Operator}{r:R2}(ho:aZ X (binaryOp op) r)(ha:PE X a ta)(hb:PE X b tb):PE X (.BinOp a op b pos) (iH r ta tb):=by intro pins s σ H Q I h;exact wpAny_BinOp (BS ha hb I h fun v u s2 x y H2 I2 rx ry q=>ho pins s2 σ H2 x y v u Q I2 rx ry q)
theorem UI {op:UnaryOp}{r:V->Hp->VK->Prop}(ho:Cu X (unaryOp op) r)(ha:PE X a ta):PE X (.UnaryOp op a pos) (KD r ta):=by intro pins s σ H Q I h;exact UnaryOp_ (au (ha pins s σ H _ I h) fun v s1 ⟨x,H1,I1,r1,q1⟩=>ho pins s1 σ H1 x v Q I1 r1 q1)
theorem vC {f:Value->Value->Sem Value}{C:Int->Int->Prop}{g:Int->Int->Int}
  (rule:∀(i j:Int) (t u:Tok) (s:Shared) (Q:Value->Shared->Prop) (E:Value->Shared->Prop),C i j->Q (.int (g i j) s.toks) {s with toks:=s.toks+1}->wpAny (model X.prog X.w) X.A (f (.int i t) (.int j u)) Q E s):
  aZ X f (rI C fun i j=> .int (g i j)):=by
 intro pins s σ H x y v u Q I rx ry h;obtain⟨i,j,rfl,rfl,hc,q⟩:=h;obtain⟨t,rfl⟩:=rx;obtain⟨t',rfl⟩:=ry;exact rule i j t t' s _ _ hc ⟨.int (g i j),H,I.tok _,⟨_,rfl⟩,q⟩
theorem DR {f:Value->Value->Sem Value}{g:Int->Int->Int}
  (rule:∀(i j:Int) (t u:Tok) (s:Shared) (Q:Value->Shared->Prop) (E:Value->Shared->Prop),Q (.int (g i j) s.toks) {s with toks:=s.toks+1}->wpAny (model X.prog X.w) X.A (f (.int i t) (.int j u)) Q E s):
  aZ X f (kn fun i j=> .int (g i j)):=by
 intro pins s σ H x y v u Q I rx ry h;obtain⟨i,j,rfl,rfl,q⟩:=h;obtain⟨t,rfl⟩:=rx;obtain⟨t',rfl⟩:=ry;exact rule i j t t' s _ _ ⟨.int (g i j),H,I.tok _,⟨_,rfl⟩,q⟩
theorem z4 {f:Value->Value->Sem Value}{g:Int->Int->Bool}
  (rule:∀(i j:Int) (t u:Tok) (s:Shared) (Q:Value->Shared->Prop) (E:Value->Shared->Prop),Q (.bool (g i j)) s->wpAny (model X.prog X.w) X.A (f (.int i t) (.int j u)) Q E s):
  aZ X f (kn fun i j=> .bl (g i j)):=by
 intro pins s σ H x y v u Q I rx ry h;obtain⟨i,j,rfl,rfl,q⟩:=h;obtain⟨t,rfl⟩:=rx;obtain⟨t',rfl⟩:=ry;exact rule i j t t' s _ _ ⟨.bl (g i j),H,I,rfl,q⟩
def aam (i j:Int):Prop:=0<j/\j<1073741824
def aal (i j:Int):Prop:=0<=j/\j<=1000000/\i.natAbs<2^64
def C1 (i j:Int):Prop:=(-(2^64)<i/\i<2^64)∨(-(2^64)<j/\j<2^64)
theorem C1.ok {i j:Int}(h:C1 i j):IntMulOk i j:=by
 rcases h with ⟨h1,h2⟩ |⟨h1,h2⟩
 ·exact .of_left (intBits_le_64 h1 h2)
 ·exact .of_right (intBits_le_64 h1 h2)
theorem Yl:aZ X (binaryOp .Add) (kn fun i j=> .int (i+j)):=DR fun _ _ _ _ _ _ _ q=>add_int q
theorem Yy:aZ X (binaryOp .Sub) (kn fun i j=> .int (i-j)):=DR fun _ _ _ _ _ _ _ q=>sub_int q
theorem WO:aZ X (binaryOp .Mult) (rI C1 fun i j=> .int (i*j)):=vC fun _ _ _ _ _ _ _ hc q=>mul_int q hc.ok
theorem Hq:aZ X (binaryOp .FloorDiv) (rI aam fun i j=> .int (i/j)):=vC fun i j _ _ _ _ _ hc q=>by have h1:(0:Int)<j:=hc.1;have h2:j<1073741824:=hc.2;exact floordiv_int .o (by rw[Int.fdiv_eq_ediv_of_nonneg i .o];exact q) (.inl (PyProof.noPylong_small .o))
theorem YO:aZ X (binaryOp .Mod) (rI (fun _ j=>0<j) fun i j=> .int (i%j)):=vC fun i j _ _ _ _ _ hc q=>by have h1:(0:Int)<j:=hc;exact mod_int' .o (by rw[Int.fmod_eq_emod_of_nonneg i .o];exact q)
theorem Tu:aZ X (binaryOp .Pow) (rI aal fun i j=> .int (i^j.toNat)):=vC fun _ _ _ _ _ _ _ hc q=>pow_int_small hc.1 hc.2.1 hc.2.2 q
theorem Kn {f:Value->Sem Value}{g:Int->Int}
  (rule:∀(i:Int) (t:Tok) (s:Shared) (Q:Value->Shared->Prop) (E:Value->Shared->Prop),Q (.int (g i) s.toks) {s with toks:=s.toks+1}->wpAny (model X.prog X.w) X.A (f (.int i t)) Q E s):
  Cu X f (rU fun i=> .int (g i)):=by
 intro pins s σ H x v Q I rx h;obtain⟨i,rfl,q⟩:=h;obtain⟨t,rfl⟩:=rx;exact rule i t s _ _ ⟨.int (g i),H,I.tok _,⟨_,rfl⟩,q⟩
theorem JY:Cu X (unaryOp .USub) (rU fun i=> .int (-i)):=Kn fun _ _ _ _ _ q=>neg_int q
end
def yz:V->V->Bool
 | .ag,.ag=>true | .ag,.int _=>true | .int _,.ag=>true | .ag,.bl _=>true | .bl _,.ag=>true | .ag,.str _=>true | .str _,.ag=>true
 | .int _,.int _=>true | .bl _,.bl _=>true | .str _,.str _=>true | .gE _,.gE _=>true
 | .int _,.str _=>true | .str _,.int _=>true | .bl _,.str _=>true | .str _,.bl _=>true
 |_,_=>false
def Mq:R2:=fun x y H Q=>yz x y=true/\Q (.bl (decide (x=y))) H
def Mn:R2:=fun x y H Q=>yz x y=true/\Q (.bl (!decide (x=y))) H
theorem Hb {i j:Int} :decide (V.int i=V.int j)=(i==j):=by rw[Zdg];simp
theorem GL {i j:Bool} :decide (V.bl i=V.bl j)=(i==j):=by rw[Zdg];simp
theorem Hc {i j:Str} :decide (V.str i=V.str j)=(i==j):=by rw[Zdg];simp
theorem G9 {i j:Array UInt8} :decide (V.gE i=V.gE j)=(i.toList==j.toList):=by rw[Zdg];cases i;cases j;simp
section
variable {X:Cx}{a b c:Expr}{ta tb tc:TE}{pos:Pos}
theorem ZM {pins:List (Addr×Obj)}{σ:St}{H:Hp}{s:Shared}{Q:VK}{k k':Bool}(I:Inv X pins σ H s)(q:Q (.bl k) H)(e:k=k'):EP X pins σ Q (.bool k') s:=by subst e;exact⟨.bl k,H,I,rfl,q⟩
theorem We:aZ X (compareOp .Eq) Mq:=by
 intro pins s σ H x y v u Q I rx ry h;obtain⟨hs,q⟩:=h;cases x with
 |ag=>
  cases rx;cases y with
  |ag=>cases ry;exact PySem.EqNone.eq_none_none (ZM I q (by simp))
  |bl j=>cases ry;exact PySem.EqNone.eq_none_bool (ZM I q (by simp))
  |int j=>obtain⟨t',rfl⟩:=ry;exact PySem.EqNone.eq_none_int (ZM I q (by simp))
  |str j=>obtain⟨t',rfl⟩:=ry;exact PySem.EqNone.eq_none_str (ZM I q (by simp))
  |_=>exact absurd (show false=true from hs) Zaj
 |bl i=>
  cases rx;cases y with
  |ag=>cases ry;exact PySem.EqNone.eq_bool_none (ZM I q (by simp))
  |bl j=>cases ry;exact eq_bool (ZM I q GL)
  |str j=>obtain⟨t',rfl⟩:=ry;exact PySem.EqMixed.eq_bool_str (ZM I q (by simp))
  |_=>exact absurd (show false=true from hs) Zaj
 |int i=>
  obtain⟨t,rfl⟩:=rx;cases y with
  |ag=>cases ry;exact PySem.EqNone.eq_int_none (ZM I q (by simp))
  |int j=>obtain⟨t',rfl⟩:=ry;exact eq_int (ZM I q Hb)
  |str j=>obtain⟨t',rfl⟩:=ry;exact PySem.EqMixed.eq_int_str (ZM I q (by simp))
  |_=>exact absurd (show false=true from hs) Zaj
 |str i=>
  obtain⟨t,rfl⟩:=rx;cases y with
  |ag=>cases ry;exact PySem.EqNone.eq_str_none (ZM I q (by simp))
  |bl j=>cases ry;exact PySem.EqMixed.eq_str_bool (ZM I q (by simp))
  |int j=>obtain⟨t',rfl⟩:=ry;exact PySem.EqMixed.eq_str_int (ZM I q (by simp))
  |str j=>obtain⟨t',rfl⟩:=ry;exact eq_str (ZM I q Hc)
  |_=>exact absurd (show false=true from hs) Zaj
 |gE i=>
  obtain⟨t,rfl⟩:=rx;cases y with
  |gE j=>obtain⟨t',rfl⟩:=ry;exact PySem.W.eq_bytes (ZM I q G9)
  |_=>exact absurd (show false=true from hs) Zaj
 |_=>cases y<;>exact absurd (show false=true from hs) Zaj
theorem BZ:aZ X (compareOp .NotEq) Mn:=by
 intro pins s σ H x y v u Q I rx ry h;obtain⟨hs,q⟩:=h;cases x with
 |ag=>
  cases rx;cases y with
  |ag=>cases ry;exact PySem.EqNone.ne_none_none (ZM I q (by simp))
  |bl j=>cases ry;exact PySem.EqNone.ne_none_bool (ZM I q (by simp))
  |int j=>obtain⟨t',rfl⟩:=ry;exact PySem.EqNone.ne_none_int (ZM I q (by simp))
  |str j=>obtain⟨t',rfl⟩:=ry;exact PySem.EqNone.ne_none_str (ZM I q (by simp))
  |_=>exact absurd (show false=true from hs) Zaj
 |bl i=>
  cases rx;cases y with
  |ag=>cases ry;exact PySem.EqNone.ne_bool_none (ZM I q (by simp))
  |bl j=>cases ry;exact ne_bool (ZM I q (Zcr not GL))
  |str j=>obtain⟨t',rfl⟩:=ry;exact PySem.EqMixed.ne_bool_str (ZM I q (by simp))
  |_=>exact absurd (show false=true from hs) Zaj
 |int i=>
  obtain⟨t,rfl⟩:=rx;cases y with
  |ag=>cases ry;exact PySem.EqNone.ne_int_none (ZM I q (by simp))
  |int j=>obtain⟨t',rfl⟩:=ry;exact ne_int (ZM I q (Zcr not Hb))
  |str j=>obtain⟨t',rfl⟩:=ry;exact PySem.EqMixed.ne_int_str (ZM I q (by simp))
  |_=>exact absurd (show false=true from hs) Zaj
 |str i=>
  obtain⟨t,rfl⟩:=rx;cases y with
  |ag=>cases ry;exact PySem.EqNone.ne_str_none (ZM I q (by simp))
  |bl j=>cases ry;exact PySem.EqMixed.ne_str_bool (ZM I q (by simp))
  |int j=>obtain⟨t',rfl⟩:=ry;exact PySem.EqMixed.ne_str_int (ZM I q (by simp))
  |str j=>obtain⟨t',rfl⟩:=ry;exact ne_str (ZM I q (Zcr not Hc))
  |_=>exact absurd (show false=true from hs) Zaj
 |gE i=>
  obtain⟨t,rfl⟩:=rx;cases y with
  |gE j=>obtain⟨t',rfl⟩:=ry;exact PySem.W.ne_bytes (ZM I q (Zcr not G9))
  |_=>exact absurd (show false=true from hs) Zaj
 |_=>cases y<;>exact absurd (show false=true from hs) Zaj
theorem Gr:aZ X (compareOp .Lt) (kn fun i j=> .bl (decide (i<j))):=z4 fun _ _ _ _ _ _ _ q=>lt_int q
theorem Gq:aZ X (compareOp .LtE) (kn fun i j=> .bl (decide (i<=j))):=z4 fun _ _ _ _ _ _ _ q=>le_int q
theorem Y8:aZ X (compareOp .Gt) (kn fun i j=> .bl (decide (j<i))):=z4 fun _ _ _ _ _ _ _ q=>gt_int q
theorem aZ.or {f:Value->Value->Sem Value}{r r':R2}(h:aZ X f r)(h':aZ X f r'):aZ X f (fun x y H Q=>r x y H Q∨r' x y H Q):=by
 intro pins s σ H x y v u Q I rx ry q;rcases q with q |q
 ·exact h pins s σ H x y v u Q I rx ry q
 ·exact h' pins s σ H x y v u Q I rx ry q
theorem bJ (b:Expr){op:CmpOp}(h:op≠.In:=by decide)(h2:op≠.NotIn:=by decide):behindInMarks op b=false:=by
 have e1:(op==CmpOp.In)=false:=by cases op<;>first |rfl |exact absurd rfl h
 have e2:(op==CmpOp.NotIn)=false:=by cases op<;>first |rfl |exact absurd rfl h2
 cases b<;>simp[behindInMarks,e1,e2]
theorem Y1 {op:CmpOp}{r:R2}(ho:aZ X (compareOp op) r)(ha:PE X a ta)(hb:PE X b tb)(hm:behindInMarks op b=false):PE X (.Compare a [op] [b] pos) (iH r ta tb):=by intro pins s σ H Q I h;exact wpAny_Compare1 (BS ha hb I h fun v u s2 x y H2 I2 rx ry q=>ho pins s2 σ H2 x y v u Q I2 rx ry q) hm
def De (t:TE):TT:=fun σ H Q=>t σ H fun x H'=> ∃k,x=.bl k/\Q k H'
theorem ZA {op:CmpOp}{r:R2}(ho:aZ X (compareOp op) r)(ha:PE X a ta)(hb:PE X b tb)(hm:behindInMarks op b=false):PT X (.Compare a [op] [b] pos) (De (iH r ta tb)):=by
 intro pins s σ H Q I h;refine wpAny_isTrue_Compare1 (au (ha pins s σ H _ I h) fun v s1 ⟨x,H1,I1,r1,q1⟩=>au (hb pins s1 σ H1 _ I1 q1) fun u s2 ⟨y,H2,I2,r2,q2⟩=>
  au (ho pins s2 σ H2 x y v u _ I2 r1 r2 q2) fun c s3 ⟨z,H3,I3,r3,k,e,q3⟩=> ?_) hm
 subst e;cases r3;exact Zcg ⟨H3,I3,q3⟩
def Lf (r r':R2)(ta tb tc:TE):TE:=fun σ H Q=>ta σ H fun x H1=>tb σ H1 fun y H2=>r x y H2 fun z H3=> ∃k,z=.bl k/\
 (if k=true then tc σ H3 fun w' H4=>r' y w' H4 Q else Q (.bl false) H3)
theorem Xk {op z5:CmpOp}{r r':R2}(ho:aZ X (compareOp op) r)(bV:aZ X (compareOp z5) r')(ha:PE X a ta)(hb:PE X b tb)(hc:PE X c tc)
  (hm:lastMarks [op,z5] [b,c]=false:=by with_unfolding_all rfl):PE X (.Compare a [op,z5] [b,c] pos) (Lf r r' ta tb tc):=by
 intro pins s σ H Q I h;refine Compare_chain (au (ha pins s σ H _ I h) fun v s1 ⟨x,H1,I1,r1,q1⟩=>chain_link (au (hb pins s1 σ H1 _ I1 q1) fun u s2 ⟨y,H2,I2,r2,q2⟩=>
  au (ho pins s2 σ H2 x y v u _ I2 r1 r2 q2) fun d s3 ⟨z,H3,I3,r3,k,e,q3⟩=> ?_)) hm
 subst e;cases r3;refine Zcg ?_;cases k with
 |false=>exact ite_ff ⟨.bl false,H3,I3,rfl,q3⟩
 |true=>exact ite_tt (chain_last (au (hc pins s3 σ H3 _ I3 q3) fun w' s4 ⟨z',H4,I4,r4,q4⟩=>bV pins s4 σ H4 y z' u w' Q I4 r2 r4 q4))
def tX (K:ZgE)(x:V)(H:Hp)(k:Bool):Prop:=
 match x with
 | .ag=>k=false
 | .bl b=>k=b
 | .int i=>k=(i !=0)
 | .str y=>y.length<=sizeLine/\k=((y.length:Int) !=0)
 | .gE y=>y.size<=sizeLine/\k=((y.size:Int) !=0)
 | .ref p=> (∃xs,ao K H p xs/\k= !xs.isEmpty)∨(∃xs,aq K H p xs/\k= !xs.isEmpty)∨∃ai,H p=some (.dK ai)/\k= !ai.isEmpty
 |_=>False
theorem ZbT {κ:Type}{ai:List (κ×V)}{vs:List (κ×Value)}(r:KV ai vs):(!vs.isEmpty)= !ai.isEmpty:=by cases r<;>rfl
theorem W0 {xs:List V}{ae:List Value}(r:Vals xs ae):(!ae.toArray.isEmpty)= !xs.isEmpty:=by cases r<;>simp
theorem rO:(sizeLine:Nat)<2^63:=by rw[Zaz];decide
theorem GP:aaa X (fun x H Q=> ∃k,tX X.K x H k/\Q k H):=by
 intro pins s σ H x v Q I rx h;obtain⟨k,e,q⟩:=h;have hl:=rO;have hs:sizeLine=16777216:=Zaz;cases x with
 |ag=>cases rx;have e':k=false:=e;subst e';exact truthy_none ⟨H,I,q⟩
 |bl b=>cases rx;have e':k=b:=e;subst e';exact Zcg ⟨H,I,q⟩
 |int i=>obtain⟨t,rfl⟩:=rx;have e':k=(i !=0):=e;subst e';exact PySem.P.truthy_int ⟨H,I,q⟩
 |str y=>obtain⟨t,rfl⟩:=rx;obtain⟨hy,e'⟩:y.length<=sizeLine/\k=((y.length:Int) !=0):=e;subst e';exact PySem.P.truthy_str .o ⟨H,I.tok _,q⟩
 |gE y=>obtain⟨t,rfl⟩:=rx;obtain⟨hy,e'⟩:y.size<=sizeLine/\k=((y.size:Int) !=0):=e;subst e';exact PySem.W.truthy_bytes .o ⟨H,I.tok _,q⟩
 |ref p=>
  cases rx;have e':(∃xs,ao X.K H p xs/\k= !xs.isEmpty)∨(∃xs,aq X.K H p xs/\k= !xs.isEmpty)∨∃ai,H p=some (.dK ai)/\k= !ai.isEmpty:=e;rcases e' with ⟨xs,hx,e'⟩ |⟨xs,hx,e'⟩ |⟨ai,hx,e'⟩
  ·subst e';obtain⟨ae,r,pl,hz⟩:=I.list hx;have hlen:=r.length;exact wpAny_truthy_list pl.isList (by simp only[Zas];omega) ⟨H,I.tok _,by rw[W0 r];exact q⟩
  ·subst e';obtain⟨ae,r,pl,hz⟩:=I.tuple hx;have hlen:=r.length;exact truthy_tuple pl (by simp only[Zas];omega) ⟨H,I.tok _,by rw[W0 r];exact q⟩
  ·subst e';obtain⟨hz,hS,vs,r,m⟩:ai.length<=sizeLine/\(p==sysModules)=false/\∃vs,KV ai vs/\s.heap.DictOf (dN X.prog X.w) p vs:=I.ar p _ hx;have hlen:ai.length=vs.length:=Za6 r;exact wpAny_truthy_dict hS m .o ⟨H,I.tok _,by rw[ZbT r];exact q⟩
 |_=>exact(show False from e).elim
theorem Ig (ha:PE X a ta)(he:∀whole,isTrue a X.env whole=(do let v <-whole;standAt a.pos;holding [v] (truthy v))):
  PT X a (fun σ H Q=>ta σ H fun x H'=> ∃k,tX X.K x H' k/\Q k H'):=by
 intro pins s σ H Q I h;exact isTrue_plain (au (ha pins s σ H _ I h) fun v s1 ⟨x,H1,I1,r1,q1⟩=>GP pins s1 σ H1 x v Q I1 r1 q1) (he _)
theorem ZfD {x:V}{us:List Value}(r:Vals [x] us):∃u,us=[u]/\RelV x u:=by
 cases r with
 |cons r1 r2=>cases r2;exact⟨_,rfl,r1⟩
theorem vals2 {x y:V}{us:List Value}(r:Vals [x,y] us):∃u w',us=[u,w']/\RelV x u/\RelV y w':=by
 cases r with
 |cons r1 r2=>
  cases r2 with
  |cons r3 r4=>cases r4;exact⟨_,_,rfl,r1,r3⟩
theorem U1 (hc:X.A.handled=none):fY X (.builtin "max") (fun xs H Q=> ∃i j,xs=[.int i,.int j]/\Q (.int (if j>i then j else i)) H):=by
 intro pins s σ H xs us Q I r h;obtain⟨i,j,rfl,q⟩:=h;obtain⟨u,w',rfl,⟨t,rfl⟩,⟨t',rfl⟩⟩:=vals2 r;refine max_two_ints hc fun h' tk k=> ⟨_,H,I.kept k,?_,q⟩;by_cases hj:j>i
 ·rw[ZaG hj,ZaG hj];exact⟨_,rfl⟩
 ·rw[ZaD hj,ZaD hj];exact⟨_,rfl⟩
theorem V5 (hc:X.A.handled=none):fY X (.builtin "min") (fun xs H Q=> ∃i j,xs=[.int i,.int j]/\Q (.int (if j<i then j else i)) H):=by
 intro pins s σ H xs us Q I r h;obtain⟨i,j,rfl,q⟩:=h;obtain⟨u,w',rfl,⟨t,rfl⟩,⟨t',rfl⟩⟩:=vals2 r;refine min_two_ints hc fun h' tk k=> ⟨_,H,I.kept k,?_,q⟩;by_cases hj:j<i
 ·rw[ZaG hj,ZaG hj];exact⟨_,rfl⟩
 ·rw[ZaD hj,ZaD hj];exact⟨_,rfl⟩
theorem Zv:fY X (.type "str") (fun xs H Q=> ∃i,xs=[.int i]/\i.natAbs.log2<1920/\Q (.str (toString i)) H):=by intro pins s σ H xs us Q I r h;obtain⟨i,rfl,hz,q⟩:=h;obtain⟨u,rfl,t,rfl⟩:=ZfD r;exact PySem.P.str_of_int hz ⟨.str _,H,I.tok _,⟨_,rfl⟩,q⟩
end
structure oM (h:Heap)(x dx C:Addr)(mA:Str->Option Value):Prop where
 obj:h.get? x=some (PySem.W.instObj C dx)
 ns:h.Ns1 dx mA
 ne:dx≠x
theorem Zc2 {h:Heap}{dx:Addr}{mA:Str->Option Value}(n:h.Ns1 dx mA):∃od,h.get? dx=some od/\∀name,PySem.W.lookIn name od=some (mA name):=by
 obtain⟨o,es,ep,ho,hd,hk,_,hm⟩:=n;refine⟨o,ho,fun name=> ?_⟩;have e:=hm name;unfold nsFind findBy at e;rw[<-Array.find?_toList]at e;unfold PySem.W.lookIn;rw[hd];dsimp only;split
 ·rename_i y q;rw[q]at e;exact Zcr some e
 ·rename_i q;rw[q]at e;have a:es.toList.any (·.refKey)=false:=by rw[List.any_eq_false];intro y hy;obtain⟨z,t,Pe⟩:=hk y (Array.mem_toList_iff.mp hy);simp[DictEntry.refKey,Pe]
  have a':¬es.toList.any (·.refKey)=true:=by rw[a];exact Zaj
  rw[ZaD a'];exact Zcr some e
theorem oM.look {h:Heap}{x dx C:Addr}{mA:Str->Option Value}(I:oM h x dx C mA):∃od,PySem.W.InstAt h x (PySem.W.instObj C dx) C (some od)/\∀name,PySem.W.lookIn name od=some (mA name):=
 let ⟨od,ho,hl⟩:=Zc2 I.ns
 ⟨od,⟨I.obj,rfl,rfl,ho⟩,hl⟩
section
variable {prog:Program}{w:World}{A:Around}{E:Value->Shared->Prop}{s:Shared}{K:ZgE}{x dx C f:Addr}{mA:Str->Option Value}{name:Str}{v:Value}
theorem S7 {expr:Bool}{Q:Value->Shared->Prop}(X:K.In s.heap)(I:oM s.heap x dx C mA)(hg:PySem.W.plainGet K C name=true)(hh:PySem.W.hasDictIn K C=true)
  (ha:PySem.W.findIn K (.ref C) name=some none) (hv:mA name=some v) (gT:PySem.W.handedIn v=true) (h:Q v {s with toks:=s.toks+1}):
  wpAny (model prog w) A (getAttr (.ref x) name expr) Q E s:=by
 obtain⟨od,J,hl⟩:=I.look;exact PySem.W.get_value X J (ZeO hg).1 (PySem.W.findObj_own hh ha rfl (by rw[hl,hv])) gT h
theorem Vi {pl:Sem Bool}{Q:Value×List Value->Shared->Prop}(X:K.In s.heap)(I:oM s.heap x dx C mA)(hg:PySem.W.plainGet K C name=true)
  (hf:PySem.W.findIn K (.ref C) name=some (some (.ref f))) (ht:PySem.W.isFn K (.ref f)=true) (hv:mA name=none) (h:Q (.ref f,[.ref x]) s):
  wpAny (model prog w) A (getMethod (.ref x) name pl) Q E s:=by
 obtain⟨od,J,hl⟩:=I.look;exact PySem.W.method_fn X J (ZeO hg).1 (ZeO hg).2 hf (Zco.mp ht) (by show(PySem.W.lookIn name od).map (·.isSome)=some false;rw[hl,hv];rfl) h
theorem Vz {ns:List Str}{Q:Unit->Shared->Prop}(X:K.In s.heap)(I:oM s.heap x dx C mA)
  (hs:PySem.W.findIn K (.ref C) "__setattr__" =some (some (.builtin "object.__setattr__"))) (hp:PySem.W.plainOver K C=true) (ht:PySem.W.takerIn K C name=some none) (hh:PySem.W.hasDictIn K C=true)
  (hw:PySem.Within mA ns) (hsz:ns.length<=sizeLine)
  (h:∀h',oM h' x dx C (fun y=>if y=name then some v else mA y)->Heap.SameBut dx s.heap h'->Q () {s with heap:=h',toks:=s.toks+2}):
  wpAny (model prog w) A (setAttr (.ref x) name v) Q E s:=by
 obtain⟨od,J,hl⟩:=I.look;refine PySem.W.set_plain X J hs (PySem.W.osa_open (s:= {s with toks:=s.toks+1}) (r:=none) X J hp ht fun b=> ?_);obtain⟨cd,hc,Bi⟩:=PySem.W.any_some hh;have hx:s.heap.get? x=some ⟨.ref C,some dx,.plain, #[]⟩:=I.obj;refine eg (Zao (eg (eg (wpAny_loadPart hx (eg (PySem.W.Looks.here (s:= {s with toks:=s.toks+1}) (PySem.W.looks_clsIn X hc) ?_))))));rw[Bi];refine Zao (a:=some dx) (eg (Zao (eg ?_)));refine wpAny_nsSet1 (s:= {s with toks:=s.toks+1}) I.ns fun h' kB lK=> ?_;obtain⟨oD,esD,epD,hoD,PQ,PX⟩:=kB.count (PySem.Within.cons name v hw);refine eg (wpAny_lookBehind hoD (by rw[PQ];exact pastItsLine_dict (ZaL PX (by rw[ZaE];omega))) ?_);exact Zao (h _ ⟨(lK.2 _ (ZcL I.ne)).trans I.obj,kB,I.ne⟩ lK)
theorem Vm {R:Result->Shared->Prop}{vs:List Value}{kw:List (Str×Value)}(X:K.In s.heap)(hm:PySem.W.makesIn K C=true)
    (hi:PySem.W.findIn K (.ref C) "__init__" =some (some (.ref f))) (hf:PySem.W.typeIn K (.ref f)=some (.type "function"))
    (h:codeAny (model prog w) (A.under (.builtin "type.__call__" ⟨.ref C::vs,kw⟩)) (.call (.ref f) ⟨.ref (s.heap.objs.size+1)::vs,kw⟩) (PySem.W.InitBack (s.heap.objs.size+1) R)
      {s with heap:=(s.heap.push PySem.W.emptyDict).push (PySem.W.instObj C s.heap.objs.size)}):
    codeAny (model prog w) A (.call (.ref C) ⟨vs,kw⟩) R s:=by
  obtain⟨hh,g,d,t,os⟩:=s;exact PySem.W.make_core (PySem.W.makes_of X hm) (ZdR X hi) (fun self=>PySem.W.bind_fn X self hf) (.inl rfl) h
end
def eV (f:Str)(v:V):List (Str×V)->List (Str×V)
 | []=> [(f,v)]
 |(g,x)::r=>if g=f then (g,v)::r else (g,x)::eV f v r
theorem Wh (f g:Str)(v:V):∀fs:List (Str×V),(eV f v fs).lookup g=if g=f then some v else fs.lookup g
 | []=>by
  show List.lookup g [(f,v)]=_;by_cases h:g=f
  ·have hb:(g==f)=true:=Zco.mpr h;simp only[List.lookup,hb,ZaG h]
  ·have hb:(g==f)=false:=Zcc.mpr h;simp only[List.lookup,hb,ZaD h]
 |(k,x)::r=>by
  have ih:=Wh f g v r;rw[show eV f v ((k,x)::r)=(if k=f then (k,v)::r else (k,x)::eV f v r) from rfl];by_cases hk:k=f
  ·rw[ZaG hk];by_cases h:g=k
   ·have hb:(g==k)=true:=Zco.mpr h;simp only[List.lookup,hb,ZaG (h.trans hk)]
   ·have hb:(g==k)=false:=Zcc.mpr h;simp only[List.lookup,hb,ZaD (fun e:g=f=>h (e.trans hk.symm))]
  ·rw[ZaD hk];by_cases h:g=k
   ·have hb:(g==k)=true:=Zco.mpr h;simp only[List.lookup,hb,ZaD (fun e:g=f=>hk (h.symm.trans e))]
   ·have hb:(g==k)=false:=Zcc.mpr h;simp only[List.lookup,hb];exact ih
theorem J9 (f:Str)(v:V):∀fs:List (Str×V),f∈(eV f v fs).map (·.1)/\∀g,g∈fs.map (·.1)->g∈(eV f v fs).map (·.1)
 | []=> ⟨by simp[eV],fun g h=>by simp at h⟩
 |(k,x)::r=>by
  obtain⟨i1,i2⟩:=J9 f v r;rw[show eV f v ((k,x)::r)=(if k=f then (k,v)::r else (k,x)::eV f v r) from rfl];by_cases hk:k=f
  ·rw[ZaG hk];subst hk;exact⟨by simp,fun g h=>by simpa using h⟩
  ·rw[ZaD hk];refine⟨?_,fun g h=> ?_⟩
   ·rw[ZaQ];exact Zad _ i1
   ·rw[ZaQ]at h |-;rcases Zaf.mp h with e |e
    ·exact Zaf.mpr (.inl e)
    ·exact Zad _ (i2 g e)
theorem Wi (f:Str)(v:V):∀fs:List (Str×V),(eV f v fs).length<=fs.length+1
 | []=>by simp[eV]
 |(k,x)::r=>by
  have ih:=Wi f v r;rw[show eV f v ((k,x)::r)=(if k=f then (k,v)::r else (k,x)::eV f v r) from rfl];by_cases hk:k=f
  ·rw[ZaG hk,ZaE,ZaE];omega
  ·rw[ZaD hk,ZaE,ZaE];omega
theorem fm.some_of {v:V}{o:Option Value}(r:fm (some v) o):∃u,o=some u/\RelV v u:=by
 cases o with
 |none=>exact(show False from r).elim
 |some u=>exact⟨u,rfl,r⟩
theorem fm.none_of {o:Option Value}(r:fm none o):o=none:=by
 cases o with
 |none=>rfl
 |some u=>exact(show False from r).elim
theorem Xe {v:V}{u:Value}(r:RelV v u):PySem.W.handedIn u=true:=by
 cases v with
 |ag=>cases (show u=Value.none from r);rfl
 |bl b=>cases (show u=Value.bool b from r);rfl
 |int i=>obtain⟨t,e⟩:=(show ∃t,u=Value.int i t from r);cases e;rfl
 |str x=>obtain⟨t,e⟩:=(show ∃t,u=Value.str x t from r);cases e;rfl
 |gE b=>obtain⟨t,e⟩:=(show ∃t,u=Value.bytes b t from r);cases e;rfl
 |jX b=>obtain⟨t,e⟩:=(show ∃t,u=Value.float b t from r);cases e;rfl
 |ref a=>cases (show u=Value.ref a from r);rfl
 |ty n=>cases (show u=Value.type n from r);rfl
section
variable {P:Program}{w:World}{H H':Hp}{h h':Heap}{a C dx:Addr}{fs Qu:List (Str×V)}
theorem Wy (ar:bC P w H h)(e:H a=some (.ins C dx fs)):∃mA,oM h a dx C mA/\(∀f,fm (fs.lookup f) (mA f))/\PySem.Within mA (fs.map (·.1))/\fs.length<=1000/\H dx=some (.own a):=by obtain⟨d,z,ne,ob,mA,n,r,q⟩:=(show bN P w H h a (.ins C dx fs) from ar a _ e);exact⟨mA,⟨ob,n,ne⟩,r,q,z,d⟩
end
structure iF (K:ZgE)(C:Addr):Prop where
 pg:PySem.W.plainGet K C Str.empty=true
 hd:PySem.W.hasDictIn K C=true
 po:PySem.W.plainOver K C=true
 sa:PySem.W.findIn K (.ref C) "__setattr__" =some (some (.builtin "object.__setattr__"))
theorem iF.get {K:ZgE}{C:Addr}(c:iF K C)(f:Str):PySem.W.plainGet K C f=true:=c.pg
def me (K:ZgE)(C:Addr)(f:Str):Prop:=PySem.W.findIn K (.ref C) f=some none
theorem me.Kw {K:ZgE}{C:Addr}{f:Str}(n:me K C f):PySem.W.takerIn K C f=some none:=by unfold PySem.W.takerIn;rw[show PySem.W.findIn K (.ref C) f=some none from n];rfl
structure Con (K:ZgE)(C:Addr)(f:Str)(v:V)(u:Value):Prop where
 at_:PySem.W.findIn K (.ref C) f=some (some u)
 rel:RelV v u
 get:PySem.W.specialIn K u "__get__" =some none
 cp:PySem.W.copiedNames.contains f=false
structure Meth (K:ZgE)(C:Addr)(m:Str)(f:Addr):Prop where
 at_:PySem.W.findIn K (.ref C) m=some (some (.ref f))
 fn:PySem.W.isFn K (.ref f)=true
 kp:PySem.W.keepIn K (.ref f)=true
section
variable {X:Cx}{pins:List (Addr×Obj)}{σ:St}{H:Hp}{s:Shared}{a C dx:Addr}{fs:List (Str×V)}{f:Str}{v:V}{A:Around}{E:Value->Shared->Prop}
theorem ZbU {b:Bool}{Q:Value->Shared->Prop}(I:Inv X pins σ H s)(e:H a=some (.ins C dx fs))(c:iF X.K C)(n:me X.K C f)(l:fs.lookup f=some v)
  (h:∀u s',Inv X pins σ H s'->RelV v u->Q u s'):wpAny (model X.prog X.w) A (getAttr (.ref a) f b) Q E s:=by
 obtain⟨mA,O,r,_,_,_⟩:=Wy I.ar e;obtain⟨u,hu,ru⟩:=fm.some_of (v:=v) (o:=mA f) (by rw[<-l];exact r f);exact S7 I.bA O (c.get f) c.hd n hu (Xe ru) (h u _ (I.tok _) ru)
theorem Jz {m:Str}{g:Addr}{pl:Sem Bool}{Q:Value×List Value->Shared->Prop}(I:Inv X pins σ H s)(e:H a=some (.ins C dx fs))(c:iF X.K C)(k:Meth X.K C m g)(l:fs.lookup m=none)
  (h:Q (.ref g,[.ref a]) s):wpAny (model X.prog X.w) A (getMethod (.ref a) m pl) Q E s:=by
 obtain⟨mA,O,r,_,_,_⟩:=Wy I.ar e;have hn:mA m=none:=fm.none_of (by rw[<-l];exact r m);exact Vi I.bA O (c.get m) k.at_ k.fn hn h
theorem Zby {y:V}{u:Value}{Q:Unit->Shared->Prop}(I:Inv X pins σ H s)(e:H a=some (.ins C dx fs))(c:iF X.K C)(n:me X.K C f)(hl:fs.length<1000)(ry:RelV y u)
  (h:∀s',Inv X pins σ (upd H a (.ins C dx (eV f y fs))) s'->Q () s'):wpAny (model X.prog X.w) A (setAttr (.ref a) f u) Q E s:=by
 obtain⟨mA,O,r,wi,_,ho⟩:=Wy I.ar e;have hz:(fs.map (·.1)).length<=sizeLine:=by rw[Zae,Zaz];omega
 refine Vz I.bA O c.sa c.po n.Kw c.hd wi hz fun h' O' sb=>h _ ?_;have hd:∃o,h'.get? dx=some o:=let ⟨o,_,_,e',_⟩:=O'.ns;⟨o,e'⟩;refine I.write (x:=a) (e:=dx) (by rw[e];exact True.intro) (.inr ho) (fun b q hb z=> (sb.2 b hb).trans z) hd ?_;refine⟨by rw[Zi O.ne];exact ho,?_,O.ne,O'.obj,_,O'.ns,fun g=> ?_,fun g hg=> ?_⟩
 ·have:=Wi f y fs;omega
 ·show fm ((eV f y fs).lookup g) (if g=f then some u else mA g);rw[Wh];by_cases q:g=f
  ·rw[ZaG q,ZaG q];exact ry
  ·rw[ZaD q,ZaD q];exact r g
 ·by_cases q:g=f
  ·rw[q];exact(J9 f y fs).1
  ·refine(J9 f y fs).2 g (wi g fun z=>hg ?_);show(if g=f then some u else mA g)=none;rw[ZaD q];exact z
theorem Inv.made (I:Inv X pins σ H s):Inv X pins σ (upd (upd H s.heap.objs.size (.own (s.heap.objs.size+1))) (s.heap.objs.size+1) (.ins C s.heap.objs.size []))
  {s with heap:=(s.heap.push PySem.W.emptyDict).push (PySem.W.instObj C s.heap.objs.size)} :=by
 have e1:(s.heap.push PySem.W.emptyDict).get? s.heap.objs.size=some PySem.W.emptyDict:=Zau s.heap rfl;have e2:((s.heap.push PySem.W.emptyDict).push (PySem.W.instObj C s.heap.objs.size)).get? (s.heap.objs.size+1)=some (PySem.W.instObj C s.heap.objs.size):=by
  have:=Zau (s.heap.push PySem.W.emptyDict) (o:=PySem.W.instObj C s.heap.objs.size) rfl
  rwa [Zds]at this
 have e3:(s.heap.push PySem.W.emptyDict).Ns s.heap.objs.size (fun _=>none):=⟨PySem.W.emptyDict, #[],_,e1,rfl,(fun e he=>absurd he (by simp)),fun _=>rfl⟩;have I1:=I.laid (a:=s.heap.objs.size) (o:=.own (s.heap.objs.size+1)) (h':=s.heap.push PySem.W.emptyDict) (t':=s.toks) (fun b u q=>gc _ q) (Zaq _) ⟨_,e1⟩;refine I1.laid (a:=s.heap.objs.size+1) (o:=.ins C s.heap.objs.size []) (t':=s.toks) (fun b u q=>gc _ q) (Nat.le_of_eq (Zds _ _)) ?_;have ne:s.heap.objs.size≠s.heap.objs.size+1:=Zay (ZcZ _);refine⟨by rw[Zi ne,Zc],ZaP _,ne,e2,fun _=>none,(Heap.Ns1.of_empty e3).at fun o q=>gc _ q,fun _=>True.intro,fun y hy=>absurd rfl hy⟩
theorem TV {prog:Program}{w:World}{env:Env}{e:Expr}{f:Str}{pos:Pos}{s:Shared}{Q:Value->Shared->Prop}(hb:attributeBase e f env (eval e env)=eval e env)
  (h:wpAny (model prog w) A (eval e env) (fun o aG=>wpAny (model prog w) A (getAttr o f true) Q E aG) E s):wpAny (model prog w) A (eval (.Attribute e f pos) env) Q E s:=
 Attribute_any_ h (by rw[arm_eval_Attribute,hb])
end
def K6 (K:ZgE)(ta:TE)(f:Str):TE:=fun σ H Q=>ta σ H fun x H1=> ∃a C dx fs v,x=.ref a/\H1 a=some (.ins C dx fs)/\iF K C/\me K C f/\fs.lookup f=some v/\Q v H1
def L7 (K:ZgE)(ta tv:TE)(f:Str):TS:=fun D σ H=>tv σ H fun y H1=>ta σ H1 fun x H2=> ∃a C dx fs,x=.ref a/\H2 a=some (.ins C dx fs)/\iF K C/\me K C f/\fs.length<1000/\
 D.nx σ (upd H2 a (.ins C dx (eV f y fs)))
section
variable {X:Cx}{o e value:Expr}{f:Str}{pos pos' Ks:Pos}{ta tv:TE}
theorem xh (he:PE X e ta)(hb:attributeBase e f X.env (eval e X.env)=eval e X.env):PE X (.Attribute e f pos) (K6 X.K ta f):=by intro pins s σ H Q I h;refine TV hb (au (he pins s σ H _ I h) fun u s1 ⟨x,H1,I1,rx,a,C,dx,fs,v,ex,ea,c,n,l,q⟩=> ?_);subst ex;obtain rfl:u=Value.ref a:=rx;exact ZbU I1 ea c n l fun u' s2 I2 ru=> ⟨v,H1,I2,ru,q⟩
theorem TH (ha:PE X o ta)(hv:PE X value tv)(hs:swapsWith value (some (.Attribute o f pos')) pos.line X.env=pure false):PS X (.Assign [.Attribute o f pos'] value pos) (L7 X.K ta tv f):=by intro pins s σ H D I h;refine plainObj_wpAny_Assign_Attribute (au (hv pins s σ H _ I h) fun u s1 ⟨y,H1,I1,ry,q⟩=>au (ha pins s1 σ H1 _ I1 q) fun ov s2 ⟨x,H2,I2,rx,a,C,dx,fs,ex,ea,c,n,l,q2⟩=> ?_) hs;subst ex;obtain rfl:ov=Value.ref a:=rx;exact Zby I2 ea c n l ry fun s3 I3=> ⟨σ,_,I3,q2⟩
end
section
variable {X:Cx}{pins:List (Addr×Obj)}{σ:St}{H:Hp}{s:Shared}{A:Around}{E:Value->Shared->Prop}{Q:Value->Shared->Prop}{c:Value}{b:Bool}
inductive dF (K:ZgE) (H:Hp):V->Value->Prop where
 |ag:dF K H .ag (.type "NoneType")
 |bl (x:Bool):dF K H (.bl x) (.type "bool")
 |int (i:Int):dF K H (.int i) (.type "int")
 |str (x:Str):dF K H (.str x) (.type "str")
 |jX (x:UInt64):dF K H (.jX x) (.type "float")
 |lst {a:Addr}{xs:List V} (e:H a=some (.lst xs)):dF K H (.ref a) (.type "list")
 |dA {a:Addr}{o:Obj}{xs:List V} (e:H a=some (.dA o (.lst xs))):dF K H (.ref a) (.type "list")
 |tup {a:Addr}{xs:List V} (e:H a=some (.tup xs)):dF K H (.ref a) (.type "tuple")
 |dK {a:Addr}{ai:List (Key×V)} (e:H a=some (.dK ai)):dF K H (.ref a) (.type "dict")
 |dT {a:Addr}{ai:List (List Key×V)} (e:H a=some (.dT ai)):dF K H (.ref a) (.type "dict")
 |ins {a C dx:Addr}{fs:List (Str×V)} (e:H a=some (.ins C dx fs)) (cl:iF K C) (ha:PySem.W.findIn K (.ref C) "__class__" =some (some (.builtin "object.__class__")))
  (hn:PySem.W.specialIn K (.builtin "object.__class__") "__get__" =some (some (.builtin "getset_descriptor.__get__"))) (EB:PySem.W.takesIn K (.builtin "object.__class__")=some true)
  (hm:PySem.W.mroIn K C (.type "object")=some true):dF K H (.ref a) (.ref C)
theorem X7 {x:V}{u t:Value}(I:Inv X pins σ H s)(rx:RelV x u)(ty:dF X.K H x t)(e:PySem.W.kitOne X.K t c=some b)(h:∀tk,Q (.bool b) {s with toks:=tk}):
  wpAny (model X.prog X.w) A (call (.builtin "isinstance") [u,c]) Q E s:=by
 cases ty with
 |ag=>cases (show u=Value.none from rx);exact Zcd PySem.W.kitx_none I.bA True.intro e (fun z=>nomatch z) h
 |bl y=>cases (show u=Value.bool y from rx);exact Zcd PySem.W.kitx_bool I.bA True.intro e (fun z=>nomatch z) h
 |int i=>obtain⟨t,q⟩:=(show ∃t,u=Value.int i t from rx);cases q;exact Zcd PySem.W.kitx_int I.bA True.intro e (fun z=>nomatch z) h
 |str y=>obtain⟨t,q⟩:=(show ∃t,u=Value.str y t from rx);cases q;exact Zcd PySem.W.kitx_str I.bA True.intro e (fun z=>nomatch z) h
 |jX y=>obtain⟨t,q⟩:=(show ∃t,u=Value.float y t from rx);cases q;exact Zcd PySem.W.kitx_float I.bA True.intro e (fun z=>nomatch z) h
 | @lst a xs ea=>cases (show u=Value.ref a from rx);obtain⟨_,_,n,_,h1⟩:=(show bN X.prog X.w H s.heap a (.lst xs) from I.ar a _ ea);exact Zcd PySem.W.kitx_list I.bA ⟨_,h1,rfl⟩ e (fun z=>nomatch z) h
 | @dA a ob xs ea=>cases (show u=Value.ref a from rx);obtain⟨_,_,_,n,_,h1⟩:=(show bN X.prog X.w H s.heap a (.dA ob (.lst xs)) from I.ar a _ ea);exact Zcd PySem.W.kitx_list I.bA ⟨_,h1,rfl⟩ e (fun z=>nomatch z) h
 | @tup a xs ea=>cases (show u=Value.ref a from rx);obtain⟨_,_,_,p,_⟩:=(show bN X.prog X.w H s.heap a (.tup xs) from I.ar a _ ea);obtain⟨o,h1,h2,_⟩:=p;exact Zcd PySem.W.kitx_tuple I.bA ⟨o,h1,h2⟩ e (fun z=>nomatch z) h
 | @dK a ai ea=>cases (show u=Value.ref a from rx);obtain⟨_,_,vs,_,p⟩:=(show bN X.prog X.w H s.heap a (.dK ai) from I.ar a _ ea);obtain⟨o,es,ep,h1,h2,_⟩:=p;exact Zcd PySem.W.kitx_dict I.bA ⟨o,h1,h2.1⟩ e (fun z=>nomatch z) h
 | @dT a ai ea=>cases (show u=Value.ref a from rx);obtain⟨_,_,xs,_,o,es,ep,h1,h2,_⟩:=(show bN X.prog X.w H s.heap a (.dT ai) from I.ar a _ ea);exact Zcd PySem.W.kitx_dict I.bA ⟨o,h1,h2.1⟩ e (fun z=>nomatch z) h
 | @ins a C dx fs ea cl ha hn EB hm=>cases (show u=Value.ref a from rx);obtain⟨mA,O,_⟩:=Wy I.ar ea;obtain⟨od,J,_⟩:=O.look;exact Zcd (PySem.W.kitx_own (cl.get _) cl.hd ha hn EB hm) I.bA J e (fun z=>nomatch z) h
end
structure bf (k:Nat)(A:Around):Prop where
 hd:100<=k->A.handled=none
 dp:A.depth+3*k+5<recursionLimit
 un:A.units+16*k+200<cLine
 gd:A.guards=some []
theorem bf.mono {j k:Nat}{A:Around}(r:bf k A)(h:j<=k):bf j A:=⟨fun z=>r.hd (ZaL z h),by have:=r.dp;omega,by have:=r.un;omega,r.gd⟩
theorem bf.deeper {k:Nat}{A:Around}(r:bf (k+1) A)(env:Env):bf k (A.deeper env):=
 ⟨fun z=>r.hd (ZcP z),by have:=r.dp;show A.depth+1+3*k+5<_;omega,by have:=r.un;show A.units+3+16*k+200<_;omega,r.gd⟩
theorem ZbQ {A:Around}{C:Addr}{us:List Value}{kw:List (Str×Value)} :(A.under (.builtin "type.__call__" ⟨.ref C::us,kw⟩)).depth=A.depth+1:=by first |rfl |simp[Around.under,Code.weight,Code.isCreation,Code.isGuard,Code.isCaller,Code.frames,Code.isFrame,guardIds]
theorem ZbP {A:Around}{C:Addr}{us:List Value}{kw:List (Str×Value)} :(A.under (.builtin "type.__call__" ⟨.ref C::us,kw⟩)).units=A.units+1:=by first |rfl |simp[Around.under,Code.cUnits,Code.frames,Code.isFrame]
theorem ZaR {A:Around}{C:Addr}{us:List Value}{kw:List (Str×Value)} :(A.under (.builtin "type.__call__" ⟨.ref C::us,kw⟩)).guards=A.guards:=by first |rfl |simp[Around.under,Code.guards,Code.isGuard,pushGuards,guardIds]
theorem bf.make {k:Nat}{A:Around}(r:bf (k+1) A)(C:Addr)(us:List Value)(kw:List (Str×Value)):bf k (A.under (.builtin "type.__call__" ⟨.ref C::us,kw⟩)):=
 ⟨fun z=>r.hd (ZcP z),by have:=r.dp;rw[ZbQ];omega,by have:=r.un;rw[ZbP];omega,by rw[ZaR];exact r.gd⟩
theorem bf.depth {k:Nat}{A:Around}(r:bf k A):A.depth<recursionLimit:=by have:=r.dp;omega
theorem bf.units {k:Nat}{A:Around}(r:bf k A):A.units+64<cLine:=by have:=r.un;omega
theorem bf.xH {k:Nat}{A:Around}(r:bf k A):A.units<cLine:=by have:=r.un;omega
def cZ:TA:=fun _ H Q=>Q [] H
def cq (ta:TE)(tr:TA):TA:=fun σ H Q=>ta σ H fun x H1=>tr σ H1 fun xs H2=>Q (x::xs) H2
section
variable {X:Cx}{e:Expr}{es:List Expr}{te:TE}{t:TA}{pos:Pos}
theorem Zb:PA X [] cZ:=fun _ _ _ _ H Q I h=>Zfe ⟨[],H,I,.nil,h⟩
theorem Za (ha:PE X e te)(hr:PA X es t)(hs:starEach (e::es) X.env=(false,eval e X.env)::starEach es X.env:=by rfl):PA X (e::es) (cq te t):=by intro pos pins s σ H Q I h;rw[hs];show wpAny _ _ (spliced ((false,eval e X.env)::backTo pos (starEach es X.env))) _ _ s;refine Ze0 (au (ha pins s σ H _ I h) fun u s1 ⟨x,H1,I1,r1,q1⟩=> ?_);exact au (hr pos pins s1 σ H1 _ I1 q1) fun us s2 ⟨xs,H2,I2,r2,q2⟩=> ⟨x::xs,H2,I2,.cons r1 r2,q2⟩
def qU (t:TA):TE:=fun σ H Q=>t σ H fun xs H1=>xs.length<=sizeLine/\∀p,H1 p=none->Q (.ref p) (upd H1 p (.tup xs))
def qV (t:TA):TE:=fun σ H Q=>t σ H fun xs H1=>xs.length<=sizeLine/\∀p,H1 p=none->Q (.ref p) (upd H1 p (.lst xs))
theorem Zt {x1}(h:PA X es t):PE X (.Tuple es x1 pos) (qU t):=by intro pins s σ H Q I hq;refine wpAny_Tuple_spliced (au (h pos pins s σ H _ I hq) fun us s1 ⟨xs,H1,I1,r,z,q⟩=> ⟨by rw[<-r.length];exact z,?_⟩);have hf:H1 s1.heap.objs.size=none:=I1.ar.fresh (Zaq _);refine⟨.ref s1.heap.objs.size,upd H1 s1.heap.objs.size (.tup xs),I1.laid (t':=s1.toks) (fun b u e=>gc _ e) (Zaq _) ?_,rfl,q _ hf⟩;exact⟨z,us,r,⟨_,Zau _ rfl,rfl,_,rfl⟩,_,Zau _ rfl,rfl⟩
theorem ZH (h:PA X es t):PE X (.List es pos) (qV t):=by intro pins s σ H Q I hq;refine wpAny_List_spliced (au (h pos pins s σ H _ I hq) fun us s1 ⟨xs,H1,I1,r,z,q⟩=> ⟨by rw[<-r.length];exact z,?_⟩);have hf:H1 s1.heap.objs.size=none:=I1.ar.fresh (Zaq _);refine⟨.ref s1.heap.objs.size,upd H1 s1.heap.objs.size (.lst xs),I1.laid (t':=s1.toks) (fun b u e=>gc _ e) (Zaq _) ?_,rfl,q _ hf⟩;exact⟨z,us,0,r,Zau _ rfl⟩
end
abbrev Sp:=List V->Hp->VK->XK->Prop
abbrev fZ:=Option Value->List Env->Hp->Shared->XK->Value->Shared->Prop
structure mi (P:Program)(w:World)(K:ZgE)(mg:Str->Option Value)(base:Heap)(A:Around)(outer:List Env)(s:Shared)(H:Hp):Prop where
 frames:A.frames=some outer
 mod:Mod K mg base
 bs:∀b o,base.get? b=some o->s.heap.get? b=some o/\H b=none
 iz:base.objs.size<=s.heap.objs.size
 dg:s.heap.FunFrames base outer
 gB:∀b∈aU outer,H b=none
 ar:bC P w H s.heap
 bare:AllBare s.gens
 hd:bL base A.handled
def CE (outer:List Env)(P:Program)(w:World)(H:Hp)(s:Shared)(Q:VK)(u:Value)(s':Shared):Prop:=
 ∃v H',s'.os=s.os/\AllBare s'.gens/\Un (aU outer) [] H H' s.heap s'.heap/\bC P w H' s'.heap/\RelV v u/\Q v H'
def CR (CX:fZ)(hd:Option Value)(outer:List Env)(P:Program)(w:World)(H:Hp)(s:Shared)(Q:VK)(E:XK)(r:Result)(s':Shared):Prop:=
 match r with
 | .ok (.ret u)=>CE outer P w H s Q u s'
 | .ok _=>False
 | .error e=>CX hd outer H s E e s'
structure aw (P:Program)(w:World)(K:ZgE)(mg:Str->Option Value)(base:Heap)(CX:fZ)(k:Nat)(f:Addr)(fd:FuncData)(ps:List Str)(sp:Sp):Prop where
 len:∀vs H Q E,sp vs H Q E->vs.length=ps.length
 run:∀(A:Around) (outer:List Env) (s:Shared) (H:Hp) (args:Args) (us:List Value) (vs:List V) (Q:VK) (E:XK),bf k A->mi P w K mg base A outer s H->BindsTo s fd args (ps.zip us)->Vals vs us->sp vs H Q E->
  codeAny (model P w) A (.call (.ref f) args) (CR CX A.handled outer P w H s Q E) s
theorem aw.mono {P:Program}{w:World}{K:ZgE}{mg:Str->Option Value}{base:Heap}{CX:fZ}{j k:Nat}{f:Addr}{fd:FuncData}{ps:List Str}{sp:Sp}(F:aw P w K mg base CX j f fd ps sp)(h:j<=k):
  aw P w K mg base CX k f fd ps sp:=⟨F.len,fun A outer s H args us vs Q E hr=>F.run A outer s H args us vs Q E (hr.mono h)⟩
theorem mi.make {P:Program}{w:World}{K:ZgE}{mg:Str->Option Value}{base:Heap}{A:Around}{outer:List Env}{s:Shared}{H:Hp}(e:mi P w K mg base A outer s H)(C:Addr)(us:List Value)(kw:List (Str×Value)):
  mi P w K mg base (A.under (.builtin "type.__call__" ⟨.ref C::us,kw⟩)) outer s H:=⟨by first |exact e.frames |(simpa[Around.under,Code.envs,Code.isFrame,pushEnvs] using e.frames),e.mod,e.bs,e.iz,e.dg,e.gB,e.ar,e.bare,e.hd⟩
section
variable {X:Cx}{pins:List (Addr×Obj)}{σ:St}{H:Hp}{s s':Shared}
theorem Inv.wK (I:Inv X pins σ H s)(hc:X.calm=true):mi X.prog X.w X.K X.mg X.base X.A X.stack s H:=
 ⟨I.ok.frames,I.ok.mod,I.bs,ZaL I.ok.iz I.sz,I.stack,I.oU,I.ar,I.bare,I.ok.hd hc⟩
theorem Inv.after {Q:VK}{u:Value}(I:Inv X pins σ H s)(h:CE X.stack X.prog X.w H s Q u s'):EP X pins σ Q u s':=by obtain⟨v,H',os,bare,un,ar,r,q⟩:=h;obtain⟨hh,g,d,t,zZ⟩:=s';obtain rfl:zZ=s.os:=os;exact⟨v,H',I.call (h':=hh) (g':=g) (d':=d) (t':=t) (ch:=[]) un ar bare (fun b z=>absurd z (by simp)),r,q⟩
end
def kJ (sp:Sp)(cw:List V)(E:XK)(t:TA):TE:=fun σ H Q=>t σ H fun vs H1=>sp (vs++cw) H1 Q E
def Di (C:Addr)(m:Str)(sp:Sp)(cw:List V)(E:XK)(ta:TE)(t:TA):TE:=fun σ H Q=>ta σ H fun x H1=> ∃a dx fs,x=.ref a/\H1 a=some (.ins C dx fs)/\fs.lookup m=none/\
 t σ H1 fun vs H2=>sp (x::(vs++cw)) H2 Q E
def KZ (C:Addr)(sp:Sp)(cw:List V)(E:XK)(t:TA):TE:=fun σ H Q=>t σ H fun vs H1=> ∀x dx,H1 x=none->H1 dx=none->dx≠x->
 sp (.ref x::(vs++cw)) (upd (upd H1 dx (.own x)) x (.ins C dx [])) (fun v H2=>v=.ag/\Q (.ref x) H2) E
def Binds (K:ZgE)(fd:FuncData)(ps:List Str)(ds:List Value):Prop:=
 ∀(s:Shared) (us:List Value),K.In s.heap->(us++ds).length=ps.length->BindsTo s fd ⟨us,[]⟩ (ps.zip (us++ds))
theorem Binds.all {K:ZgE}{fd:FuncData}{ps:List Str}(h:∀us:List Value,us.length=ps.length->bindArgs fd ⟨us,[]⟩=pure (ps.zip us)):Binds K fd ps []:=fun s us _ hl=>by rw[Zbx]at hl |-;exact .of_eq (h us hl)
def Passes (CX:fZ)(X:Cx)(E:XK):Prop:=∀(pins:List (Addr×Obj)) (σ:St) (H:Hp) (s:Shared) (e:Value) (s':Shared),Inv X pins σ H s->CX X.A.handled X.stack H s E e s'->X.xe e s'
section
variable {X:Cx}{CX:fZ}{k:Nat}{f C:Addr}{fd:FuncData}{ps:List Str}{sp:Sp}{cw:List V}{ds:List Value}{E:XK}{x m:Str}{p pos apos:Pos}{e o:Expr}{es:List Expr}{ta:TE}{t:TA}
theorem WD {pins:List (Addr×Obj)}{σ:St}{H:Hp}{s:Shared}{Q:VK}{us:List Value}{vs:List V}(F:aw X.prog X.w X.K X.mg X.base CX k f fd ps sp)(hr:bf k X.A)(hb:Binds X.K fd ps ds)(hd:Vals cw ds)(hx:Passes CX X E)
  (I:Inv X pins σ H s) (r:Vals vs us) (h:sp (vs++cw) H Q E) (hc:X.calm=true):wpAny (model X.prog X.w) X.A (call (.ref f) us) (EP X pins σ Q) X.xe s:=by
 have r2:Vals (vs++cw) (us++ds):=r.append hd;have hl:(us++ds).length=ps.length:=by rw[<-r2.length];exact F.len _ _ _ _ h
 refine Zfc (Zcy (F.run X.A X.stack s H ⟨us,[]⟩ (us++ds) (vs++cw) Q E hr (I.wK hc) (hb s us I.bA hl) r2 h) fun r s' hq=> ?_);cases r with
 |error e=>exact hx pins σ H s e s' I hq
 |ok fl=>
  cases fl with
  |ret u=>exact I.after hq
  |next=>exact False.elim hq
  |brk=>exact False.elim hq
  |cont=>exact False.elim hq
theorem Hs (F:aw X.prog X.w X.K X.mg X.base CX k f fd ps sp)(hr:bf k X.A)(hg:Gl X x)(hm:X.mg x=some (.ref f))(hk:PySem.W.keepIn X.K (.ref f)=true)(hb:Binds X.K fd ps ds)(hd:Vals cw ds)(hx:Passes CX X E)
  (ha:PA X (e::es) t) (gz:(x==("__debug__" :Str))=false:=by decide) (he:starEach (e::es) X.env=(false,eval e X.env)::starEach es X.env:=by rfl) (cA:(backTo pos (starEach es X.env)).any (·.1)=false:=by rfl) (hc:X.calm=true:=by rfl):
  PE X (.Call (.Name x p) (e::es) [] pos) (kJ sp cw E t):=by
 intro pins s σ H Q I h;refine ZbH (YL I hg hm ?_ gz);refine Zdz (h₀:=X.base) I.ok.mod.kA hk (au (ha pos pins s σ H _ I h) fun us s1 ⟨vs,H1,I1,r,q⟩=> ⟨I1.bA,?_⟩) he cA;exact WD F hr hb hd hx I1 r q hc
theorem Xj (F:aw X.prog X.w X.K X.mg X.base CX k f fd ps sp)(hr:bf k X.A)(hg:Gl X x)(hm:X.mg x=some (.ref f))(hk:PySem.W.keepIn X.K (.ref f)=true)(hb:Binds X.K fd ps ds)(hd:Vals cw ds)(hx:Passes CX X E)
  (gz:(x==("__debug__" :Str))=false:=by decide) (hc:X.calm=true:=by rfl):PE X (.Call (.Name x p) [] [] pos) (kJ sp cw E cZ):=by
 intro pins s σ H Q I h;refine ZbH (YL I hg hm ?_ gz);exact ZeP I.bA hk (WD (us:=[]) F hr hb hd hx I .nil h hc)
theorem VQ {pl:Sem Bool}(he:PE X o ta)(c:iF X.K C)(hm:Meth X.K C m f)(F:aw X.prog X.w X.K X.mg X.base CX k f fd ps sp)(hr:bf k X.A)(hb:Binds X.K fd ps ds)(hd:Vals cw ds)(hx:Passes CX X E)(ha:PA X (e::es) t)
    (fH:starEach (e::es) X.env=(false,eval e X.env)::starEach es X.env:=by rfl) (cA:(backTo pos (starEach es X.env)).any (·.1)=false:=by rfl)
    (ht:eval (.Call (.Attribute o m apos) (e::es) [] pos) X.env=(do
      let ov <-eval o X.env
      standAt apos.atName
      let (f,first) <-holding [ov] (getMethod ov m pl)
      callWith pos f first (backTo pos (starEach (e::es) X.env)) (backToKw pos (keywordEach [] X.env))):=by rfl) (hc:X.calm=true:=by rfl):
    PE X (.Call (.Attribute o m apos) (e::es) [] pos) (Di C m sp cw E ta t):=by
  intro pins s σ H Q I h;refine Zew (pl:=pl) (au (he pins s σ H _ I h) fun u s1 ⟨x,H1,I1,rx,a,dx,fs,ex,ea,l,q⟩=> ?_) ht;subst ex;obtain rfl:u=Value.ref a:=rx;refine Jz I1 ea c hm l ?_;refine Zdz (first:=[.ref a]) (h₀:=X.base) I.ok.mod.kA hm.kp (au (ha pos pins s1 σ H1 _ I1 q) fun us s2 ⟨vs,H2,I2,r,q2⟩=> ⟨I2.bA,?_⟩) fH cA;exact WD (us:=.ref a::us) (vs:=.ref a::vs) F hr hb hd hx I2 (.cons rfl r) q2 hc
theorem Xo {pl:Sem Bool}(he:PE X o ta)(c:iF X.K C)(hm:Meth X.K C m f)(F:aw X.prog X.w X.K X.mg X.base CX k f fd ps sp)(hr:bf k X.A)(hb:Binds X.K fd ps ds)(hd:Vals cw ds)(hx:Passes CX X E)
    (ht:eval (.Call (.Attribute o m apos) [] [] pos) X.env=(do
      let ov <-eval o X.env
      standAt apos.atName
      let (f,first) <-holding [ov] (getMethod ov m pl)
      callWith pos f first (backTo pos (starEach [] X.env)) (backToKw pos (keywordEach [] X.env))):=by rfl) (hc:X.calm=true:=by rfl):
    PE X (.Call (.Attribute o m apos) [] [] pos) (Di C m sp cw E ta cZ):=by
  intro pins s σ H Q I h;refine Zew (pl:=pl) (au (he pins s σ H _ I h) fun u s1 ⟨x,H1,I1,rx,a,dx,fs,ex,ea,l,q⟩=> ?_) ht;subst ex;obtain rfl:u=Value.ref a:=rx;refine Jz I1 ea c hm l ?_;exact ZeP (first:=[.ref a]) I1.bA hm.kp (WD (us:=[.ref a]) (vs:=[.ref a]) F hr hb hd hx I1 (.cons rfl .nil) q hc)
structure Mk (K:ZgE)(C f:Addr):Prop where
 makes:PySem.W.makesIn K C=true
 init:PySem.W.findIn K (.ref C) "__init__" =some (some (.ref f))
 fn:PySem.W.isFn K (.ref f)=true
 kp:PySem.W.keepIn K (.ref C)=true
theorem VX {pins:List (Addr×Obj)}{σ:St}{H:Hp}{s:Shared}{Q:VK}{us:List Value}{vs:List V}(M:Mk X.K C f)(F:aw X.prog X.w X.K X.mg X.base CX k f fd ps sp)(hr:bf (k+1) X.A)(hb:Binds X.K fd ps ds)(hd:Vals cw ds)
  (hx:Passes CX X E) (I:Inv X pins σ H s) (r:Vals vs us)
  (h:∀x dx,H x=none->H dx=none->dx≠x->sp (.ref x::(vs++cw)) (upd (upd H dx (.own x)) x (.ins C dx [])) (fun v H2=>v=.ag/\Q (.ref x) H2) E) (hc:X.calm=true):
  wpAny (model X.prog X.w) X.A (call (.ref C) us) (EP X pins σ Q) X.xe s:=by
 have hq:=h (s.heap.objs.size+1) s.heap.objs.size (I.ar.fresh (ZcJ _)) (I.ar.fresh (Zaq _)) (Zay (ZcZ _));have I2:=Inv.made (C:=C) I;have r2:Vals (V.ref (s.heap.objs.size+1)::(vs++cw)) (Value.ref (s.heap.objs.size+1)::(us++ds)):=.cons rfl (r.append hd);have hl:(Value.ref (s.heap.objs.size+1)::us++ds).length=ps.length:=by have e:=r2.length;rw[F.len _ _ _ _ hq]at e;exact e.symm
 refine Zfc (Vm (f:=f) I.bA M.makes M.init (Zco.mp M.fn) (Zcy (F.run _ X.stack _ _ ⟨Value.ref (s.heap.objs.size+1)::us,[]⟩ (Value.ref (s.heap.objs.size+1)::(us++ds)) _ _ E (hr.make C us [])
  ((I2.wK hc).make C us []) (hb _ (Value.ref (s.heap.objs.size+1)::us) I2.bA hl) r2 hq) fun r s' bU=> ?_))
 cases r with
 |error e=>exact hx pins σ _ _ e s' I2 bU
 |ok fl=>
  cases fl with
  |ret u=>obtain⟨v,H',I3,rv,ev,q3⟩:=I2.after bU;subst ev;exact⟨rv,⟨V.ref (s.heap.objs.size+1),H',I3,rfl,q3⟩⟩
  |next=>exact False.elim bU
  |brk=>exact False.elim bU
  |cont=>exact False.elim bU
theorem WM (M:Mk X.K C f)(F:aw X.prog X.w X.K X.mg X.base CX k f fd ps sp)(hr:bf (k+1) X.A)(hg:Gl X x)(hm:X.mg x=some (.ref C))(hb:Binds X.K fd ps ds)(hd:Vals cw ds)(hx:Passes CX X E)
  (gz:(x==("__debug__" :Str))=false:=by decide) (hc:X.calm=true:=by rfl):PE X (.Call (.Name x p) [] [] pos) (KZ C sp cw E cZ):=by
 intro pins s σ H Q I h;refine ZbH (YL I hg hm ?_ gz);exact ZeP I.bA M.kp (VX (us:=[]) M F hr hb hd hx I .nil h hc)
end
def PK (X:Cx)(rP:List Keyword)(t:TA):Prop:=
 ∀(pos:Pos) (pins:List (Addr×Obj)) (s:Shared) (σ:St) (H:Hp) (Q:List V->Hp->Prop),Inv X pins σ H s->t σ H Q->wpAny (model X.prog X.w) X.A (evalAll ((backToKw pos (keywordEach rP X.env)).map (·.2))) (AP X pins σ Q) X.xe s
section
variable {X:Cx}{CX:fZ}{k:Nat}{f C:Addr}{fd:FuncData}{ps ks:List Str}{sp:Sp}{E:XK}{x m:Str}{p pos apos ji:Pos}{e o:Expr}{es:List Expr}{rP:List Keyword}{te ta:TE}{t tk:TA}{nm:Option Str}
theorem G3:PK X [] cZ:=fun _ _ _ _ H Q I h=>wpAny_evalAll_nil ⟨[],H,I,.nil,h⟩
theorem Hu (ha:PE X e te)(hr:PK X rP t):PK X (⟨nm,e,ji⟩::rP) (cq te t):=by intro pos pins s σ H Q I h;show wpAny _ _ (evalAll ((do let v <-eval e X.env;standAt pos;pure v)::(backToKw pos (keywordEach rP X.env)).map (·.2))) _ _ s;refine wpAny_evalAll_cons (eg (au (ha pins s σ H _ I h) fun u s1 ⟨x,H1,I1,r1,q1⟩=>eg (Zbg (Zao ?_))));exact au (hr pos pins s1 σ H1 _ I1 q1) fun us s2 ⟨xs,H2,I2,r2,q2⟩=> ⟨x::xs,H2,I2,.cons r1 r2,q2⟩
structure aau (K:ZgE)(fd:FuncData)(ps ks:List Str)(g:List Value->List Value->List Value)(gV:List V->List V->List V):Prop where
 to:∀(s:Shared) (us ws:List Value),K.In s.heap->(g us ws).length=ps.length->BindsTo s fd ⟨us,ks.zip ws⟩ (ps.zip (g us ws))
 rel:∀{vs:List V}{us:List Value}{zs:List V}{ws:List Value},Vals vs us->Vals zs ws->Vals (gV vs zs) (g us ws)
variable {g:List Value->List Value->List Value}{gV:List V->List V->List V}
end
structure aH (N P:List Str)(sc:Scope):Prop where
 kind:sc.kind=.function
 co:sc.isCoroutine=false
 gen:sc.isGenerator=false
 nd:N.Nodup
 pre:N.take P.length=P
 par:∀x∈P,sc.names.lookup x=some .local∨sc.names.lookup x=some .cell
 Nd:∀y∈sc.names,y.2≠.free
def L6 (N P:List Str)(sc:Scope):Bool:=decide (sc.kind=.function/\sc.isCoroutine=false/\sc.isGenerator=false/\N.Nodup/\N.take P.length=P/\(∀x∈P,sc.names.lookup x=some .local∨sc.names.lookup x=some .cell)/\∀y∈sc.names,y.2≠.free)
theorem Zz {N P:List Str}{sc:Scope}(h:L6 N P sc=true):aH N P sc:=let ⟨a,b,c,d,e,f,g⟩:=ZcQ h;⟨a,b,c,d,e,f,g⟩
theorem U2 {kindOf:Str->Option NameKind}{x:Str} :∀{binds:List (Str×Value)}{m:Str->Option Value},(∀v,(x,v)∉binds)->bindL kindOf binds m x=m x
 | [],_,_=>rfl
 |(n,v)::r,m,h=>by
  unfold bindL;rw[U2 fun w hw=>h w (Zad _ hw)];split
  ·have:x≠n:=by rintro rfl;exact h v Zai
   simp[this]
  ·rfl
theorem U4 {kindOf:Str->Option NameKind}{x:Str} :∀{binds:List (Str×Value)}{m:Str->Option Value},(∀v,(x,v)∉binds)->bindC kindOf binds m x=m x
 | [],_,_=>rfl
 |(n,v)::r,m,h=>by
  unfold bindC;rw[U4 fun w hw=>h w (Zad _ hw)];split
  ·rfl
  ·have:x≠n:=by rintro rfl;exact h v Zai
   simp[this]
theorem U3 {kindOf:Str->Option NameKind}{x:Str}{v:Value} :∀{P:List Str}{vs:List Value}{i:Nat}{m:Str->Option Value},P.Nodup->P[i]? =some x->vs[i]? =some v->kindOf x=some .local->
  bindL kindOf (P.zip vs) m x=some v
 | [],_,_,_,_,h,_,_=>by simp at h
 |_::_,[],_,_,_,_,h,_=>by simp at h
 |p::P,w::vs,0,m,nd,h1,h2,hk=>by simp at h1 h2;subst h1;subst h2;show bindL kindOf ((p,w)::P.zip vs) m p=_;unfold bindL;rw[U2 fun v hv=> (Zcp.mp nd).1 (ZfK hv).1,ZaG hk];simp
 |p::P,w::vs,i+1,m,nd,h1,h2,hk=>by show bindL kindOf ((p,w)::P.zip vs) m x=_;unfold bindL;exact U3 (i:=i) (Zcp.mp nd).2 (by simpa using h1) (by simpa using h2) hk
theorem U5 {kindOf:Str->Option NameKind}{x:Str}{v:Value} :∀{P:List Str}{vs:List Value}{i:Nat}{m:Str->Option Value},P.Nodup->P[i]? =some x->vs[i]? =some v->kindOf x≠some .local->
  bindC kindOf (P.zip vs) m x=some v
 | [],_,_,_,_,h,_,_=>by simp at h
 |_::_,[],_,_,_,_,h,_=>by simp at h
 |p::P,w::vs,0,m,nd,h1,h2,hk=>by simp at h1 h2;subst h1;subst h2;show bindC kindOf ((p,w)::P.zip vs) m p=_;unfold bindC;rw[U4 fun v hv=> (Zcp.mp nd).1 (ZfK hv).1,ZaD hk];simp
 |p::P,w::vs,i+1,m,nd,h1,h2,hk=>by show bindC kindOf ((p,w)::P.zip vs) m x=_;unfold bindC;exact U5 (i:=i) (Zcp.mp nd).2 (by simpa using h1) (by simpa using h2) hk
def start (N:List Str)(vs:List V):St:=vs.map some++List.replicate (N.length-vs.length) none
def ck (CX:fZ)(P:Program)(w:World)(K:ZgE)(mg:Str->Option Value)(base:Heap)(N:List Str)(qual:Str)(scope:Scope)(f:Addr)(cd:Value)(A:Around)(outer:List Env)(s:Shared)(H:Hp)(E:XK):Cx where
 prog:=P
 w:=w
 K:=K
 mg:=mg
 base:=base
 A:=A.deeper (envOfC qual scope s.heap.objs.size f cd)
 N:=N
 bY:=s
 kG:=H
 env:=envOfC qual scope s.heap.objs.size f cd
 outer:=outer
 stack:=envOfC qual scope s.heap.objs.size f cd::outer
 ex:=[]
 calm:=true
 fn:=fun _=>true
 pn:=[]
 xe:=fun e s'=>wpAny (model P w) (A.deeper (envOfC qual scope s.heap.objs.size f cd)) (leaving (envOfC qual scope s.heap.objs.size f cd) e) (fun _ eU=>CX A.handled outer H s E e eU) (fun e' eU=>CX A.handled outer H s E e' eU) s'
theorem HA {sc:Scope}{n:Nat}{x:Str}(h:sc.names.lookup x=some .cell):∃c,(cellsFrom n sc.names []).lookup x=some c:=by have q:=PySem.W.cellsFrom_some sc.names n [] (.inl h);exact ZcH.mp q
theorem X6 {CX:fZ}{P:Program}{w:World}{K:ZgE}{mg:Str->Option Value}{base:Heap}{N ps:List Str}{qual:Str}{scope:Scope}{f:Addr}{cd:Value}{A:Around}{outer:List Env}{s s1:Shared}{H:Hp}{E:XK}{us:List Value}{vs:List V}
  (S:aH N ps scope) (hd:bL base A.handled) (e0:mi P w K mg base A outer s H) (hl:vs.length=ps.length) (r:Vals vs us)
  (x:InCallC s s.heap.objs.size (bindL (envOfC qual scope s.heap.objs.size f cd).kindOf (ps.zip us) fun _=>none) (cellsFrom (s.heap.objs.size+1) scope.names []) (bindC (envOfC qual scope s.heap.objs.size f cd).kindOf (ps.zip us) fun _=>none) s1):
  Inv (ck CX P w K mg base N qual scope f cd A outer s H E) [] (start N vs) H s1:=by
 have cA:ps.length<=N.length:=by have:=Zcr List.length S.pre;rw[ZaW]at this;omega
 obtain⟨h1,tk,rfl,hk⟩:=x.done;have lu:∀b:Addr,b∉(ck CX P w K mg base N qual scope f cd A outer s H E).ex:=fun b z=>absurd (show b∈([]:List Addr) from z) (by simp);refine⟨⟨e0.mod,S.kind,rfl,rfl,Zaq _,fun y z c h1 h2=> ?_,fun y hy=> ?_,fun y c _ h=> ?_,fun _=>hd,Around.frames_deeper e0.frames,.inr ⟨rfl,rfl⟩,fun b z=>absurd z (lu b),e0.bs,e0.iz,fun b _ _=>lu b,fun b z=>absurd z (lu b),e0.dg,e0.gB⟩,
  rfl,e0.bare,Un.kept hk,⟨_,x.toInCall.ns,fun i y v h1 h2 h3=> ?_⟩,fun y c h=> ⟨_,x.cell y c h⟩,e0.ar.fresh (Zaq _),fun y c h=> ?_,fun p hp=>absurd (show p∈([]:List (Addr×Obj)) from hp) (by simp),e0.ar.kept hk,?_⟩
 ·exact name_of_addr x.apart (Zcs h1) (Zcs h2)
 ·have hy:scope.names.lookup y=some .cell∨scope.names.lookup y=some .free:=hy;rcases hy with hy |hy
  ·exact HA hy
  ·exact absurd rfl (S.Nd _ (Zcs hy))
 ·exact Zev (x.above y c (Zcs h))
 ·have hi:i<vs.length:=by
   unfold start at h2;by_cases hi:i<vs.length
   ·exact hi
   ·rw[ZcB (by simpa using hi)]at h2;rw[Zdo]at h2;split at h2<;>cases h2
  have ha:vs[i]? =some v:=by
   unfold start at h2;rw[ZcE (by simpa using hi),Zbi]at h2;cases e:vs[i]? with
   |none=>rw[e]at h2;cases h2
   |some a=>rw[e]at h2;cases h2;rfl
  obtain⟨u,hu,rv⟩:=r.get ha;have hp:ps[i]? =some y:=by rw[<-S.pre,List.getElem?_take_of_lt .o];exact h1
  have Ea:ps.Nodup:=by rw[<-S.pre];exact S.nd.sublist (List.take_sublist _ _)
  refine⟨u,rv,?_⟩;rcases S.par y (ZaC hp) with k |k
  ·exact .inl ⟨k,U3 Ea hp hu k⟩
  ·obtain⟨c,e⟩:=HA (n:=s.heap.objs.size+1) k;refine .inr ⟨.inl k,c,e,?_⟩;have q:=x.cell y c e;rw[U5 Ea hp hu (by show scope.names.lookup y≠_;rw[k];decide)]at q;exact q
 ·exact e0.ar.fresh (Zev (x.above y c (Zcs h)))
 ·unfold start;show _=N.length;rw[Zam,Zae,Zc7];omega
theorem BX {CX:fZ}{P:Program}{w:World}{K:ZgE}{mg:Str->Option Value}{base:Heap}{k:Nat}{f:Addr}{name qual:Str}{params:Arguments}{body:List Stmt}{scope:Scope}{dV kV doc pm cdv ct oc:Value}{an od:Option Addr}
    {dZ:Array (Option Value)}{N ps:List Str}{sp:Sp} (lk:K.lookup f=some ⟨oc,od,.func (PySem.W.fnOf name qual params body scope dV kV doc pm an cdv ct),dZ⟩) (cV:PySem.W.codeIn K cdv qual=true) (S:aH N ps scope)
    (len:∀vs H Q E,sp vs H Q E->vs.length=ps.length)
    (Bk:∀(A:Around) (outer:List Env) (s:Shared) (H:Hp) (vs:List V) (Q:VK) (E:XK),bf k (A.deeper (envOfC qual scope s.heap.objs.size f cdv))->sp vs H Q E->
      ∃t,dG (ck CX P w K mg base N qual scope f cdv A outer s H E) body t/\t {nx:=fun _ H'=>Q .ag H',rt:=Q} (start N vs) H):
    aw P w K mg base CX (k+1) f (PySem.W.fnOf name qual params body scope dV kV doc pm an cdv ct) ps sp:=by
  refine⟨len,fun A outer s H args us vs Q E hr e0 hb r dc=> ?_⟩;have hl:=len _ _ _ _ dc;have KX:K.In s.heap:=e0.mod.kA.keeps fun b o e=> (e0.bs b o e).1;have lim:s.heap.NoLimit:=e0.mod.nolimit.keeps fun b o e=> (e0.bs b o e).1;have Pd:∀y∈ps.zip us,scope.names.lookup y.1=some .local∨(scope.names.lookup y.1=some .cell/\((cellsFrom (s.heap.objs.size+1) scope.names []).lookup y.1).isSome=true):=fun⟨n,v⟩ hy=>by
    rcases S.par n (ZfK hy).1 with q |q
    · exact .inl q
    · exact .inr ⟨q,PySem.W.cellsFrom_some _ _ _ (.inl q)⟩
  refine codeAny_call_function hr.depth (KX _ _ lk) rfl S.co S.gen rfl (PySem.W.codeRec_of KX cV) (hb _ _ _ _ ?_);refine wpAny_newFunctionEnv_cells S.kind Pd fun env he s1 x=> ?_;subst he;refine⟨lim.keeps x.toInCall.keep,codeAny_func ?_⟩;obtain⟨t,ht,hq⟩:=Bk A outer s H vs Q E (hr.deeper _) dc;have I:Inv (ck CX P w K mg base N qual scope f cdv A outer s H E) [] (start N vs) H s1:=X6 S e0.hd e0 hl r x;refine ZaI (ht [] s1 (start N vs) H _ I hq) (fun fl s' hs=> ?_) fun e s' hs=>hs;have fin:∀{ah:St}{H':Hp}{v:V}{u:Value},Inv (ck CX P w K mg base N qual scope f cdv A outer s H E) [] ah H' s'->RelV v u->Q v H'->CE outer P w H s Q u s':=
    fun {ah H' v u} J rv q=> ⟨v,H',J.os,J.bare,J.base,J.ar,rv,q⟩
  cases fl with
  |ret u=>obtain⟨v,ah,H',J,rv,q⟩:=hs;exact fin J rv q
  |next=>obtain⟨ah,H',J,q⟩:=hs;exact fin (v:=V.ag) (u:=Value.none) J rfl q
  |brk=>obtain⟨_,_,_,q⟩:=hs;exact False.elim q
  |cont=>obtain⟨_,_,_,q⟩:=hs;exact False.elim q
section
variable {X:Cx}{x:Str}{p pos:Pos}{e:Expr}{es:List Expr}{t:TA}{id T:String}{r:List V->Hp->VK->Prop}
def uE (r:List V->Hp->VK->Prop)(t:TA):TE:=fun σ H Q=>t σ H fun vs H1=>r vs H1 Q
theorem Zn (hc:fY X (.builtin id) r)(hg:Gl X x)(hm:X.mg x=none)(hv:bootBuiltins x=some (.builtin id))(ha:PA X (e::es) t)(hn:x≠ "__name__" :=by decide)(gz:(x==("__debug__" :Str))=false:=by decide)
  (he:starEach (e::es) X.env=(false,eval e X.env)::starEach es X.env:=by rfl) (cA:(backTo pos (starEach es X.env)).any (·.1)=false:=by rfl):PE X (.Call (.Name x p) (e::es) [] pos) (uE r t):=by
 intro pins s σ H Q I h;refine ZbH (YQ I hg hm hv ?_ hn gz);exact PyProof.Rows.callWith_builtin1 (au (ha pos pins s σ H _ I h) fun us s1 ⟨vs,H1,I1,r1,q1⟩=>hc pins s1 σ H1 vs us Q I1 r1 q1) he cA
theorem ZD (hc:fY X (.type T) r)(hg:Gl X x)(hm:X.mg x=none)(hv:bootBuiltins x=some (.type T))(ha:PA X (e::es) t)(hn:x≠ "__name__" :=by decide)(gz:(x==("__debug__" :Str))=false:=by decide)
  (he:starEach (e::es) X.env=(false,eval e X.env)::starEach es X.env:=by rfl) (cA:(backTo pos (starEach es X.env)).any (·.1)=false:=by rfl):PE X (.Call (.Name x p) (e::es) [] pos) (uE r t):=by
 intro pins s σ H Q I h;refine ZbH (YQ I hg hm hv ?_ hn gz);exact Zcv (au (ha pos pins s σ H _ I h) fun us s1 ⟨vs,H1,I1,r1,q1⟩=>hc pins s1 σ H1 vs us Q I1 r1 q1) he cA
end
end L2
namespace HT
open PySem PyProof.Rows
def lexLt:List Int->List Int->Bool
 | [],[]=>false
 | [],_::_=>true
 |_::_,[]=>false
 |x::xs,y::ys=>if x=y then lexLt xs ys else decide (x<y)
theorem Ek (x y:Int)(xs ys:List Int):lexLt (x::xs) (y::ys)=if x=y then lexLt xs ys else decide (x<y):=rfl
theorem Us:lexLt [] []=false:=rfl
theorem WV (y:Int)(ys:List Int):lexLt [] (y::ys)=true:=rfl
theorem WW (x:Int)(xs:List Int):lexLt (x::xs) []=false:=rfl
theorem Vb (A:Around)(s:Shared)(a:Int)(t:Tok)(c:Int)(u:Tok):∃e,SeqAt.EqAt A s (.int a t) (.int c u) e/\(e=true↔a=c):=
 ⟨(a==c),Zcw a t c u,by simp⟩
theorem Xv (A:Around)(s:Shared)(a:Int)(t:Tok)(c:Int)(u:Tok)(prog:Program)(w:World)(E:Value->Shared->Prop)(Q:Value->Shared->Prop)(h:Q (.bool (decide (a<c))) s):
  wpAny (model prog w) A (richCompare .Lt (.int a t) (.int c u)) Q E s:=
 (PyProof.Rows.lt_int h:wpAny (model prog w) A (compareOp .Lt (.int a t) (.int c u)) Q E s)
section
open PySem.SeqAt
open PySem.AutoSeq1 (wpAny_loadPart')
open PySem.MeetsSeq PySem.MeetsSeq2 PySem.MeetsSeq3
theorem Up (l b:Addr)(items items2:Array Value)(n n2:Nat)(dd l7:Option Addr)(sl fw:Array (Option Value))(ns ms:List Int)(hi:IntsAre items.toList ns)(hj:IntsAre items2.toList ms):
  Meets (Builtin.«tuple.__lt__» ⟨[.ref l,.ref b],[]⟩)
   (fun _ R s=>s.heap.get? l=some {cls:=.type "tuple",dict:=dd,data:=.seq items n,slots:=sl}/\s.heap.get? b=some {cls:=.type "tuple",dict:=l7,data:=.seq items2 n2,slots:=fw}/\
    R (.ok (.ret (.bool (lexLt ns ms)))) s):=
 .of_wp fun prog w A R s h=>by
  obtain⟨hp,g,d,tk,os⟩:=s;obtain⟨hl,hb,h⟩:=h;have f2:=AutoSeq1.sub_tuple_tuple;have z1:items.size=ns.length:=by rw[<-hi.length];simp
  have z2:items2.size=ms.length:=by rw[<-hj.length];simp
  wp_walk using wpAny_loadPart' hl,PySem.wpAny_loadPart' hb,wpAny_forIn_list _ (fun rest b s'=>b.1=none/\s'=⟨hp,g,d,tk,os⟩/\∃(vs ws:List Value) (pQ pU:List Int),rest=vs.zip ws/\
   IntsAre vs pQ/\IntsAre ws pU/\pQ.length+items2.size=pU.length+items.size/\R (.ok (.ret (.bool (lexLt pQ pU)))) ⟨hp,g,d,tk,os⟩) _
  case turn=>
   rintro⟨y,x⟩ rest b s' ⟨dP,rfl,vs,ws,pQ,pU,hz,AG,vT,hlen,hR⟩;cases AG with
   |nil=>rw[List.zip_nil_left]at hz;cases hz
   |cons a t Oi=>
    cases vT with
    |nil=>rw[List.zip_nil_right]at hz;cases hz
    |cons c u Of=>
     rw[ZdA]at hz;injection hz with N9 hrest;injection N9 with hy hx;subst hy hx;rw[Ek]at hR;simp only[ZaE]at hlen;obtain⟨e,he,EZ⟩:=Vb A.in1 ⟨hp,g,d,tk,os⟩ a t c u;refine eg (he prog w _ _ ?_);cases e with
     |true=>
      rw[ZaG (EZ.mp rfl)]at hR
      wp_walk
      exact⟨rfl,rfl,_,_,_,_,hrest,Oi,Of,.o,hR⟩
     |false=>
      rw[ZaD (fun q=>absurd (EZ.mpr q) Zaj)]at hR;have OI:=Xv A.in1 ⟨hp,g,d,tk,os⟩ a t c u prog w
      wp_walk using OI
      exact⟨_,rfl,by simpa using hR⟩
  case fin=>
   rintro⟨b1,b2⟩ s' ⟨dP,rfl,vs,ws,pQ,pU,hz,AG,vT,hlen,hR⟩;simp only at dP;subst dP;have hv:lexLt pQ pU=decide (items.size<items2.size):=by
    cases AG with
    |nil=>
     cases vT with
     |nil=>simp only[Zd5]at hlen;rw[Us];exact(Zav .o).symm
     |cons c u hw=>simp only[Zd5,ZaE]at hlen;rw[WV];exact(ZaA .o).symm
    |cons a t hv=>
     cases vT with
     |nil=>simp only[Zd5,ZaE]at hlen;rw[WW];exact(Zav .o).symm
     |cons c u hw=>rw[ZdA]at hz;cases hz
   rw[hv]at hR
   wp_walk
   exact⟨_,rfl,by simpa[Builtin.Tuple.tupleCompareSizes] using hR⟩
  case h=>exact⟨rfl,rfl,items.toList,items2.toList,ns,ms,rfl,hi,hj,.o,h⟩
end
section
variable {prog:Program}{w:World}{A:Around}{E:Value->Shared->Prop}{s:Shared}
theorem vH {l b:Addr}{items items2:Array Value}{ns ms:List Int}{Q:Value->Shared->Prop}(hl:IsTup s.heap l items)(hb:IsTup s.heap b items2)(hi:IntsAre items.toList ns)(hj:IntsAre items2.toList ms)
  (hu:A.units<cLine) (h:Q (.bool (lexLt ns ms)) s):wpAny (model prog w) A (compareOp .Lt (.ref l) (.ref b)) Q E s:=by
 obtain⟨⟨cls,dd,data,sl⟩,ho,hc,n,hd⟩:=id hl;obtain⟨⟨Gh,l7,data2,fw⟩,iL,df,n2,hd2⟩:=id hb;simp only at hc hd df hd2;subst hc hd df hd2;exact richCompare_meets_room (op:=.Lt) ⟨_,ho,rfl⟩ ⟨_,iL,rfl⟩ PySem.F.slot_tuple_lt PySem.F.entry_tuple_lt (PySem.F.args_tuple_lt_2 _ _) (Up l b items items2 n n2 dd l7 sl fw ns ms hi hj)
  ⟨ho,iL,show Value.bool (lexLt ns ms)≠Value.notImplemented/\Q (.bool (lexLt ns ms)) s from ⟨(fun x=>nomatch x),h⟩⟩ hu
theorem Rx {t b:Addr}{vs ws:List Value}{Q:Value->Shared->Prop}(ht:IsTup s.heap t vs.toArray)(hb:IsTup s.heap b ws.toArray)(hv:vs≠[])
  (h1:ws=[]->Q (.ref t) s) (h2:ws≠[]->Q (.ref s.heap.objs.size) {s with heap:=s.heap.push {cls:=.type "tuple",data:=.seq (vs++ws).toArray} })
  (hsz:vs.length+ws.length<=sizeLine):wpAny (model prog w) A (binaryOp .Add (.ref t) (.ref b)) Q E s:=by
 obtain⟨⟨cls,dd,data,sl⟩,ho,hc,n,hd⟩:=id ht;obtain⟨⟨Gh,l7,data2,fw⟩,iL,df,n2,hd2⟩:=id hb;simp only at hc hd df hd2;subst hc hd df hd2;have e:vs.toArray++ws.toArray=(vs++ws).toArray:=by simp
 by_cases hw:ws=[]
 ·exact concat_meets ⟨_,ho,rfl⟩ ⟨_,iL,rfl⟩ Zfv Zgi Zeg Zd6 (ZdY _ _)
   (tuple_addW1 t b vs.toArray ws.toArray n n2 dd l7 sl fw (by simpa using hv) (by simp[hw])) ⟨ho,iL,h1 hw⟩
 ·refine concat_meets ⟨_,ho,rfl⟩ ⟨_,iL,rfl⟩ Zfv Zgi Zeg Zd6 (ZdY _ _)
   (tuple_addW2 t b vs.toArray ws.toArray n n2 dd l7 sl fw (by simpa using hv) (by simpa using hw) (by rw[Zas,Zas];exact hsz)) ⟨ho,iL,?_⟩
  rw[e];exact h2 hw
def aJ (n d:Nat):Option Int->Nat
 |none=>d
 |some v=>if v<0 then (v+(n:Int)).toNat else min v.toNat n
theorem zw (n d:Nat):aJ n d none=d:=rfl
theorem pD (n d k:Nat):aJ n d (some (k:Int))=min k n:=by show(if (k:Int)<0 then ((k:Int)+(n:Int)).toNat else min (k:Int).toNat n)=min k n;rw[ZaD .o,ZcN]
theorem TM (n d:Nat)(hd:d<=n)(o:Option Int):aJ n d o<=n:=by
 cases o with
 |none=>exact hd
 |some v=>
  show(if v<0 then (v+(n:Int)).toNat else min v.toNat n)<=n;by_cases hv:v<0
  ·rw[ZaG hv];omega
  ·rw[ZaD hv];exact Nat.min_le_right _ _
theorem G7 (v:Int)(n d:Nat):(if v<0 then max (v+(n:Int)) 0 else min v (n:Int))=((aJ n d (some v):Nat):Int):=by
 show(if v<0 then max (v+(n:Int)) 0 else min v (n:Int))=(((if v<0 then (v+(n:Int)).toNat else min v.toNat n):Nat):Int);by_cases hv:v<0
 ·simp only[ZaG hv];omega
 ·simp only[ZaD hv];omega
theorem Zb3 (lo hi:Option Int)(n:Nat):Builtin.Slice.sliceAdjust lo hi 1 (n:Int)=(((aJ n 0 lo:Nat):Int),((aJ n n hi:Nat):Int)):=by
 have h1:¬((1:Int)<0):=.o;unfold Builtin.Slice.sliceAdjust;simp only[h1,Zdd];refine Prod.ext ?_ ?_
 ·cases lo with
  |none=>rfl
  |some v=>exact G7 v n 0
 ·cases hi with
  |none=>rfl
  |some v=>exact G7 v n n
theorem ZbF (i j:Nat):Builtin.Slice.slicePlaces (i:Int) (j:Int) 1=j-i:=by unfold Builtin.Slice.slicePlaces;have h1:(1:Int)>0:=.o;simp only[h1,Zem,Int.ediv_one];split<;>omega
theorem WB {v:Value}{o:Option Int}{Q:Option Int->Shared->Prop}(p:IsPart v o)(h:Q o s):wpAny (model prog w) A (Builtin.Slice.slicePartIndex v) Q E s:=by
 cases p with
 |none=>exact slicePart_none h
 |int i t=>exact slicePart_int h
theorem Dp {sl:Addr}{vl vu:Value}{lo hi:Option Int}{n:Nat}{Q:Int×Int×Nat->Shared->Prop}(hs:s.heap.IsSliceOf sl vl vu .none)(pl:IsPart vl lo)(pu:IsPart vu hi)
  (h:Q (((aJ n 0 lo:Nat):Int),1,aJ n n hi-aJ n 0 lo) s):wpAny (model prog w) A (Builtin.Slice.sliceApplied (.ref sl) (pure (n:Int))) Q E s:=by
 obtain⟨os,nV,wq,sH⟩:=id hs;unfold Builtin.Slice.sliceApplied Builtin.Slice.sliceFields;refine eg (eg (Zca nV sH (x:=vl) rfl (eg (Zca nV sH (x:=vu) rfl (eg (Zca nV sH (x:=.none) rfl (Zao ?_)))))));refine eg (slicePart_none ?_);show wpAny _ _ (if ((1:Int)==0)=true then _ else _) _ _ s;rw[ZaD .d];refine eg (WB pl (eg (WB pu (eg (Zao ?_)))));show wpAny _ _ (match Builtin.Slice.sliceAdjust lo hi 1 (n:Int) with |(lo,hi)=>pure (lo,(1:Int),Builtin.Slice.slicePlaces lo hi 1)) _ _ s;rw[Zb3 lo hi n];show wpAny _ _ (pure (((aJ n 0 lo:Nat):Int),(1:Int),Builtin.Slice.slicePlaces ((aJ n 0 lo:Nat):Int) ((aJ n n hi:Nat):Int) 1)) _ _ s;rw[ZbF];exact Zao h
theorem Xq (xs:Array Value)(i k:Nat):((List.range k).filterMap fun(m:Nat)=>xs[((i:Int)+(m:Int)*1).toNat]?).toArray=((xs.toList.drop i).take k).toArray:=by
 have e:(fun(m:Nat)=>xs[((i:Int)+(m:Int)*1).toNat]?)=fun m=>xs[i+m]? :=by funext m;have:((i:Int)+(m:Int)*1).toNat=i+m:=.o;rw[this]
 rw[e];have:=pick_run xs i k;rw[List.filterMap_map]at this;have e2:((fun x=>xs[x]?)∘fun x=>i+x)=fun m=>xs[i+m]? :=rfl;rw[e2]at this;rw[this]
theorem Qo {t sl:Addr}{items:Array Value}{vl vu:Value}{lo hi:Option Int}{Q:Value->Shared->Prop}(ht:IsTup s.heap t items)(hs:s.heap.IsSliceOf sl vl vu .none)(pl:IsPart vl lo)(pu:IsPart vu hi)
  (hw:¬(aJ items.size 0 lo=0/\aJ items.size items.size hi=items.size))
  (h:Q (.ref s.heap.objs.size) {s with heap:=s.heap.push {cls:=.type "tuple",data:=.seq ((items.toList.drop (aJ items.size 0 lo)).take (aJ items.size items.size hi-aJ items.size 0 lo)).toArray} })
  (hsz:items.size<=sizeLine):wpAny (model prog w) A (getItem (.ref t) (.ref sl)) Q E s:=by
 have vU:sizeOk (.seq ((items.toList.drop (aJ items.size 0 lo)).take (aJ items.size items.size hi-aJ items.size 0 lo)).toArray):=by show((items.toList.drop (aJ items.size 0 lo)).take (aJ items.size items.size hi-aJ items.size 0 lo)).toArray.size<=sizeLine;rw[Zas,ZaW,Zcz,Zbq];omega
 have hj:aJ items.size items.size hi<=items.size:=TM _ _ (Zaq _) hi;obtain⟨os,nV,wq,sH⟩:=id hs;have eE:s.TypeIs (.ref sl) "slice" :=⟨os,nV,wq⟩;unfold getItem
 try with_reducible refine ZaU ?_
 first |refine eg (Zao ?_) |skip
 refine eg (wpAny_sequenceKey ht.typeIs .d ?_);refine eg (Zcf (name:=Str.ofString "__getitem__") ht.typeIs ZbE
  (ZcI ZbE ht.typeIs entry_tuple_getitem ?_ (args_tuple_getitem _ _)))
 show wpAny _ _ (Builtin.Tuple.tupleItemsOf (.ref t) >>=_) _ _ s;refine eg (tupleItemsOf_ ht ?_);refine eg (wpAny_typeOf eE ?_);rw[ZaG .d];refine eg (Dp hs pl pu ?_);have OV:¬((((aJ items.size 0 lo:Nat):Int)==0&&(1:Int)==1&&(aJ items.size items.size hi-aJ items.size 0 lo)==items.size)=true):=by intro q;rw[ZaJ,ZaJ]at q;have q1:((aJ items.size 0 lo:Nat):Int)=0:=eq_of_beq q.1.1;have q2:aJ items.size items.size hi-aJ items.size 0 lo=items.size:=eq_of_beq q.2;exact hw ⟨.o,.o⟩
 show wpAny _ _ (if (((aJ items.size 0 lo:Nat):Int)==0&&(1:Int)==1&&(aJ items.size items.size hi-aJ items.size 0 lo)==items.size)=true then _ else _) _ _ s;rw[ZaD OV,Xq]
 first
  |exact eg (m:=Builtin.Tuple.tupleExact _) (ZbB (Zao ⟨_,rfl,Zao h⟩) vU)
  |exact eg (m:=Builtin.Tuple.tupleExact _) (ZbB (eg (Zao (Zao ⟨_,rfl,Zao h⟩))) vU)
  |exact eg (eg (m:=Builtin.Tuple.tupleExact _) (ZbB (Zao (Zao ⟨_,rfl,Zao h⟩)) vU))
  |exact eg (eg (m:=Builtin.Tuple.tupleExact _) (ZbB (Zao ⟨_,rfl,Zao h⟩) vU))
end
end HT
namespace L2
open PySem PySem.Spec PyProof.Rows
abbrev TO:=St->Hp->(Option Int->Hp->Prop)->Prop
def PO (X:Cx)(e:Option Expr)(t:TO):Prop:=
 ∀(pins:List (Addr×Obj)) (s:Shared) (σ:St) (H:Hp) (Q:Option Int->Hp->Prop),Inv X pins σ H s->t σ H Q->
  wpAny (model X.prog X.w) X.A (evalPart e X.env) (fun u s'=> ∃o H',Inv X pins σ H' s'/\IsPart u o/\Q o H') X.xe s
def xX:TO:=fun _ H Q=>Q none H
def xW (t:TE):TO:=fun σ H Q=>t σ H fun x H1=> ∃i,x=.int i/\Q (some i) H1
theorem YG {ns:List Int} :∀{us:List Value},Vals (ns.map V.int) us->IntsAre us ns:=by
 induction ns with
 |nil=>intro us r;rw[Zdm]at r;cases r;exact .nil
 |cons n ns ih=>
  intro us r;rw[ZaQ]at r;cases r with
  |cons r1 r2=>obtain⟨t,e⟩:=r1;subst e;exact .cons n t (ih r2)
section
variable {X:Cx}{e:Expr}{te:TE}{lo hi:Option Expr}{tl th:TO}{pos p2:Pos}
theorem Z8:PO X none xX:=by intro pins s σ H Q I h;rw[evalPart_none];exact Zao ⟨none,H,I,.none,h⟩
theorem Z2 (h:PE X e te):PO X (some e) (xW te):=by intro pins s σ H Q I hw;rw[evalPart_some];refine au (h pins s σ H _ I hw) fun u s1 ⟨x,H1,I1,r1,q1⟩=> ?_;obtain⟨i,rfl,q⟩:=q1;obtain⟨t,rfl⟩:=r1;exact⟨some i,H1,I1,.int i t,q⟩
def qH (X:Cx)(r:V->Option Int->Option Int->Hp->VK->Prop):Prop:=
 ∀(pins:List (Addr×Obj)) (s:Shared) (σ:St) (H:Hp) (x:V) (v vl vu:Value) (lo hi:Option Int) (sl:Addr) (Q:VK),Inv X pins σ H s->RelV x v->s.heap.IsSliceOf sl vl vu .none->IsPart vl lo->IsPart vu hi->r x lo hi H Q->
  ∃T id,typeLookup (.type T) "__getitem__" =pure (some (.builtin id))/\s.TypeIs v T/\wpAny (model X.prog X.w) X.A (getItem v (.ref sl)) (EP X pins σ Q) X.xe s
def xT (r:V->Option Int->Option Int->Hp->VK->Prop)(te:TE)(tl th:TO):TE:=fun σ H Q=>te σ H fun x H1=>tl σ H1 fun l H2=>th σ H2 fun u H3=>r x l u H3 Q
theorem ZX {r:V->Option Int->Option Int->Hp->VK->Prop}(hr:qH X r)(he:PE X e te)(hl:PO X lo tl)(hu:PO X hi th):PE X (.Subscript e (.Slice lo hi none p2) pos) (xT r te tl th):=by intro pins s σ H Q I h;refine Subscript_ (au (he pins s σ H _ I h) fun v s1 ⟨x,H1,I1,r1,q1⟩=> ?_);refine wpAny_Slice (au (hl pins s1 σ H1 _ I1 q1) fun vl s2 ⟨l,H2,I2,pl,q2⟩=>au (hu pins s2 σ H2 _ I2 q2) fun vu s3 ⟨u,H3,I3,pu,q3⟩=> ?_);rw[evalPart_none];refine Zao ?_;have I4:Inv X pins σ H3 {s3 with heap:=s3.heap.push {cls:=.type "slice",data:=.fields #[vl,vu,.none]} } :=I3.kept (t':=s3.toks) fun b ob q=>gc _ q;obtain⟨T,id,hT,ht,hg⟩:=hr pins {s3 with heap:=s3.heap.push {cls:=.type "slice",data:=.fields #[vl,vu,.none]} } σ H3 x v vl vu l u s3.heap.objs.size Q I4 r1 (Heap.IsSliceOf.new ..) pl pu q3;show wpAny (model X.prog X.w) X.A (subscriptTail e (.Slice lo hi none p2) v (.ref s3.heap.objs.size)) (EP X pins σ Q) X.xe {s3 with heap:=s3.heap.push {cls:=.type "slice",data:=.fields #[vl,vu,.none]} };exact tail_any (ops:=[.ref s3.heap.objs.size,v]) ht hT hg (by with_unfolding_all rfl)
def dh (xs:List V)(lo hi:Option Int):List V:=(xs.drop (HT.aJ xs.length 0 lo)).take (HT.aJ xs.length xs.length hi-HT.aJ xs.length 0 lo)
theorem Wm (xs:List V)(lo hi:Option Int):(dh xs lo hi).length<=xs.length:=by unfold dh;rw[ZaW,Zcz];omega
def Mf (K:ZgE):V->Option Int->Option Int->Hp->VK->Prop:=fun x lo hi H Q=> ∃a xs,x=.ref a/\aq K H a xs/\
 ¬(HT.aJ xs.length 0 lo=0/\HT.aJ xs.length xs.length hi=xs.length)/\∀p,H p=none->Q (.ref p) (upd H p (.tup (dh xs lo hi)))
theorem B6:qH X (Mf X.K):=by
 intro pins s σ H x v vl vu lo hi sl Q I rx hs pl pu h;obtain⟨a,xs,rfl,hx,hw,q⟩:=h;cases rx;obtain⟨ae,r,ht,hz⟩:=I.tuple hx;have hlen:ae.toArray.size=xs.length:=by rw[Zas];exact r.length.symm
 refine⟨"tuple",_,ZbE.lookup,ht.typeIs,?_⟩;refine HT.Qo ht hs pl pu (by rw[hlen];exact hw) ?_ (by rw[hlen];exact hz);rw[hlen];refine⟨.ref s.heap.objs.size,_,I.laid (t':=s.toks) (o:=.tup (dh xs lo hi)) (fun b ob q=>gc _ q) (Zaq _) ?_,rfl,q _ (I.ar.fresh (Zaq _))⟩;exact⟨ZaL (Wm xs lo hi) hz,_,(r.drop (HT.aJ xs.length 0 lo)).take (HT.aJ xs.length xs.length hi-HT.aJ xs.length 0 lo),IsTup.new _ _,_,Zau _ rfl,rfl⟩
def DJ (K:ZgE):R2:=fun x y H Q=> ∃a b xs ys,x=.ref a/\y=.ref b/\aq K H a xs/\aq K H b ys/\xs≠[]/\xs.length+ys.length<=sizeLine/\
 (ys=[]->Q (.ref a) H)/\(ys≠[]->∀p,H p=none->Q (.ref p) (upd H p (.tup (xs++ys))))
theorem Vals.Ae {xs:List V}{us:List Value}(r:Vals xs us):us=[]↔xs=[]:=by
 cases r with
 |nil=>simp
 |cons _ _=>simp
theorem VO:aZ X (binaryOp .Add) (DJ X.K):=by intro pins s σ H x y v u Q I rx ry h;obtain⟨a,b,xs,ys,rfl,rfl,ha,hb,hx,hz,q1,q2⟩:=h;cases rx;cases ry;obtain⟨ae,r1,p1,_⟩:=I.tuple ha;obtain⟨jk,r2,p2,_⟩:=I.tuple hb;refine HT.Rx p1 p2 (fun z=>hx (r1.Ae.mp z)) (fun z=> ⟨.ref a,H,I,rfl,q1 (r2.Ae.mp z)⟩) (fun z=> ?_) (by rw[<-r1.length,<-r2.length];exact hz);refine⟨.ref s.heap.objs.size,_,I.laid (t':=s.toks) (o:=.tup (xs++ys)) (fun b ob q=>gc _ q) (Zaq _) ?_,rfl,q2 (fun w=>z (r2.Ae.mpr w)) _ (I.ar.fresh (Zaq _))⟩;exact⟨by rw[Zam];exact hz,_,r1.append r2,IsTup.new _ _,_,Zau _ rfl,rfl⟩
end
def jM (n:Nat)(i:Int):Option Nat:=if 0<=i then (if i<n then some i.toNat else none) else if -(n:Int)<=i then some (i+n).toNat else none
def fQ {α:Type}(xs:List α)(i:Int):Option α:=(jM xs.length i).bind fun j=>xs[j]?
theorem Hg {n:Nat}{i:Int}{j:Nat}(h:jM n i=some j):seqIndex? i n=some j/\j<n/\ -(n:Int)<=i/\i<n:=by
 unfold jM at h;by_cases h0:0<=i
 ·rw[ZaG h0]at h;by_cases h1:i<n
  ·rw[ZaG h1]at h;have e:i.toNat=j:=Za3 h;exact⟨by rw[seqIndex_of h0 h1,e],.o,.o,h1⟩
  ·rw[ZaD h1]at h;cases h
 ·rw[ZaD h0]at h;by_cases h1: -(n:Int)<=i
  ·rw[ZaG h1]at h;have e:(i+n).toNat=j:=Za3 h;exact⟨by rw[seqIndex_neg .o h1,e],.o,h1,.o⟩
  ·rw[ZaD h1]at h;cases h
theorem Hy {α:Type}{xs:List α}{i:Int}{v:α}(h:fQ xs i=some v):∃j,seqIndex? i xs.length=some j/\xs[j]? =some v/\j<xs.length/\ -(xs.length:Int)<=i/\i<xs.length:=by
 unfold fQ at h;cases e:jM xs.length i with
 |none=>rw[e]at h;cases h
 |some j=>rw[e]at h;obtain⟨h1,h2,h3,h4⟩:=Hg e;exact⟨j,h1,h,h2,h3,h4⟩
theorem Ya {α:Type}{xs:List α}{j:Nat}{v:α}(h:xs[j]? =some v):fQ xs (j:Int)=some v:=by
 have hj:j<xs.length:=(Zaa.mp h).1;have e:jM xs.length (j:Int)=some j:=by unfold jM;rw[ZaG .o,ZaG .o];simp
 unfold fQ;rw[e];exact h
theorem Ji {α:Type}(xs:List α)(v:α):fQ (xs++[v]) (-1)=some v:=by
 have hl:(xs++[v]).length=xs.length+1:=by simp
 have e:jM (xs++[v]).length (-1)=some xs.length:=by
  unfold jM;rw[hl,ZaD .d,ZaG .o]
  congr 1
  omega
 unfold fQ;rw[e];show(xs++[v])[xs.length]? =some v;simp
def aac (b:Expr):Prop:=∀o i,subscripted b false o i=operate [o,i] (getItem o i)
def oN (X:Cx)(r:R2):Prop:=
 ∀(value slice:Expr) (pins:List (Addr×Obj)) (s:Shared) (σ:St) (H:Hp) (x y:V) (v u:Value) (Q:VK),Inv X pins σ H s->RelV x v->RelV y u->r x y H Q->
  subscripted slice false v u=operate [v,u] (getItem v u)->wpAny (model X.prog X.w) X.A (subscriptTail value slice v u) (EP X pins σ Q) X.xe s
def IF (X:Cx)(id:String)(r:V->List V->Hp->VK->Prop):Prop:=
 ∀(pins:List (Addr×Obj)) (s:Shared) (σ:St) (H:Hp) (x:V) (xs:List V) (v:Value) (us:List Value) (Q:VK),Inv X pins σ H s->RelV x v->Vals xs us->r x xs H Q->
  wpAny (model X.prog X.w) X.A (call (.builtin id) (v::us)) (EP X pins σ Q) X.xe s
section
variable {X:Cx}{a b:Expr}{ta tb:TE}{pos:Pos}
theorem Zq {r:R2}(hr:oN X r)(ha:PE X a ta)(hb:PE X b tb)(hs:aac b):PE X (.Subscript a b pos) (iH r ta tb):=by intro pins s σ H Q I h;exact Subscript_ (BS ha hb I h fun v u s2 x y H2 I2 rx ry q=>hr a b pins s2 σ H2 x y v u Q I2 rx ry q (hs _ _))
def vt (K:ZgE):R2:=fun x y H Q=> ∃p xs i v,x=.ref p/\y=.int i/\ao K H p xs/\fQ xs i=some v/\Q v H
def pM (K:ZgE):R2:=fun x y H Q=> ∃p xs i v,x=.ref p/\y=.int i/\aq K H p xs/\fQ xs i=some v/\Q v H
theorem Zs:oN X (vt X.K):=by
 intro value slice pins s σ H x y v u Q I rx ry h hs;obtain⟨p,xs,i,z,rfl,rfl,hq,he,q⟩:=h;cases rx;obtain⟨t,rfl⟩:=ry;obtain⟨ae,r,pl,hz⟩:=I.list hq;obtain⟨j,h1,h2,h3,h4,h5⟩:=Hy he;obtain⟨w,ew,gL⟩:=r.get h2;have hl:=r.length;have hn:=rO;have fin:EP X pins σ Q w s:=⟨z,H,I,gL,q⟩;by_cases h0:0<=i
 ·have hj:i.toNat=j:=by rw[seqIndex_of h0 h5]at h1;exact Za3 h1
  exact item_listR pl.isList h0 .o (by rw[hj];simpa using ew) fin hs
 ·have hj:(i+(ae.toArray.size:Int)).toNat=j:=by rw[seqIndex_neg .o h4]at h1;rw[Zas,<-hl];exact Za3 h1
  exact subscriptTail_builtinR (x:=w) pl.isList.typeIs slot_list_getitem.lookup
   (wpAny_getItem_list_neg (Q:=fun r s'=>r=w/\EP X pins σ Q r s') pl.isList .o (by rw[Zas]<;>omega) .o (by rw[hj];simpa using ew) ⟨rfl,fin⟩) hs
theorem ZE:oN X (pM X.K):=by
 intro value slice pins s σ H x y v u Q I rx ry h hs;obtain⟨p,xs,i,z,rfl,rfl,hq,he,q⟩:=h;cases rx;obtain⟨t,rfl⟩:=ry;obtain⟨ae,r,pl,hz⟩:=I.tuple hq;obtain⟨j,h1,h2,h3,h4,h5⟩:=Hy he;obtain⟨w,ew,gL⟩:=r.get h2;have hl:=r.length;have hn:=rO;have fin:EP X pins σ Q w s:=⟨z,H,I,gL,q⟩;exact subscriptTail_builtinR (x:=w) pl.typeIs slot_tuple_getitem.lookup
  (getItem_tuple (j:=j) (Q:=fun r s'=>r=w/\EP X pins σ Q r s') pl .o .o (by rw[Zas,<-hl];exact h1) (by simpa using ew) ⟨rfl,fin⟩) hs
theorem ZbN (ae:List Value)(n j:Nat)(u:Value):Obj.mapSeq (·.setIfInBounds j u) {cls:=.type "list",data:=.seq ae.toArray n} = {cls:=.type "list",data:=.seq (ae.set j u).toArray n} :=by simp[Obj.mapSeq]
theorem Inv.lst {pins:List (Addr×Obj)}{σ:St}{H:Hp}{s:Shared}{p:Addr}{xs:List V}(I:Inv X pins σ H s)(h:H p=some (.lst xs)):
  ∃(ae:List Value) (n:Nat),Vals xs ae/\s.heap.get? p=some {cls:=.type "list",data:=.seq ae.toArray n}/\xs.length<=sizeLine:=by
 obtain⟨z,ae,n,r,e⟩:=I.ar p _ h;exact⟨ae,n,r,e,z⟩
theorem Inv.NG {pins:List (Addr×Obj)}{σ:St}{H:Hp}{s:Shared}{p:Addr}{xs ys:List V}{ae its':List Value}{n n':Nat}{f:Obj->Obj}(I:Inv X pins σ H s)(h:H p=some (.lst xs))
  (ho:s.heap.get? p=some {cls:=.type "list",data:=.seq ae.toArray n}) (hf:f {cls:=.type "list",data:=.seq ae.toArray n} = {cls:=.type "list",data:=.seq its'.toArray n'}) (r:Vals ys its') (hz:ys.length<=sizeLine) (t:Nat):
  Inv X pins σ (upd H p (.lst ys)) {s with heap:=s.heap.update p f,toks:=t} :=by
 have e:(s.heap.update p f).get? p=some {cls:=.type "list",data:=.seq its'.toArray n'} :=by rw[Zcb f ho (by rw[hf]<;>rfl),hf]
 refine I.write (x:=p) (e:=p) (by rw[h];trivial) (.inl rfl) (fun b u hb q=> (Za1 _ _ (ZcL hb)).trans q) ⟨_,e⟩ ?_;exact⟨hz,its',n',r,e⟩
def Mh:V->V->V->Hp->(Hp->Prop)->Prop:=fun o i v H Q=> ∃p xs k j,o=.ref p/\i=.int k/\H p=some (.lst xs)/\jM xs.length k=some j/\Q (upd H p (.lst (xs.set j v)))
theorem WC:IC X Mh:=by
 intro pins s σ H o i v ov iv u Q I ro ri rv h;obtain⟨p,xs,k,j,rfl,rfl,hp,hj,q⟩:=h;cases ro;obtain⟨t,rfl⟩:=ri;obtain⟨ae,n,r,ho,hz⟩:=I.lst hp;obtain⟨h1,h2,h3,h4⟩:=Hg hj;have hl:=r.length;have hn:=rO;have I':Inv X pins σ (upd H p (.lst (xs.set j v))) {s with heap:=s.heap.update p (Obj.mapSeq (·.setIfInBounds j u))} :=
  I.NG hp ho (ZbN ae n j u) (r.set rv j) (by rw[Zd7];exact hz) s.toks
 by_cases h0:0<=k
 ·have hk:k.toNat=j:=by rw[seqIndex_of h0 h4]at h1;exact Za3 h1
  exact PySem.W.ki_setAt ho h0 .o (by rw[Zas,<-hl];exact h4) (by rw[hk];exact⟨_,I',q⟩)
 ·have hk:(k+(ae.toArray.size:Int)).toNat=j:=by rw[seqIndex_neg .o h3]at h1;rw[Zas,<-hl];exact Za3 h1
  exact PySem.W.ki_setBack ho .o (by rw[Zas,<-hl];exact h3) .o (by rw[hk];exact⟨_,I',q⟩)
theorem U8 (lo hi:Option Int)(n:Nat):(sliceBounds lo hi none n).1=((HT.aJ n 0 lo:Nat):Int)/\(sliceBounds lo hi none n).2.1=((HT.aJ n n hi:Nat):Int)/\(sliceBounds lo hi none n).2.2=1:=by
 refine⟨?_,?_,rfl⟩
 ·cases lo with
  |none=>simp[sliceBounds,HT.aJ]
  |some i=>
   simp only[sliceBounds,HT.aJ,Option.getD_none,show(1:Int)>0 by decide,Zem];by_cases h:i<0
   ·simp only[h,Zem]<;>omega
   ·simp only[h,Zdd]<;>omega
 ·cases hi with
  |none=>simp[sliceBounds,HT.aJ]
  |some i=>
   simp only[sliceBounds,HT.aJ,Option.getD_none,show(1:Int)>0 by decide,Zem];by_cases h:i<0
   ·simp only[h,Zem]<;>omega
   ·simp only[h,Zdd]<;>omega
theorem Uq (ae:List Value)(lo hi:Option Int):slicePick ae.toArray lo hi none=((ae.drop (HT.aJ ae.length 0 lo)).take (HT.aJ ae.length ae.length hi-HT.aJ ae.length 0 lo)).toArray:=by obtain⟨h1,h2,h3⟩:=U8 lo hi ae.toArray.size;unfold slicePick;rw[h1,h2,h3];simp only[sliceRange_one,pick_run,Zas]<;>rfl
def Mg (K:ZgE):V->Option Int->Option Int->Hp->VK->Prop:=fun x lo hi H Q=> ∃a xs,x=.ref a/\ao K H a xs/\∀p,H p=none->Q (.ref p) (upd H p (.lst (dh xs lo hi)))
theorem Wr:qH X (Mg X.K):=by intro pins s σ H x v vl vu lo hi sl Q I rx hs pl pu h;obtain⟨a,xs,rfl,hx,q⟩:=h;cases rx;obtain⟨ae,r,ht,hz⟩:=I.list hx;have hlen:=r.length;refine⟨"list",_,slot_list_getitem.lookup,ht.isList.typeIs,?_⟩;refine wpAny_getItem_list_slice ht.isList hs pl pu .none (by simp) ?_ (by rw[Zas]<;>omega);rw[Uq,<-hlen];refine⟨.ref s.heap.objs.size,_,I.laid (t':=s.toks) (o:=.lst (dh xs lo hi)) (fun b ob q=>gc _ q) (Zaq _) ?_,rfl,q _ (I.ar.fresh (Zaq _))⟩;exact⟨ZaL (Wm xs lo hi) hz,_,0,(r.drop (HT.aJ xs.length 0 lo)).take (HT.aJ xs.length xs.length hi-HT.aJ xs.length 0 lo),Zau _ rfl⟩
def jA:V->Bool
 | .ag=>true
 | .bl _=>true
 | .int _=>true
 | .str _=>true
 |_=>false
def jC:V->V->Bool
 | .ag,.ag=>true
 | .bl a,.bl b=>a==b
 | .bl a,.int b=> (if a then 1 else 0)==b
 | .int a,.bl b=>a==(if b then 1 else 0)
 | .int a,.int b=>a==b
 | .str a,.str b=>a==b
 |_,_=>false
theorem RU {A:Around}{s:Shared}{y x:V}{u v:Value}(ry:RelV y u)(rx:RelV x v)(fy:jA y=true)(fx:jA x=true):SeqAt.EqAt A s u v (jC y x):=by
 cases y with
 |ag=>
  cases ry;cases x with
  |ag=>cases rx;exact SeqAt.EqAt.same _
  |bl b=>cases rx;exact SeqAt.EqAt.none_bool b
  |int b=>obtain⟨t,rfl⟩:=rx;exact SeqAt.EqAt.none_int b t
  |str b=>obtain⟨t,rfl⟩:=rx;exact SeqAt.EqAt.none_str b t
  |_=>exact absurd (show false=true from fx) Zaj
 |bl a=>
  cases ry;cases x with
  |ag=>cases rx;exact SeqAt.EqAt.bool_none a
  |bl b=>cases rx;exact SeqAt.EqAt.bool_bool a b
  |int b=>obtain⟨t,rfl⟩:=rx;exact SeqAt.EqAt.bool_int a b t
  |str b=>obtain⟨t,rfl⟩:=rx;exact SeqAt.EqAt.bool_str a b t
  |_=>exact absurd (show false=true from fx) Zaj
 |int a=>
  obtain⟨t',rfl⟩:=ry;cases x with
  |ag=>cases rx;exact SeqAt.EqAt.int_none a t'
  |bl b=>cases rx;exact SeqAt.EqAt.int_bool a t' b
  |int b=>obtain⟨t,rfl⟩:=rx;exact Zcw a t' b t
  |str b=>obtain⟨t,rfl⟩:=rx;exact SeqAt.EqAt.int_str a t' b t
  |_=>exact absurd (show false=true from fx) Zaj
 |str a=>
  obtain⟨t',rfl⟩:=ry;cases x with
  |ag=>cases rx;exact SeqAt.EqAt.str_none a t'
  |bl b=>cases rx;exact SeqAt.EqAt.str_bool a t' b
  |int b=>obtain⟨t,rfl⟩:=rx;exact SeqAt.EqAt.str_int a t' b t
  |str b=>obtain⟨t,rfl⟩:=rx;exact SeqAt.EqAt.str_str a t' b t
  |_=>exact absurd (show false=true from fx) Zaj
 |_=>exact absurd (show false=true from fy) Zaj
def gC (x:V)(u:Value):Bool:=match u with
 | .none=>jC .ag x
 | .bool b=>jC (.bl b) x
 | .int i _=>jC (.int i) x
 | .str z _=>jC (.str z) x
 |_=>false
theorem Gy {x y:V}{u:Value}(r:RelV y u)(f:jA y=true):gC x u=jC y x:=by
 cases y with
 |ag=>cases r;rfl
 |bl b=>cases r;rfl
 |int i=>obtain⟨t,rfl⟩:=r;rfl
 |str z=>obtain⟨t,rfl⟩:=r;rfl
 |_=>exact absurd (show false=true from f) Zaj
theorem JU {x:V} :∀{xs:List V}{us:List Value},Vals xs us->xs.all jA=true->us.any (gC x)=xs.any fun y=>jC y x
 |_,_,.nil,_=>rfl
 |y::xs,u::us,.cons r t,f=>by rw[List.all_cons,ZaJ]at f;rw[ZeJ,ZeJ,Gy r f.1,JU t f.2]
theorem Ja {A:Around}{s:Shared}{x:V}{v:Value}(rx:RelV x v)(fx:jA x=true):∀{xs:List V}{us:List Value},Vals xs us->xs.all jA=true->∀u∈us,SeqAt.EqAt A s u v (gC x u)
 |_,_,.nil,_=>fun u hu=>by cases hu
 |y::xs,u::us,.cons r t,f=>fun u' hu=>by
  rw[List.all_cons,ZaJ]at f;rcases Zaf.mp hu with rfl |hu
  ·rw[Gy r f.1];exact RU r rx f.1 fx
  ·exact Ja rx fx t f.2 u' hu
def aX (x:V)(xs:List V):Bool:=xs.any fun y=>jC y x
def rq (K:ZgE)(neg:Bool):R2:=fun x y H Q=> ∃p xs,y=.ref p/\(ao K H p xs∨aq K H p xs)/\jA x=true/\xs.all jA=true/\Q (.bl (if neg then !aX x xs else aX x xs)) H
theorem J5:aZ X (compareOp .In) (rq X.K false):=by
 intro pins s σ H x y v u Q I rx ry h;obtain⟨p,xs,rfl,hq,fx,fs,q⟩:=h;cases ry;rcases hq with hq |hq
 ·obtain⟨ae,r,pl,hz⟩:=I.list hq;refine SeqAt.in_listAt (gC x) pl.isList (fun w hw=>Ja rx fx r fs w (by simpa using hw)) ⟨.bl _,H,I,rfl,?_⟩;rw[show ae.toArray.any (gC x)=ae.any (gC x) by simp,JU r fs];exact q
 ·obtain⟨ae,r,pl,hz⟩:=I.tuple hq;refine SeqAt.in_tupleAt (gC x) pl (fun w hw=>Ja rx fx r fs w (by simpa using hw)) ⟨.bl _,H,I,rfl,?_⟩;rw[show ae.toArray.any (gC x)=ae.any (gC x) by simp,JU r fs];exact q
theorem Y4:aZ X (compareOp .NotIn) (rq X.K true):=by
 intro pins s σ H x y v u Q I rx ry h;obtain⟨p,xs,rfl,hq,fx,fs,q⟩:=h;cases ry;rcases hq with hq |hq
 ·obtain⟨ae,r,pl,hz⟩:=I.list hq;refine SeqAt.notIn_listAt (gC x) pl.isList (fun w hw=>Ja rx fx r fs w (by simpa using hw)) ⟨.bl _,H,I,rfl,?_⟩;rw[show ae.toArray.any (gC x)=ae.any (gC x) by simp,JU r fs];exact q
 ·obtain⟨ae,r,pl,hz⟩:=I.tuple hq;refine SeqAt.notIn_tupleAt (gC x) pl (fun w hw=>Ja rx fx r fs w (by simpa using hw)) ⟨.bl _,H,I,rfl,?_⟩;rw[show ae.toArray.any (gC x)=ae.any (gC x) by simp,JU r fs];exact q
theorem ZG:fY X (.builtin "len") (fun xs H Q=> ∃p ys,xs=[.ref p]/\(ao X.K H p ys∨aq X.K H p ys)/\Q (.int ys.length) H):=by
 intro pins s σ H xs us Q I r h;obtain⟨p,ys,rfl,hq,q⟩:=h;obtain⟨u,rfl,rx⟩:=ZfD r;cases rx;have hn:=rO;rcases hq with hq |hq
 ·obtain⟨ae,r',pl,hz⟩:=I.list hq;have hlen:=r'.length;exact Calls.call_len_list pl.isList (by simp only[Zas]<;>omega) ⟨.int ys.length,H,I.tok _,⟨s.toks+1,by rw[Zas,hlen]⟩,q⟩
 ·obtain⟨ae,r',pl,hz⟩:=I.tuple hq;have hlen:=r'.length;exact len_tuple pl (by simp only[Zas]<;>omega) ⟨.int ys.length,H,I.tok _,⟨s.toks+1,by rw[Zas,hlen]⟩,q⟩
theorem Ut:fY X (.type "tuple") (fun xs H Q=> ∃p ys,xs=[.ref p]/\((ao X.K H p ys/\∀l,H l=none->Q (.ref l) (upd H l (.tup ys)))∨(aq X.K H p ys/\Q (.ref p) H))):=by
 intro pins s σ H xs us Q I r h;obtain⟨p,ys,rfl,h⟩:=h;obtain⟨u,rfl,rx⟩:=ZfD r;cases rx;rcases h with ⟨hq,q⟩ |⟨hq,q⟩
 ·obtain⟨ae,r',pl,hz⟩:=I.list hq;have hlen:=r'.length;refine call_tuple_list pl.isList (fun h' kp=> ?_) (by simp only[Zas]<;>omega);have I1:Inv X pins σ H {s with heap:=h'} :=I.kept (t':=s.toks) kp;have I2:Inv X pins σ (upd H h'.objs.size (.tup ys)) {s with heap:=h'.push {cls:=.type "tuple",data:=.seq ae.toArray} } :=
   I1.laid (t':=s.toks) (fun b o e=>gc _ e) (Zaq _) (show bN X.prog X.w _ _ _ (.tup ys) from ⟨hz,ae,r',IsTup.new _ _,_,Zau _ rfl,rfl⟩)
  exact⟨.ref h'.objs.size,_,I2,rfl,q _ (I1.ar.fresh (Zaq _))⟩
 ·obtain⟨ae,r',pl,hz⟩:=I.tuple hq;exact call_tuple_same pl ⟨.ref p,H,I,rfl,q⟩
def xI (K:ZgE)(T:String)(x:V)(H:Hp):Prop:=match x with
 | .str _=>T= "str"
 | .int _=>T= "int"
 | .ref p=> (T= "list" /\∃xs,ao K H p xs)∨(T= "tuple" /\((∃o,K.lookup p=some o/\o.cls=.type "tuple" /\o.dict=none)∨∃xs,H p=some (.tup xs)))∨
   (T= "dict" /\((∃ai,H p=some (.dK ai))∨∃ai,H p=some (.dT ai)))∨(T= "set" /\∃S n,H p=some (.set S n))
 |_=>False
theorem GQ {pins:List (Addr×Obj)}{σ:St}{H:Hp}{s:Shared}{T:String}{x:V}{v:Value}(I:Inv X pins σ H s)(r:RelV x v)(ty:xI X.K T x H):
  s.TypeIs v T/\∀a,v=.ref a->∃ob,s.heap.get? a=some ob/\ob.dict=none:=by
 cases x with
 |str z=>obtain⟨t,rfl⟩:=r;cases (show T= "str" from ty);exact⟨Zgt s z t,fun _ e=>nomatch e⟩
 |int i=>obtain⟨t,rfl⟩:=r;cases (show T= "int" from ty);exact⟨ZfY s i t,fun _ e=>nomatch e⟩
 |ref p=>
  cases r;rcases ty with ⟨rfl,xs,hq⟩ |⟨rfl,⟨o,hk,hc,hd⟩ |⟨xs,hx⟩⟩ |⟨rfl,hk⟩ |⟨rfl,S,n,hk⟩
  ·obtain⟨ae,_,pl,_⟩:=I.list hq;refine⟨pl.isList.typeIs,fun a e=> ?_⟩;cases e;obtain⟨o,n,e,c,hd,_⟩:=pl;exact⟨o,e,hd⟩
  ·refine⟨⟨o,I.bA p o hk,hc⟩,fun a e=> ?_⟩;cases e;exact⟨o,I.bA _ o hk,hd⟩
  ·obtain⟨_,_,_,⟨o,e,c,_⟩,o2,e2,hd⟩:=(show bN X.prog X.w H s.heap p (.tup xs) from I.ar p _ hx);refine⟨⟨o,e,c⟩,fun a e3=> ?_⟩;cases e3;exact⟨o2,e2,hd⟩
  ·have z:∃o,s.heap.get? p=some o/\o.ExactDict:=by
    rcases hk with ⟨ai,hk⟩ |⟨ai,hk⟩
    ·obtain⟨_,_,_,_,o,_,_,e,ex,_⟩:=I.ar p _ hk;exact⟨o,e,ex⟩
    ·obtain⟨_,_,_,_,o,_,_,e,ex,_⟩:=I.ar p _ hk;exact⟨o,e,ex⟩
   obtain⟨o,e,ex⟩:=z;refine⟨⟨o,e,ex.1⟩,fun a e2=> ?_⟩;cases e2;exact⟨o,e,ex.2.1⟩
  ·obtain⟨o,_,_,_,e,ex,_⟩:=I.ar p _ hk;refine⟨⟨o,e,ex.1⟩,fun a e2=> ?_⟩;cases e2;exact⟨o,e,ex.2.1⟩
 |_=>exact False.elim ty
def Lh (K:ZgE)(T:String)(r:V->List V->Hp->VK->Prop)(to:TE):TE:=fun σ H Q=>to σ H fun x H1=>xI K T x H1/\r x [] H1 Q
def Li (K:ZgE)(T:String)(r:V->List V->Hp->VK->Prop)(to:TE)(t:TA):TE:=fun σ H Q=>to σ H fun x H1=>xI K T x H1/\t σ H1 fun xs H2=>r x xs H2 Q
variable {o e:Expr}{es:List Expr}{to:TE}{t:TA}{name:Str}{apos bB:Pos}{T id:String}{r:V->List V->Hp->VK->Prop}
theorem GX (pa:PlainAttrs T)(slot:Slot T name id)(AI:typeOf (.builtin id)=pure (.type "method_descriptor"))(hm:IF X id r)(ho:PE X o to)
  (lU:attributeBase o name X.env (eval o X.env)=eval o X.env:=by rfl) (A3:(apos.endLine==bB.line)=true:=by rfl):PE X (.Call (.Attribute o name apos) [] [] bB) (Lh X.K T r to):=by
 intro pins s σ H Q I h;refine wpAny_Call_method0_late lU A3 (au (ho pins s σ H _ I h) fun v s1 ⟨x,H1,I1,r1,ty,q1⟩=> ?_);obtain⟨h1,h2⟩:=GQ I1 r1 ty;exact⟨T,id,pa,slot,AI,h1,h2,Zdv rfl (PySem.evalArgs_none (hm pins s1 σ H1 x [] v [] Q I1 r1 .nil q1))⟩
theorem Y6 (pa:PlainAttrs T)(slot:Slot T name id)(AI:typeOf (.builtin id)=pure (.type "method_descriptor"))(hm:IF X id r)(ho:PE X o to)(ha:PA X (e::es) t)
    (lU:attributeBase o name X.env (eval o X.env)=eval o X.env:=by rfl)
    (Px:((backTo bB (starEach (e::es) X.env)).all (fun x=> !x.1)&&(backToKw bB (keywordEach [] X.env)).all (fun x=>x.1.isSome)
      &&decide ((e::es).length+([]:List Keyword).length+(if ([]:List Keyword).isEmpty then 0 else 1)<30))=true:=by rfl)
    (A3:(apos.endLine==bB.line)=true:=by rfl) (hs:starEach (e::es) X.env=(false,eval e X.env)::starEach es X.env:=by rfl) (AQ:(backTo bB (starEach es X.env)).any (·.1)=false:=by rfl):
    PE X (.Call (.Attribute o name apos) (e::es) [] bB) (Li X.K T r to t):=by
  intro pins s σ H Q I h;refine wpAny_Call_method_late lU Px A3 rfl (au (ho pins s σ H _ I h) fun v s1 ⟨x,H1,I1,r1,ty,q1⟩=> ?_);obtain⟨h1,h2⟩:=GQ I1 r1 ty;refine⟨T,id,pa,slot,AI,h1,h2,?_⟩;have hA:=ha bB pins s1 σ H1 _ I1 q1;rw[hs]at hA |-;refine Zdv (by show(false||(backTo bB (starEach es X.env)).any (·.1))=false;rw[AQ]<;>rfl) (ZdS ?_);exact au hA fun us s2 ⟨vs,H2,I2,r2,q2⟩=>hm pins s2 σ H2 x vs v us Q I2 r1 r2 q2
end
def uc (X:Cx)(id:String)(r:V->List V->Hp->VK->Prop):Prop:=
 ∀(pins:List (Addr×Obj)) (s:Shared) (σ:St) (H:Hp) (x:V) (xs:List V) (v:Value) (us:List Value) (Q:VK),Inv X pins σ H s->RelV x v->Vals xs us->r x xs H Q->
  wpAny (model X.prog X.w) X.A (call (.builtin id) (v::us)) (EP X pins σ Q) X.xe s
theorem Vals.one:∀{x:V}{us:List Value},Vals [x] us->∃u,us=[u]/\RelV x u
 |_,_,.cons r .nil=> ⟨_,rfl,r⟩
theorem Vals.zero:∀{us:List Value},Vals [] us->us=[]
 |_,.nil=>rfl
theorem Vals.dropLast {xs:List V}{us:List Value}(h:Vals xs us):Vals xs.dropLast us.dropLast:=by
 induction h with
 |nil=>exact .nil
 |cons r t ih=>
  cases t with
  |nil=>exact .nil
  |cons q t'=>exact .cons r ih
theorem Vals.rep {xs:List V}{us:List Value}(h:Vals xs us):∀k:Nat,Vals (List.replicate k xs).flatten (List.replicate k us).flatten
 |0=> .nil
 |k+1=>by rw[ZcT,ZcT,ZdN,ZdN];exact Vals.append h (Vals.rep h k)
theorem ZbZ {α:Type}(l:List α):l.eraseIdx (l.length-1)=l.dropLast:=by
 induction l with
 |nil=>rfl
 |cons a r ih=>
  cases r with
  |nil=>rfl
  |cons b r=>
   have e:(a::b::r).length-1=((b::r).length-1)+1:=by have h1:(a::b::r).length=r.length+2:=rfl;have h2:(b::r).length=r.length+1:=rfl;omega
   rw[e,List.eraseIdx_cons_succ,ih]
   all_goals rfl
theorem Wb (ae:List Value):∀(k:Nat) (acc:List Value),
  List.foldl (fun x1 x2=>x1++x2) acc.toArray (List.replicate k ae.toArray)=(acc++(List.replicate k ae).flatten).toArray
 |0,acc=>by simp
 |k+1,acc=>by
  have e:acc.toArray++ae.toArray=(acc++ae).toArray:=by simp
  have e2:(acc++ae)++(List.replicate k ae).flatten=acc++(List.replicate (k+1) ae).flatten:=by rw[ZcT,ZdN,Zb7]
  rw[<-e2,<-Wb ae k (acc++ae),<-e,ZcT,ZdJ]
section
variable {X:Cx}{pins:List (Addr×Obj)}{σ:St}{H:Hp}{s:Shared}{l b:Addr}{xs ys zs:List V}
theorem Inv.Am {ae its':List Value}{n:Nat}{f:Array Value->Array Value}{t':Nat}(I:Inv X pins σ H s)(hH:H l=some (.lst xs))
  (e:s.heap.get? l=some {cls:=.type "list",data:=.seq ae.toArray n}) (hf:f ae.toArray=its'.toArray) (hv:Vals ys its') (hz:ys.length<=sizeLine):
  Inv X pins σ (upd H l (.lst ys)) {s with heap:=s.heap.update l (Obj.mapSeq f),toks:=t'} :=by
 have q:=PySem.IsL.update e f;rw[hf]at q;refine I.write (x:=l) (e:=l) (by rw[hH];exact trivial) (.inl rfl) (fun b' u hb hu=> (Za1 s.heap (Obj.mapSeq f) (ZcL hb)).trans hu) ⟨_,q⟩ ?_;exact⟨hz,its',_,hv,q⟩
theorem Inv.Ei {ae:List Value}{t':Nat}(I:Inv X pins σ H s)(hv:Vals ys ae)(hz:ys.length<=sizeLine):
  Inv X pins σ (upd H s.heap.objs.size (.lst ys)) {s with heap:=s.heap.push {cls:=.type "list",data:=.seq ae.toArray},toks:=t'} :=
 I.laid (fun _ _ q=>gc _ q) (Zaq _) ⟨hz,ae,0,hv,Zau _ rfl⟩
theorem Inv.fresh (I:Inv X pins σ H s):H s.heap.objs.size=none:=I.ar.fresh (Zaq _)
theorem Inv.nG (I:Inv X pins σ H s)(hH:H l=some (.lst xs)):xs.length<=sizeLine/\∃(ae:List Value) (n:Nat),Vals xs ae/\xs.length=ae.length/\s.heap.get? l=some {cls:=.type "list",data:=.seq ae.toArray n} :=by obtain⟨z,ae,n,r,e⟩:=I.ar l _ hH;exact⟨z,ae,n,r,r.length,e⟩
theorem DU {n:Nat}(h:n<=sizeLine):Builtin.List.listTooLong n=false:=by unfold Builtin.List.listTooLong;exact Zav .o
end
section
variable {X:Cx}
def Ms:V->List V->Hp->VK->Prop:=fun x vs H Q=> ∃l xs y,x=.ref l/\vs=[y]/\H l=some (.lst xs)/\xs.length<sizeLine/\Q .ag (upd H l (.lst (xs++[y])))
theorem Jm:uc X "list.append" Ms:=by intro pins s σ H x vs v us Q I rx rv h;obtain⟨l,xs,y,rfl,rfl,hH,hz,q⟩:=h;cases rx;obtain⟨u,rfl,ru⟩:=rv.one;obtain⟨z,ae,n,r,hl,e⟩:=I.nG hH;refine Zdh F.slot_list_append ⟨_,e,rfl⟩ F.entry_list_append (F.args_list_append_2 _ _) (PySem.list_append l ae.toArray n u (by rw[Zas];omega)) ⟨e,?_⟩;refine⟨.ag,_,I.Am (its':=ae++[u]) hH e (by simp) (r.append (.cons ru .nil)) ?_,rfl,q⟩;rw[Zam,List.length_singleton];omega
def Mp:V->List V->Hp->VK->Prop:=fun x vs H Q=> ∃l b xs zs,x=.ref l/\vs=[.ref b]/\H l=some (.lst xs)/\H b=some (.lst zs)/\xs.length+zs.length<=sizeLine/\Q .ag (upd H l (.lst (xs++zs)))
theorem UM:uc X "list.extend" Mp:=by
 intro pins s σ H x vs v us Q I rx rv h;obtain⟨l,b,xs,zs,rfl,rfl,hH,hB,hz,q⟩:=h;cases rx;obtain⟨u,rfl,ru⟩:=rv.one;cases ru;obtain⟨z,ae,n,r,hl,e⟩:=I.nG hH;obtain⟨z2,jk,n2,r2,eB,e2⟩:=I.nG hB;have hsz:ae.toArray.size+jk.toArray.size<=sizeLine:=by rw[Zas,Zas];omega
 have A0:¬(!ae.toArray.isEmpty&&Builtin.List.listTooLong (ae.toArray.size+jk.toArray.size))=true:=by rw[DU hsz,Bool.and_false];exact Zaj
 refine Zdh F.slot_list_extend ⟨_,e,rfl⟩ F.entry_list_extend (F.args_list_extend_2 _ _)
  (AutoSeq1.list_extend_list_list_0 l ae.toArray n b jk.toArray n2 A0 (by rw[Zas];omega) .o) ⟨e,e2,?_⟩
 refine⟨.ag,_,I.Am (its':=ae++jk) hH e (by simp) (r.append r2) ?_,rfl,q⟩;rw[Zam];omega
def Mm:V->List V->Hp->VK->Prop:=fun x vs H Q=> ∃l xs y,x=.ref l/\vs=[]/\H l=some (.lst xs)/\xs[xs.length-1]? =some y/\Q y (upd H l (.lst xs.dropLast))
theorem G5:uc X "list.pop" Mm:=by
 intro pins s σ H x vs v us Q I rx rv h;obtain⟨l,xs,y,rfl,rfl,hH,hy,q⟩:=h;cases rx;have Oq:=rv.zero;subst Oq;obtain⟨z,ae,n,r,hl,e⟩:=I.nG hH;obtain⟨u,hu,ru⟩:=r.get hy;have ig:ae.toArray[ae.toArray.size-1]? =some u:=by show ae.toArray[ae.length-1]? =some u;rw[<-ZdI,<-hl];exact hu
 refine Zdh F.slot_list_pop ⟨_,e,rfl⟩ F.entry_list_pop (F.args_list_pop_1 _) (MeetsSeq.list_pop_last l ae.toArray n u ig (by rw[Zas];omega)) ⟨e,?_⟩;refine⟨y,_,I.Am (its':=ae.dropLast) hH e ?_ r.dropLast ?_,ru,q⟩
 ·show ae.toArray.eraseIdxIfInBounds (ae.toArray.size-1)=ae.dropLast.toArray;rw[Zas,List.eraseIdxIfInBounds_toArray,ZbZ]
 ·rw[List.length_dropLast];omega
def vw:R2:=fun x y H Q=> ∃l b xs zs,x=.ref l/\y=.ref b/\H l=some (.lst xs)/\H b=some (.lst zs)/\xs.length+zs.length<=sizeLine/\∀p,H p=none->Q (.ref p) (upd H p (.lst (xs++zs)))
theorem YE:aZ X (binaryOp .Add) vw:=by
 intro pins s σ H x y v u Q I rx ry h;obtain⟨l,b,xs,zs,rfl,rfl,hH,hB,hz,q⟩:=h;cases rx;cases ry;obtain⟨z,ae,n,r,hl,e⟩:=I.nG hH;obtain⟨z2,jk,n2,r2,eB,e2⟩:=I.nG hB;refine PySem.P.add_list e e2 ?_ (by rw[Zas,Zas];omega);have ea:ae.toArray++jk.toArray=(ae++jk).toArray:=by simp
 rw[ea];exact⟨.ref _,_,I.Ei (t':=s.toks) (r.append r2) (by rw[Zam];omega),rfl,q _ I.fresh⟩
def Ml:R2:=fun x y H Q=> ∃l k xs,x=.ref l/\y=.int k/\H l=some (.lst xs)/\ -(2^63)<=k/\k<2^63/\xs.length*k.toNat<=sizeLine/\
 ∀p,H p=none->Q (.ref p) (upd H p (.lst (List.replicate k.toNat xs).flatten))
theorem Cm {α:Type}(xs:List α)(k:Nat):(List.replicate k xs).flatten.length=k*xs.length:=by
 induction k with
 |zero=>simp
 |succ k ih=>rw[ZcT,ZdN,Zam,ih,Nat.succ_mul,Nat.add_comm]
theorem Tv:aZ X (binaryOp .Mult) Ml:=by
  intro pins s σ H x y v u Q I rx ry h;obtain⟨l,k,xs,rfl,rfl,hH,h1,h2,hz,q⟩:=h;cases rx;obtain⟨t,rfl⟩:=ry;obtain⟨z,ae,n,r,hl,e⟩:=I.nG hH;have hlen:ae.toArray.size*k.toNat<=sizeLine:=by rw[Zas,<-hl];exact hz
  have PV:¬ae.toArray.size*k.toNat> (2^63-1)/8:=by have:(sizeLine:Nat)<=(2^63-1)/8:=.d;omega
  have Pu:¬(!Builtin.List.listFitsIndex k)=true:=by rw[fitsIndex_both h1 h2];exact Zaj
  have A0:¬Builtin.List.listTooLong (ae.toArray.size*k.toNat)=true:=by rw[DU hlen];exact Zaj
  have OX:List.foldl (fun x1 x2=>x1++x2) #[] (List.replicate (if ae.toArray.isEmpty=true then 0 else k.toNat) ae.toArray)=(List.replicate k.toNat ae).flatten.toArray:=by
    have f0:∀m:Nat,List.foldl (fun x1 x2=>x1++x2) #[] (List.replicate m ae.toArray)=(List.replicate m ae).flatten.toArray:=fun m=>by have:=Wb ae m [];rw[ZeQ]at this;exact this
    rw[f0];cases ae with
    |nil=>simp
    |cons a r'=>rw[ZaD (by simp)]
  refine Ze5 (T:= "list") (U:= "int") .d ⟨_,e,rfl⟩ (fun s'=>ZfY s' k t) noFill_list_mul F.fills_int_mul F.slot_int_rmul repeat_list F.slot_int_index.lookup
    (Zdh F.slot_int_rmul (ZfY s k t) F.entry_int_rmul (F.args_int_rmul_2 _ _) (int___rmul___int_list k t l ae.toArray n)
      ⟨e,rfl,⟨_,e,rfl⟩,Zdh F.slot_list_mul ⟨_,e,rfl⟩ F.entry_list_mul (F.args_list_mul_2 _ _) (AutoListH.list___mul___list_int_3 l ae.toArray n k t Pu PV A0) ⟨e,?_⟩⟩)
  rw[OX];exact⟨.ref _,_,I.Ei (t':=s.toks) (r.rep k.toNat) (by rw[Cm,ZfN];exact hz),rfl,q _ I.fresh⟩
end
end L2
namespace Kf
open PySem PySem.W PySem.Calls PyProof.Rows
theorem Wp {P:Params}{h:Heap} :∀(ns:List Int) (vs:List Value),WellAll P h vs (ns.map WData.int)->IntsAre vs ns:=by
 intro ns
 induction ns with
 |nil=>intro vs w;rw[Zdm]at w;cases w;exact .nil
 |cons n ns ih=>
  intro vs w;rw[ZaQ]at w;cases w with
  |cons a b=>cases a;exact .cons _ _ (ih _ b)
theorem XS {l:OpenLaw}{n:Nat}(hn:l.most=some n){P:Params}{h:Heap}{args:List WData}{vals:List Value}
  (vY:l.row.toRowW.claim.pre args=true) (AF:WellAll P h vals args):
  ∃a vs ns,vals=[Value.ref a]/\args=[WData.list (ns.map WData.int)]/\h.get? a=some {cls:=.type "list",data:=.seq vs.toArray}/\IntsAre vs ns/\ns.length<=n:=by
 have OD:WShape.hasAll [] args [.list .int]=true:=(pre_splitW vY).1;have hc:l.pre.holds [] {args:=args} =true:=(pre_splitW vY).2;obtain⟨d,r,rfl,h1,h2⟩:=hasAllW_cons OD;obtain rfl:=hasAllW_nil h2;obtain⟨xs,rfl,h3⟩:=hasW_list h1;obtain⟨ns,rfl⟩:=items_int h3;have hlen:ns.length<=n:=by
  unfold OpenLaw.pre at hc;have h4:(WTm.not (.lt (.lit (.int (n:Int))) (.len (.arg 0)))).holds [] {args:=[.list (ns.map .int)]} =true:=by have h4:=(holds_andW hc).1;rw[hn]at h4;exact h4
  have h5:=condW_of h4 (w_not (w_lt w_lit (w_len_list (w_arg rfl))));rw[Zae]at h5;refine Nat.le_of_not_lt fun q=> ?_;have q':(n:Int)< ((ns.length:Nat):Int):=.o
  first
   |(rw[ZaA q']at h5;exact absurd h5 .d)
   |(simp at h5;omega)
 cases AF with
 |cons w1 w2=>
  cases w2;cases w1 with
  |list ho jy=>exact⟨_,_,ns,rfl,rfl,ho,Wp ns _ jy,hlen⟩
theorem XR (l:OpenLaw)(args:List WData):l.row.toRowW.claim.post args (.bool true) args=true:=
 postW_of (r:=l.row.toRowW) (X:=(true==true))
  (show WShape.has [] (.bool true) .bool=true by first |rfl |decide |simp[WShape.has,WShape.arms,WShape.armsAll])
  (show(WTm.eq .res (.lit (.bool true))).value [] {args:=args,res:=some (.bool true),after:=args} =some (.bool (true==true)) from w_eq_bool (w_res rfl) w_lit) rfl
theorem RC {l:OpenLaw}{n:Nat}{q:Program}{loose:List Str}{XP:(Str->Option Value)->Heap->Prop}{YP:World->Heap->Prop}{d:DefRec}
    (hn:l.most=some n) (Bf:d.params.defaults=[])
    (call:∀(w:World) (bY aG:Shared) (mg mb:Str->Option Value) (fa:Addr) (o:Obj) (pm cd doc:Value) (a:Addr) (vs:List Value) (ns:List Int),
      Ground q loose [] XP w bY mg mb aG.heap->YP w aG.heap->
      aG.heap.get? fa=some o->o.data=.func (docDef d.name d.params d.body d.scope pm cd doc)->aG.heap.CodeRec cd d.name->mg d.name=some (.ref fa)->
      aG.heap.get? a=some {cls:=.type "list",data:=.seq vs.toArray}->IntsAre vs ns->ns.length<=n->aG.gens= #[]->
      codeAny (model l.prog w) callerA (.call (.ref fa) ⟨[.ref a],[]⟩) (fun r s'=>r=.ok (.ret (.bool true))/\OldK aG.heap s'.heap/\s'.os=aG.os/\AllBare s'.gens) aG):
    WalkO q loose XP YP l.row.toRowW d [] (fun f vs=>PySem.call f vs):=by
  intro w bY aG mg mb G Y fa o pm cd doc dV kV ho hd cV hD hmg hg args vals as vY aat hrd AF A1;obtain rfl:dV=.none:=Dflts.none hD Bf;obtain rfl:kV=.none:=Dflts.noKw hD;obtain⟨a,vs,ns,rfl,rfl,AS,hints,hlen⟩:=XS hn vY AF;refine enter_call (Zcy (call w bY aG mg mb fa o pm cd doc a vs ns G Y ho (fd_plain hd) cV hmg AS hints hlen hg) fun r s' hq=> ?_);obtain⟨rfl,h2,h3,h4⟩:=hq;exact⟨.inl ⟨.bool true,.bool true,[],rfl,fun _=>rfl,.bool true,XR l _,fun _=> ⟨List.Pairwise.nil,fun _ hm=> (nomatch hm)⟩⟩,h2,h3,h4⟩
end Kf
namespace L2
open PySem PySem.Spec PyProof.Rows
theorem Uz:∀{vs:List Value}{ns:List Int},IntsAre vs ns->Vals (ns.map V.int) vs
 |_,_,.nil=> .nil
 |_,_,.cons n t h=> .cons ⟨t,rfl⟩ (Uz h)
def inClass (s:Stmt)(j:Nat):Stmt:=match s with
 | .ClassDef _ _ _ body _ _ _ _ _ _ _=>body.getD j (.Pass ⟨0,0,0,0⟩)
 |_=> .Pass ⟨0,0,0,0⟩
def dC (s:Stmt):Arguments:=match s with
 | .FunctionDef _ a _ _ _ _ _ _ _ _=>a
 |_=> {posonlyargs:=[],args:=[],vararg:=none,kwonlyargs:=[],kw_defaults:=[],kwarg:=none,defaults:=[]}
def cE (s:Stmt):List Stmt:=match s with
 | .FunctionDef _ _ b _ _ _ _ _ _ _=>b
 |_=> []
def ay (s:Stmt):Scope:=match s with
 | .FunctionDef _ _ _ _ _ _ sc _ _ _=>sc
 |_=> {kind:=.function,names:=[],isGenerator:=false,isCoroutine:=false}
abbrev aF:fZ:=fun _ _ _ _ _ _ _=>False
abbrev E0:XK:=fun _ _ _=>False
theorem rC {X:Cx} :Passes aF X E0:=fun _ _ _ _ _ _ _ h=>h.elim
structure aE (K:ZgE)(x qual:Str)(st:Stmt)(f:Addr)(fd:FuncData):Prop where
 ex:∃(oc:Value) (od:Option Addr) (kV doc pm:Value) (an:Option Addr) (cdv ct:Value) (dZ:Array (Option Value)),
  fd=PySem.W.fnOf x qual (dC st) (cE st) (ay st) .none kV doc pm an cdv ct/\K.lookup f=some ⟨oc,od,.func fd,dZ⟩/\PySem.W.codeIn K cdv qual=true
 kp:PySem.W.keepIn K (.ref f)=true
section
variable {P:Program}{w:World}{K:ZgE}{mg:Str->Option Value}{base:Heap}
theorem aE.ok {x qual:Str}{st:Stmt}{f:Addr}{fd:FuncData}{N ps:List Str}{k:Nat}{sp:Sp}(F:aE K x qual st f fd)(S:aH N ps (ay st))(len:∀vs H Q E,sp vs H Q E->vs.length=ps.length)
    (Bk:∀(cdv:Value) (A:Around) (outer:List Env) (s:Shared) (H:Hp) (vs:List V) (Q:VK) (E:XK),bf k (A.deeper (envOfC qual (ay st) s.heap.objs.size f cdv))->sp vs H Q E->
      ∃t,dG (ck aF P w K mg base N qual (ay st) f cdv A outer s H E).hU (cE st) t/\t {nx:=fun _ H'=>Q .ag H',rt:=Q} (start N vs) H):aw P w K mg base aF (k+1) f fd ps sp:=by
  obtain⟨oc,od,kV,doc,pm,an,cdv,ct,dZ,rfl,lk,cV⟩:=F.ex;refine BX lk cV S len fun A outer s H vs Q E hr dc=> ?_;obtain⟨t,h,q⟩:=Bk cdv A outer s H vs Q E hr dc;exact⟨t,h.hU,q⟩
theorem aE.binds {x qual:Str}{st:Stmt}{f:Addr}{fd:FuncData}{ps:List Str}(F:aE K x qual st f fd)
  (h:∀(kV doc pm:Value) (an:Option Addr) (cdv ct:Value) (us:List Value),us.length=ps.length->bindArgs (PySem.W.fnOf x qual (dC st) (cE st) (ay st) .none kV doc pm an cdv ct) ⟨us,[]⟩=pure (ps.zip us)):Binds K fd ps []:=by
 obtain⟨oc,od,kV,doc,pm,an,cdv,ct,dZ,rfl,lk,cV⟩:=F.ex;exact .all (h kV doc pm an cdv ct)
theorem Ua {x qual:Str}{st:Stmt}{f:Addr}{oc:Value}{od an:Option Addr}{dZ:Array (Option Value)}{kV doc pm cdv ct:Value}(l:K.lookup f=some ⟨oc,od,.func (PySem.W.fnOf x qual (dC st) (cE st) (ay st) .none kV doc pm an cdv ct),dZ⟩)
  (c:PySem.W.codeIn K cdv qual=true) (k:PySem.W.keepIn K (.ref f)=true):aE K x qual st f (PySem.W.fnOf x qual (dC st) (cE st) (ay st) .none kV doc pm an cdv ct):=⟨⟨oc,od,kV,doc,pm,an,cdv,ct,dZ,rfl,l,c⟩,k⟩
end
theorem W8 {A:Around}{k:Nat}(hr:bf k A):A.units+1<cLine:=ZdB (ZdX (by decide:1<=64) _) hr.units
section
variable {X:Cx}
theorem pv (i:Nat){x:Str}{pos:Pos}(hN:X.N[i]? =some x:=by rfl)(hv:oH X.env.scope x:=by first |exact Or.inl rfl |exact Or.inr (Or.inl rfl) |exact Or.inr (Or.inr rfl))(hd:(x==("__debug__" :Str))=false:=by decide)
  (cV:(x==("__classdict__" :Str))=false:=by decide):PE X (.Name x pos) (gf i):=J3 hN hv hd cV
end
theorem az {A B:Prop}(h:B):if false=true then A else B:=by rw[ZaD Zaj];exact h
theorem aB {A B:Prop}(h:A):if true=true then A else B:=by rw[ZaG rfl];exact h
def ak (H H':Hp):Prop:=∀b o,H b=some o->H' b=some o
theorem ak.refl (H:Hp):ak H H:=fun _ _ h=>h
theorem ak.trans {H H1 H2:Hp}(a:ak H H1)(b:ak H1 H2):ak H H2:=fun c o h=>b c o (a c o h)
theorem ak.free {H H':Hp}(e:ak H H'){l:Addr}(h:H' l=Option.none):H l=Option.none:=by
 cases q:H l with
 |none=>rfl
 |some o=>rw[e l o q]at h;cases h
section
variable {κ:Type} [DecidableEq κ]
def bD (ai:List (κ×V))(k:κ):Option V:=(ai.find? fun kv=>decide (kv.1=k)).map (·.2)
def putK (ai:List (κ×V))(k:κ)(v:V):List (κ×V):=
 if (ai.any fun kv=>decide (kv.1=k))=true then ai.map (fun kv=>if kv.1=k then (kv.1,v) else kv) else ai++[(k,v)]
theorem Z4 {p:κ×V}{r:List (κ×V)}{k:κ}(e:p.1=k):bD (p::r) k=some p.2:=by simp[bD,ZdK,e]
theorem Z5 {p:κ×V}{r:List (κ×V)}{k:κ}(e:¬p.1=k):bD (p::r) k=bD r k:=by simp[bD,ZdK,e]
theorem YB (k:κ):∀ai:List (κ×V),(ai.any fun kv=>decide (kv.1=k))=(bD ai k).isSome
 | []=>rfl
 |p::r=>by
  rw[ZeJ];by_cases e:p.1=k
  ·simp only[Z4 e,ZaA e,Bool.true_or,Option.isSome_some]
  ·rw[Z5 e,Zav e,Bool.false_or];exact YB k r
theorem Il (k j:κ)(y:V):∀ai:List (κ×V),bD (ai.map fun kv=>if kv.1=k then (kv.1,y) else kv) j=(bD ai j).map fun x=>if j=k then y else x
 | []=>rfl
 |p::r=>by
  have ih:=Il k j y r;rw[ZaQ];by_cases h:p.1=k
  ·rw[ZaG h];by_cases e:p.1=j
   ·rw[Z4 (p:=(p.1,y)) e,Z4 e,ZdL,ZaG (e.symm.trans h)]
   ·rw[Z5 (p:=(p.1,y)) e,Z5 e,ih]
  ·rw[ZaD h];by_cases e:p.1=j
   ·rw[Z4 (p:=p) e,Z4 e,ZdL,ZaD (fun z=>h (e.trans z))]
   ·rw[Z5 (p:=p) e,Z5 e,ih]
theorem UA (k j:κ)(y:V):∀ai:List (κ×V),bD ai k=none->bD (ai++[(k,y)]) j=if j=k then some y else bD ai j
 | [],_=>by
  by_cases e:k=j
  ·rw[ZaG e.symm];exact Z4 (p:=(k,y)) e
  ·rw[ZaD (fun z=>e z.symm)];exact Z5 (p:=(k,y)) e
 |p::r,hn=>by
  rw[ZdU];have hk:¬p.1=k:=fun z=>by rw[Z4 z]at hn;cases hn
  rw[Z5 hk]at hn;have ih:=UA k j y r hn;by_cases e:p.1=j
  ·rw[Z4 e,Z4 e,ZaD (fun z=>hk (e.trans z))]
  ·rw[Z5 e,Z5 e,ih]
theorem V4 (ai:List (κ×V))(k j:κ)(y:V):bD (putK ai k y) j=if j=k then some y else bD ai j:=by
 unfold putK;by_cases a:(ai.any fun kv=>decide (kv.1=k))=true
 ·rw[ZaG a,Il];rw[YB]at a;by_cases e:j=k
  ·obtain⟨x,hx⟩:=ZcH.mp a;rw[ZaG e,e,hx,ZdL,ZaG rfl]
  ·rw[ZaD e];cases bD ai j with
   |none=>rfl
   |some x=>rw[ZdL,ZaD e]
 ·rw[ZaD a];refine UA k j y ai ?_;rw[YB]at a;cases q:bD ai k with
  |none=>rfl
  |some x=>rw[q]at a;exact(a rfl).elim
theorem Jc (ai:List (κ×V))(k:κ)(v:V):(putK ai k v).length<=ai.length+1:=by
 unfold putK;split
 ·rw[Zae];omega
 ·rw[Zam,ZaE,Zd5];omega
theorem Xt {ai:List (κ×V)}{k:κ}(v:V)(h:bD ai k=none):putK ai k v=ai++[(k,v)]:=by unfold putK;rw[YB,h];exact ZaD .d
theorem fm.vQ {o:Option V}{u:Option Value}(r:fm o u):o.isSome=u.isSome:=by
 cases o with
 |none=>cases u with
  |none=>rfl
  |some _=>exact(show False from r).elim
 |some _=>cases u with
  |none=>exact(show False from r).elim
  |some _=>rfl
theorem fm.getD {o:Option V}{u:Option Value}{d:V}{d':Value}(r:fm o u)(rd:RelV d d'):RelV (o.getD d) (u.getD d'):=by
 cases o with
 |none=>cases u with
  |none=>exact rd
  |some _=>exact(show False from r).elim
 |some _=>cases u with
  |none=>exact(show False from r).elim
  |some _=>exact r
theorem KV.val {ai:List (κ×V)}{vs:List (κ×Value)}(r:KV ai vs)(k:κ):fm (bD ai k) (valueAt vs k):=by
 unfold KV at r
 induction r with
 |nil=>exact True.intro
 | @cons p q ps qs h t ih=>
  obtain⟨h1,h2⟩:=h;by_cases e:p.1=k
  ·have e':q.1=k:=h1.symm.trans e;have b:valueAt (q::qs) k=some q.2:=by simp[valueAt,ZdK,e']
   rw[Z4 e,b];exact h2
  ·have e':¬q.1=k:=fun z=>e (h1.trans z);have b:valueAt (q::qs) k=valueAt qs k:=by simp[valueAt,ZdK,e']
   rw[Z5 e,b];exact ih
theorem KV.any {ai:List (κ×V)}{vs:List (κ×Value)}(r:KV ai vs)(k:κ):(ai.any fun kv=>decide (kv.1=k))=vs.any fun kv=>decide (kv.1=k):=by
 unfold KV at r
 induction r with
 |nil=>rfl
 |cons h t ih=>rw[ZeJ,ZeJ,ih,h.1]
theorem KV.zX {ai:List (κ×V)}{vs:List (κ×Value)}(r:KV ai vs)(k:κ){y:V}{u:Value}(ry:RelV y u):
  KV (ai.map fun kv=>if kv.1=k then (kv.1,y) else kv) (vs.map fun kv=>if kv.1=k then (kv.1,u) else kv):=by
 unfold KV at r |-
 induction r with
 |nil=>exact .nil
 | @cons p q ps qs h t ih=>
  rw[ZaQ,ZaQ];refine .cons ?_ ih;obtain⟨h1,h2⟩:=h;by_cases e:p.1=k
  ·rw[ZaG e,ZaG (h1.symm.trans e)];exact⟨h1,ry⟩
  ·rw[ZaD e,ZaD (fun z=>e (h1.trans z))];exact⟨h1,h2⟩
theorem KV.put {ai:List (κ×V)}{vs:List (κ×Value)}(r:KV ai vs)(k:κ){y:V}{u:Value}(ry:RelV y u):KV (putK ai k y) (stored vs k u):=by
 unfold putK stored;rw[r.any k];by_cases e:(vs.any fun kv=>decide (kv.1=k))=true
 ·rw[ZaG e,ZaG e];exact r.zX k ry
 ·rw[ZaD e,ZaD e];exact Zdc r ⟨rfl,ry⟩
theorem KV.length {ai:List (κ×V)}{vs:List (κ×Value)}(r:KV ai vs):ai.length=vs.length:=Za6 r
end
theorem Wj {P:Program}{w:World}{k:Key}{u:Value}(r:RelV (kV k) u):(dN P w).is k u=true:=by
 cases k with
 |inl i=>obtain⟨t,e⟩:=(show ∃t,u=Value.int i t from r);subst e;exact ZaO P w i t
 |inr x=>obtain⟨t,e⟩:=(show ∃t,u=Value.str x t from r);subst e;exact ZaN P w x t
theorem UP {P:Program}{w:World} :∀{ks:List Key}{us:List Value},Vals (ks.map kV) us->ItemsAre (dN P w) ks us
 | [],_,r=>by rw[Zdm]at r;cases r;exact .nil
 |k::ks,_,r=>by
  rw[ZaQ]at r;cases r with
  |cons h t=>exact .cons (Wj h) (UP t)
abbrev KT (H:Hp):List (List Key×V)->List (List Key×Addr×Value)->Prop:=Paired fun p q=>p.1=q.1/\H q.2.1=some (.tup (p.1.map kV))/\RelV p.2 q.2.2
theorem KT.val {H:Hp}{ai:List (List Key×V)}{xs:List (List Key×Addr×Value)}(r:KT H ai xs)(k:List Key):fm (bD ai k) ((atKey xs k).map (·.2)):=by
 induction r with
 |nil=>exact True.intro
 | @cons p q ps qs h t ih=>
  obtain⟨h1,_,h2⟩:=h;by_cases e:p.1=k
  ·have e':q.1=k:=h1.symm.trans e;have b:atKey (q::qs) k=some q.2:=by simp[atKey,ZdK,e']
   rw[Z4 e,b];exact h2
  ·have e':¬q.1=k:=fun z=>e (h1.trans z);have b:atKey (q::qs) k=atKey qs k:=by simp[atKey,ZdK,e']
   rw[Z5 e,b];exact ih
theorem KT.zX {H:Hp}{ai:List (List Key×V)}{xs:List (List Key×Addr×Value)}(r:KT H ai xs)(k:List Key){y:V}{u:Value}(ry:RelV y u):
  KT H (ai.map fun kv=>if kv.1=k then (kv.1,y) else kv) (xs.map (putAt k u)):=by
 induction r with
 |nil=>exact .nil
 | @cons p q ps qs h t ih=>
  rw[ZaQ,ZaQ];refine .cons ?_ ih;obtain⟨h1,h2,h3⟩:=h;unfold putAt;by_cases e:p.1=k
  ·rw[ZaG e,ZaG (h1.symm.trans e)];exact⟨h1,h2,ry⟩
  ·rw[ZaD e,ZaD (fun z=>e (h1.trans z))];exact⟨h1,h2,h3⟩
theorem KT.put {H:Hp}{ai:List (List Key×V)}{xs:List (List Key×Addr×Value)}(r:KT H ai xs)(k:List Key){b:Addr}{y:V}{u:Value}(hb:H b=some (.tup (k.map kV)))(ry:RelV y u):
  KT H (putK ai k y) (storedH xs k b u):=by
 have e:(ai.any fun kv=>decide (kv.1=k))=(atKey xs k).isSome:=by rw[YB,(r.val k).vQ,Option.isSome_map]
 unfold putK storedH;rw[e];by_cases q:(atKey xs k).isSome=true
 ·rw[ZaG q,ZaG q];exact r.zX k ry
 ·rw[ZaD q,ZaD q];exact Zdc r ⟨rfl,hb,ry⟩
theorem KT.keeps {H H':Hp}{ai:List (List Key×V)}{xs:List (List Key×Addr×Value)}(r:KT H ai xs)(ht:∀b ys,H b=some (.tup ys)->H' b=some (.tup ys)):KT H' ai xs:=
 Paired.bj r fun _ _ z=> ⟨z.1,ht _ _ z.2.1,z.2.2⟩
section
variable {P:Program}{w:World}{H:Hp}{h:Heap}{a:Addr}
theorem Gu {u:HO}(ok:bC P w H h)(e:Rd H a u):bN P w H h a u:=e.ok ok
theorem w9 {ai:List (Key×V)}(ok:bC P w H h)(e:Rd H a (.dK ai)):ai.length<=sizeLine/\(a==sysModules)=false/\∃vs,KV ai vs/\h.DictOf (dN P w) a vs:=
 show bN P w H h a (.dK ai) from Gu ok e
theorem SO {ai:List (Key×V)}(ok:bC P w H h)(e:H a=some (.dK ai)):ai.length<=sizeLine/\(a==sysModules)=false/\∃vs,KV ai vs/\h.DictOf (dN P w) a vs:=w9 ok (.inl e)
theorem xf {ks:List Key}(ok:bC P w H h)(e:H a=some (.tup (ks.map kV))):(tupleKind (dN P w)).is h ks a:=by obtain⟨_,ae,r,⟨o,h1,h2,n,h3⟩,_⟩:=(show bN P w H h a (.tup (ks.map kV)) from ok a _ e);exact⟨o,ae.toArray,n,h1,h2,h3,by simpa using UP r⟩
theorem xa {ai:List (List Key×V)}(ok:bC P w H h)(e:Rd H a (.dT ai)):ai.length<=sizeLine/\(a==sysModules)=false/\
  ∃xs,KT H ai xs/\h.DictOfH (tupleKind (dN P w)) a xs:=by
 obtain⟨z,y,xs,r,o,es,ep,h1,h2,h3,h4,h5⟩:=(show bN P w H h a (.dT ai) from Gu ok e);refine⟨z,y,xs,r,o,es,ep,h1,h2,h3,h4,fun x hx=> ?_,h5⟩;have all:∀{l:List (List Key×V)}{m:List (List Key×Addr×Value)},KT H l m->∀x∈m,(tupleKind (dN P w)).is h x.1 x.2.1:=by
  intro l m q
  induction q with
  |nil=>intro x hx;exact nomatch hx
  | @cons p q ps qs hq t ih=>
   intro x hx;rcases Zaf.mp hx with e |hx
   ·subst e;exact xf ok (by rw[<-hq.1];exact hq.2.1)
   ·exact ih x hx
 exact all r x hx
theorem SQ {ai:List (List Key×V)}(ok:bC P w H h)(e:H a=some (.dT ai)):ai.length<=sizeLine/\(a==sysModules)=false/\
  ∃xs,KT H ai xs/\h.DictOfH (tupleKind (dN P w)) a xs:=xa ok (.inl e)
end
def ka (H:Hp)(a:Addr)(y:V)(r:Option V):Prop:=
 (∃ai k,Rd H a (.dK ai)/\y=kV k/\r=bD ai k)∨∃ai k b,Rd H a (.dT ai)/\y=.ref b/\H b=some (.tup (k.map kV))/\r=bD ai k
def ur (H:Hp)(a:Addr)(y v:V)(H':Hp):Prop:=
 (∃ai k,H a=some (.dK ai)/\y=kV k/\ai.length<sizeLine/\H'=upd H a (.dK (putK ai k v)))∨
 ∃ai k b,H a=some (.dT ai)/\y=.ref b/\H b=some (.tup (k.map kV))/\ai.length<sizeLine/\H'=upd H a (.dT (putK ai k v))
theorem ka.k {H:Hp}{a:Addr}{ai:List (Key×V)}{k:Key}(e:H a=some (.dK ai)):ka H a (kV k) (bD ai k):=.inl ⟨ai,k,.inl e,rfl,rfl⟩
theorem ka.t {H:Hp}{a b:Addr}{ai:List (List Key×V)}{k:List Key}(e:H a=some (.dT ai))(eb:H b=some (.tup (k.map kV))):ka H a (.ref b) (bD ai k):=.inr ⟨ai,k,b,.inl e,rfl,eb,rfl⟩
theorem ur.t {H:Hp}{a b:Addr}{ai:List (List Key×V)}{k:List Key}{v:V}(e:H a=some (.dT ai))(eb:H b=some (.tup (k.map kV)))(hl:ai.length<sizeLine):
  ur H a (.ref b) v (upd H a (.dT (putK ai k v))):=.inr ⟨ai,k,b,e,rfl,eb,hl,rfl⟩
section
variable {X:Cx}{pins:List (Addr×Obj)}{σ:St}{H:Hp}{s:Shared}{a:Addr}{y v:V}{u r:Value}{o:Option V}{A:Around}{E:Value->Shared->Prop}
theorem Inv.big (I:Inv X pins σ H s):sysModules<s.heap.objs.size:=by have h:mainGlobals<s.heap.objs.size:=(I.mod.glob.keeps I.bk).lt;exact Nat.lt_trans .d h
theorem QV {Q:Value->Shared->Prop}(hu:A.units+1<cLine)(I:Inv X pins σ H s)(g:ka H a y o)(ry:RelV y u)(h:∀s',Inv X pins σ H s'->Q (.bool o.isSome) s'):
  wpAny (model X.prog X.w) A (compareOp .In u (.ref a)) Q E s:=by
 rcases g with ⟨ai,k,e,ey,l⟩ |⟨ai,k,b,e,ey,eb,l⟩
 ·subst ey;obtain⟨z,hd,vs,rel,dd⟩:=w9 I.ar e;refine wpAny_in_of (Wj ry) hd dd.mapOf ?_;rw[<-(rel.val k).vQ,<-l];exact h _ (I.tok _)
 ·subst ey;cases (show u=Value.ref b from ry);obtain⟨z,hd,xs,rel,dd⟩:=xa I.ar e;refine wpAny_in_heap (Ze1 hu) (xf I.ar eb) hd dd ?_;have q:=(rel.val k).vQ;rw[Option.isSome_map]at q;rw[<-q,<-l];exact h _ (I.tok _)
theorem G8 {h':Heap}{t':Nat}{ob:HO}(I:Inv X pins σ H s)(mu:ub (H a))(hs:Heap.SameBut a s.heap h')(he:∃q,h'.get? a=some q)(new:bN X.prog X.w (upd H a ob) h' a ob):
  Inv X pins σ (upd H a ob) {s with heap:=h',toks:=t'} :=
 I.write (x:=a) (e:=a) mu (.inl rfl) (fun b q hb z=> (hs.2 b hb).trans z) he new
theorem RO {P:Program}{w:World}{H':Hp}{h':Heap}{ai:List (Key×V)}{vs:List (Key×Value)}(z:ai.length<=sizeLine)(hd:(a==sysModules)=false)(rel:KV ai vs)(dd:h'.DictOf (dN P w) a vs):
  bN P w H' h' a (.dK ai):=⟨z,hd,vs,rel,dd⟩
theorem V6 {H':Hp}{Q:Unit->Shared->Prop}(hu:A.units+1<cLine)(I:Inv X pins σ H s)(g:ur H a y v H')(ry:RelV y u)(rv:RelV v r)(h:∀s',Inv X pins σ H' s'->Q () s'):
  wpAny (model X.prog X.w) A (setItem (.ref a) u r) Q E s:=by
 rcases g with ⟨ai,k,e,ey,l,eH⟩ |⟨ai,k,b,e,ey,eb,l,eH⟩
 ·subst ey eH;obtain⟨z,hd,vs,rel,dd⟩:=SO I.ar e;have hz:vs.length<=sizeLine:=by rw[<-rel.length];exact z
  have hl:(putK ai k v).length<=sizeLine:=by have:=Jc ai k v;omega
  refine wpAny_setItem_pairs (hsz:=hz) (Wj ry) dd fun h' qB hs=>h _ ?_;have he:∃q,h'.get? a=some q:=let ⟨q,_,_,hq,_⟩:=qB;⟨q,hq⟩;exact G8 I (by rw[e];exact True.intro) hs he (RO hl hd (rel.put k rv) qB)
 ·subst ey eH;cases (show u=Value.ref b from ry);obtain⟨z,hd,xs,rel,dd⟩:=SQ I.ar e;have hz:xs.length<=sizeLine:=by rw[<-Za6 rel];exact z
  have hl:(putK ai k v).length<=sizeLine:=by have:=Jc ai k v;omega
  refine wpAny_setItem_heap (hsz:=hz) (Ze1 hu) (xf I.ar eb) dd fun h' qB hs=>h _ ?_;obtain⟨q,es,ep,hq,h2,h3,h4,_,h5⟩:=qB;refine G8 I (by rw[e];exact True.intro) hs ⟨q,hq⟩ ⟨hl,hd,_,(rel.put k eb rv).keeps fun c ys ec=> ?_,q,es,ep,hq,h2,h3,h4,h5⟩;rw[Zi (Wf ec e (fun z=>nomatch z))];exact ec
end
def IE (i:Expr):Prop:=∀ov iv,subscripted i false ov iv=operate [ov,iv] (getItem ov iv)
theorem VB {prog:Program}{w:World}{A:Around}{E:Value->Shared->Prop}{s:Shared}{env:Env}{value slice:Expr}{pos:Pos}{T id:String}{Q:Value->Shared->Prop}
  (hl:typeLookup (.type T) "__getitem__" =pure (some (.builtin id))) (hs:IE slice)
  (h:wpAny (model prog w) A (eval value env) (fun o aG=>wpAny (model prog w) A (eval slice env) (fun i dH=>dH.TypeIs o T/\wpAny (model prog w) A (getItem o i) Q E dH) E aG) E s):
  wpAny (model prog w) A (eval (.Subscript value slice pos) env) Q E s:=by
 refine Subscript_ (ZaI h (fun o aG bt=>ZaI bt (fun i dH hX=> ?_) fun _ _ x=>x) fun _ _ x=>x);obtain⟨hT,hX⟩:=hX;unfold subscriptTail;refine eg ?_;rw[getitemInPython_of_ne hT.not_modules];refine eg (ZeL hT hl ?_);have fin:wpAny (model prog w) A (subscripted slice false o i) (fun r kK=>wpAny (model prog w) A (letTemporaryGo value o r >>=fun _=>pure r) Q E kK) E dH:=by rw[hs o i];exact wpAny_operating (ZaI hX (fun r kK rW=>eg (wpAny_letTemporaryGo (Zao rW))) fun _ _ x=>x)
 first
  |exact Zao (eg fin)
  |exact eg (Zao (eg fin))
  |exact eg fin
def La (ty td:TE):TE:=fun σ H Q=>ty σ H fun y H1=>td σ H1 fun x H2=> ∃a o,x=.ref a/\ka H2 a y o/\Q (.bl o.isSome) H2
def L8 (td ty tv:TE):TS:=fun D σ H=>tv σ H fun v H1=>td σ H1 fun x H2=>ty σ H2 fun y H3=> ∃a H4,x=.ref a/\ur H3 a y v H4/\D.nx σ H4
section
variable {X:Cx}{o i e value:Expr}{pos pos' Ks:Pos}{td ty tv:TE}
theorem Tz (hu:X.A.units+1<cLine)(hi:PE X i ty)(ho:PE X o td):PC X .In i o (La ty td):=by intro pins s σ H Q I h;refine au (hi pins s σ H _ I h) fun iv s1 ⟨y,H1,I1,ry,q1⟩=>au (ho pins s1 σ H1 _ I1 q1) fun u s2 ⟨x,H2,I2,rx,a,ov,ex,g,q2⟩=> ?_;subst ex;obtain rfl:u=Value.ref a:=rx;exact QV hu I2 g ry fun s3 I3=> ⟨.bl ov.isSome,H2,I3,rfl,q2⟩
theorem Vq (hu:X.A.units+1<cLine)(ho:PE X o td)(hi:PE X i ty)(hv:PE X value tv)(hs:swapsWith value (some (.Subscript o i pos')) pos.line X.env=pure false):
  PS X (.Assign [.Subscript o i pos'] value pos) (L8 td ty tv):=by
 intro pins s σ H D I h;refine wpAny_Assign_Subscript (au (hv pins s σ H _ I h) fun r s1 ⟨v,H1,I1,rv,q1⟩=>au (ho pins s1 σ H1 _ I1 q1) fun u s2 ⟨x,H2,I2,rx,q2⟩=>au (hi pins s2 σ H2 _ I2 q2) fun iv s3 ⟨y,H3,I3,ry,a,H4,ex,g,q3⟩=> ?_) hs;subst ex;obtain rfl:u=Value.ref a:=rx;exact V6 hu I3 g ry rv fun s4 I4=> ⟨σ,H4,I4,q3⟩
end
theorem Va {P:Program}{w:World}{H:Hp}(h:Heap)(hb:sysModules<h.objs.size):bN P w H (h.push {cls:=.type "dict",data:=.dict #[]}) h.objs.size (.dT []):=
 ⟨ZaP _,Zcc.mpr (ZcL (Zay hb)),[],.nil,_, #[],0,Zau _ rfl,⟨rfl,rfl,rfl⟩,rfl,rfl,List.nodup_nil⟩
def K9:TE:=fun _ H Q=> ∀p,H p=none->Q (.ref p) (upd H p (.dT []))
section
variable {X:Cx}{pos:Pos}
theorem Xm:PE X (.Dict [] [] pos) K9:=fun pins s σ H Q I h=>
 wpAny_Dict_empty ⟨.ref s.heap.objs.size,_,I.laid (a:=s.heap.objs.size) (o:=.dT []) (t':=s.toks) (fun _ _ q=>gc _ q) (Zaq _) (Va s.heap I.big),rfl,h _ (I.ar.fresh (Zaq _))⟩
end
structure M1 (X:Cx)(o:Expr)(m:Str)(apos:Pos)(e:Expr)(bB:Pos):Prop where
 base:attributeBase o m X.env (eval o X.env)=eval o X.env
 aT:((backTo bB (starEach [e] X.env)).all (fun x=> !x.1)&&(backToKw bB (keywordEach [] X.env)).all (fun x=>x.1.isSome)
  &&decide (([e]:List Expr).length+([]:List Keyword).length+(if ([]:List Keyword).isEmpty then 0 else 1)<30))=true
 line:(apos.endLine==bB.line)=true
 trees:backTo bB (starEach [e] X.env)=[(false,eval e X.env)]
structure M2 (X:Cx)(o:Expr)(m:Str)(apos:Pos)(e f:Expr)(bB:Pos):Prop where
 base:attributeBase o m X.env (eval o X.env)=eval o X.env
 aT:((backTo bB (starEach [e,f] X.env)).all (fun x=> !x.1)&&(backToKw bB (keywordEach [] X.env)).all (fun x=>x.1.isSome)
  &&decide (([e,f]:List Expr).length+([]:List Keyword).length+(if ([]:List Keyword).isEmpty then 0 else 1)<30))=true
 line:(apos.endLine==bB.line)=true
 trees:backTo bB (starEach [e,f] X.env)=[(false,eval e X.env),(false,eval f X.env)]
def IM (H:Hp)(a:Addr):Prop:=(∃ai,Rd H a (.dK ai))∨∃ai,Rd H a (.dT ai)
theorem RX {X:Cx}{pins:List (Addr×Obj)}{σ:St}{H:Hp}{s:Shared}{a:Addr}(I:Inv X pins σ H s)(d:IM H a):
  s.TypeIs (.ref a) "dict" /\(∀b,Value.ref a=.ref b->∃ob,s.heap.get? b=some ob/\ob.dict=none)/\(a==sysModules)=false:=by
 rcases d with ⟨ai,e⟩ |⟨ai,e⟩
 ·obtain⟨_,hd,vs,_,dd⟩:=w9 I.ar e;refine⟨dd.typeIs,fun b q=> ?_,hd⟩;cases q;obtain⟨ob,_,_,h1,h2,_⟩:=dd;exact⟨ob,h1,h2.2.1⟩
 ·obtain⟨_,hd,xs,_,dd⟩:=xa I.ar e;refine⟨dd.typeIs,fun b q=> ?_,hd⟩;cases q;obtain⟨ob,_,_,h1,h2,_⟩:=dd;exact⟨ob,h1,h2.2.1⟩
section
variable {X:Cx}{pins:List (Addr×Obj)}{σ:St}{H:Hp}{s:Shared}{a:Addr}{y d:V}{u r:Value}{o:Option V}{A:Around}{E:Value->Shared->Prop}
theorem RN {Q:Value->Shared->Prop}(hu:A.units+1<cLine)(I:Inv X pins σ H s)(g:ka H a y o)(ry:RelV y u)(h:∀w' s',Inv X pins σ H s'->RelV (o.getD .ag) w'->Q w' s'):
  wpAny (model X.prog X.w) A (call (.builtin "dict.get") [.ref a,u]) Q E s:=by
 rcases g with ⟨ai,k,e,ey,l⟩ |⟨ai,k,b,e,ey,eb,l⟩
 ·subst ey;obtain⟨z,hd,vs,rel,dd⟩:=w9 I.ar e;refine call_meetsIn Zc8 dd.typeIs Zeh (Zd8 _ _) (meets_dict_get (dN X.prog X.w) a (Wj ry) hd) ⟨_,dd.mapOf,h _ _ (I.tok _) ?_⟩;rw[l];exact(rel.val k).getD rfl
 ·subst ey;cases (show u=Value.ref b from ry);obtain⟨z,hd,xs,rel,dd⟩:=xa I.ar e;refine call_meetsIn Zc8 dd.typeIs Zeh (Zd8 _ _) (meetsH_dict_get (tupleKind (dN X.prog X.w)) a b hd) ⟨Ze1 hu,k,xs,xf I.ar eb,dd,h _ _ (I.tok _) ?_⟩;rw[l];exact(rel.val k).getD rfl
end
def Ld (td ty:TE):TE:=fun σ H Q=>td σ H fun x H1=> ∃a,x=.ref a/\IM H1 a/\ty σ H1 fun y H2=> ∃o,ka H2 a y o/\Q (o.getD .ag) H2
section
variable {X:Cx}{o e f:Expr}{apos bB:Pos}{td ty tx:TE}
theorem Xl (hu:X.A.units+1<cLine)(ho:PE X o td)(he:PE X e ty)(m:M1 X o "get" apos e bB):PE X (.Call (.Attribute o "get" apos) [e] [] bB) (Ld td ty):=by intro pins s σ H Q I h;refine wpAny_Call_method m.base m.aT m.line PySem.F.plainAttrs_dict Zc8 PySem.F.type_dict_get (au (ho pins s σ H _ I h) fun u s1 ⟨x,H1,I1,rx,a,ex,d,q1⟩=> ?_);subst ex;obtain rfl:u=Value.ref a:=rx;obtain⟨t1,t2,_⟩:=RX I1 d;refine⟨t1,t2,?_⟩;rw[m.trees];refine Zdv rfl (ZdS (Ze0 (au (he pins s1 σ H1 _ I1 q1) fun iv s2 ⟨y,H2,I2,ry,ov,g,q2⟩=>Zfe ?_)));exact RN hu I2 g ry fun w' s3 I3 gL=> ⟨_,H2,I3,gL,q2⟩
end
section
variable {κ:Type} [DecidableEq κ]
theorem V3 {ai:List (κ×V)}{k:κ}(h:bD ai k=none):¬k∈ai.map (·.1):=by intro m;obtain⟨p,hp,e⟩:=Za0.mp m;have q:(ai.any fun kv=>decide (kv.1=k))=true:=ZdV.mpr ⟨p,hp,ZaA e⟩;rw[YB,h]at q;exact absurd q (by simp)
theorem VG {ai:List (κ×V)}{k:κ}{v:V}(h:bD ai k=some v):k∈ai.map (·.1):=by
 have q:(ai.any fun kv=>decide (kv.1=k))=true:=by
  rw[YB,h]
  all_goals rfl
 obtain⟨p,hp,e⟩:=ZdV.mp q;exact Za0.mpr ⟨p,hp,ZcQ e⟩
theorem Hm:∀{l:List κ}{k:κ},l.Nodup->¬k∈l->(l++[k]).Nodup
 | [],k,_,_=>by simp
 |a::r,k,h,hk=>by
  obtain⟨h1,h2⟩:=Zcp.mp h;show(a::(r++[k])).Nodup;refine Zcp.mpr ⟨fun m=> ?_,Hm h2 fun m=>hk (Zaf.mpr (Or.inr m))⟩;rcases Zbf.mp m with q |q
  ·exact h1 q
  ·exact hk (Zaf.mpr (Or.inl (Zar.mp q).symm))
end
def eG (scope:Scope)(env:Env):List (Str×Addr):=scope.names.foldl (fun cs y=>if y.2==.free then (y.1,(env.cells.lookup y.1).getD 0)::cs else cs) []
theorem Ys {scope:Scope}{env:Env}(h:∀y∈scope.names,y.2=.free->∃c,env.cells.lookup y.1=some c):closureFor scope env=pure (eG scope env):=by
 unfold closureFor eG;have key:∀(l:List (Str×NameKind)) (cs:List (Str×Addr)),(∀y∈l,y.2=.free->∃c,env.cells.lookup y.1=some c)->
   (forIn l cs (fun x r=>match x with |(name,kind)=>if (kind==NameKind.free)=true then do let c <-cellOf env name;pure (ForInStep.yield ((name,c)::r)) else pure (ForInStep.yield r)):Sem (List (Str×Addr)))
    =pure (l.foldl (fun cs y=>if y.2==.free then (y.1,(env.cells.lookup y.1).getD 0)::cs else cs) cs):=by
  intro l
  induction l with
  |nil=>intro cs _;rfl
  |cons y l ih=>
   intro cs hl;obtain⟨n,k⟩:=y;rw[List.forIn_cons,ZdJ];by_cases hk:k=.free
   ·subst hk;obtain⟨c,hc⟩:=hl (n,.free) Zai rfl;have bX:env.cells.lookup n=some c:=hc;have e1:cellOf env n=pure c:=by unfold cellOf;rw[bX]
    simp only[Zfw,Zem,e1,bX,ZeA,pure_bind];exact ih _ fun y hy=>hl y (Zad _ hy)
   ·have hb:(k==NameKind.free)=false:=by simpa using hk
    simp only[hb,Zbe,Zdd,pure_bind];exact ih _ fun y hy=>hl y (Zad _ hy)
 simp only[key scope.names [] h,pure_bind]
 all_goals rfl
theorem YH {scope:Scope}{env:Env}{x:Str}{c:Addr}(h:(eG scope env).lookup x=some c):c=(env.cells.lookup x).getD 0/\(x,NameKind.free)∈scope.names:=by
 unfold eG at h;have key:∀(l:List (Str×NameKind)) (cs:List (Str×Addr)),(l.foldl (fun cs y=>if y.2==.free then (y.1,(env.cells.lookup y.1).getD 0)::cs else cs) cs).lookup x=some c->
   (c=(env.cells.lookup x).getD 0/\(x,NameKind.free)∈l)∨cs.lookup x=some c:=by
  intro l
  induction l with
  |nil=>intro cs h;exact .inr h
  |cons y l ih=>
   intro cs h;obtain⟨n,k⟩:=y;rw[ZdJ]at h;rcases ih _ h with ⟨h1,h2⟩ |h'
   ·exact .inl ⟨h1,Zad _ h2⟩
   ·by_cases hk:k=.free
    ·subst hk;simp only[Zfw,Zem]at h';rw[Zdp]at h';cases hx:x==n with
     |true=>
      rw[hx]at h';have e:x=n:=by simpa using hx
      subst e;have e':(env.cells.lookup x).getD 0=c:=Za3 h';exact .inl ⟨e'.symm,Zai⟩
     |false=>rw[hx]at h';exact .inr h'
    ·have hb:(k==NameKind.free)=false:=by simpa using hk
     simp only[hb,Zbe,Zdd]at h';exact .inr h'
 rcases key _ _ h with h |h
 ·exact h
 ·simp at h
theorem Ui {scope:Scope}{env:Env}{x:Str}(h:(x,NameKind.free)∈scope.names):∃c,(eG scope env).lookup x=some c:=by
 unfold eG;have key:∀(l:List (Str×NameKind)) (cs:List (Str×Addr)),((x,NameKind.free)∈l∨∃c,cs.lookup x=some c)->∃c,(l.foldl (fun cs y=>if y.2==.free then (y.1,(env.cells.lookup y.1).getD 0)::cs else cs) cs).lookup x=some c:=by
  intro l
  induction l with
  |nil=>
   intro cs h;rcases h with h |h
   ·simp at h
   ·exact h
  |cons y l ih=>
   intro cs h;obtain⟨n,k⟩:=y;rw[ZdJ];refine ih _ ?_;by_cases hk:k=.free
   ·subst hk;simp only[Zfw,Zem];rw[Zdp];cases hx:x==n with
    |true=>exact .inr ⟨_,rfl⟩
    |false=>
     rcases h with h |h
     ·rcases Zaf.mp h with e |h
      ·have e1:x=n:=Zcr Prod.fst e;simp[e1]at hx
      ·exact .inl h
     ·exact .inr h
   ·have hb:(k==NameKind.free)=false:=by simpa using hk
    simp only[hb,Zbe,Zdd];rcases h with h |h
    ·rcases Zaf.mp h with e |h
     ·exact absurd (Zcr Prod.snd e).symm hk
     ·exact .inl h
    ·exact .inr h
 exact key _ _ (.inl h)
def rl (env:Env)(y:Str×NameKind):Str×NameKind:=if (y.2==NameKind.free&&env.scope.kind==.function&&env.kindOf y.1==some .cell) then (y.1,NameKind.cell) else y
theorem GN (env:Env)(y:Str×NameKind):(rl env y).1=y.1:=by unfold rl;split<;>rfl
theorem Vv {env:Env}{y:Str×NameKind}(h:y.2=.free):(rl env y).2=.cell∨(rl env y).2=.free:=by
 unfold rl;split
 ·exact .inl rfl
 ·exact .inr h
theorem TL {env:Env}{y:Str×NameKind}(h:y.2≠.free):rl env y=y:=by
 have hb:(y.2==NameKind.free)=false:=by simpa using h
 unfold rl;rw[hb];simp
theorem Jo (scope:Scope)(env:Env):(relabel scope env).names=scope.names.map (rl env):=rfl
theorem Zac {scope:Scope}{env:Env}{x:Str}(hc:∀y∈scope.names,y.2≠.cell)(h:(relabel scope env).names.lookup x=some .cell∨(relabel scope env).names.lookup x=some .free):(x,NameKind.free)∈scope.names:=by
 rw[Jo]at h;have key:∀(l:List (Str×NameKind)),(∀y∈l,y.2≠.cell)->(∃k,(k=NameKind.cell∨k=.free)/\(l.map (rl env)).lookup x=some k)->(x,NameKind.free)∈l:=by
  intro l
  induction l with
  |nil=>rintro _ ⟨k,_,h⟩;simp at h
  |cons y l ih=>
   rintro hl ⟨k',cj,h⟩;obtain⟨n,k⟩:=y;have e1:(rl env (n,k))=(n,(rl env (n,k)).2):=Prod.ext (GN env _) rfl;rw[ZaQ,e1,Zdp]at h;cases hx:x==n with
   |true=>
    have e:x=n:=by simpa using hx
    subst e;by_cases hk:k=.free
    ·subst hk;exact Zai
    ·rw[hx]at h;rw[TL (env:=env) (y:=(x,k)) hk]at h;have e:k=k':=Za3 h;subst e;rcases cj with z |z
     ·exact absurd z (hl _ Zai)
     ·exact absurd z hk
   |false=>rw[hx]at h;exact Zad _ (ih (fun y hy=>hl y (Zad _ hy)) ⟨k',cj,h⟩)
 refine key _ hc ?_;rcases h with h |h
 ·exact⟨_,.inl rfl,h⟩
 ·exact⟨_,.inr rfl,h⟩
theorem Jn {scope:Scope}{env:Env}{x:Str}(h:scope.names.lookup x=some .free):(relabel scope env).names.lookup x=some .cell∨(relabel scope env).names.lookup x=some .free:=by
 rw[Jo];have key:∀(l:List (Str×NameKind)),l.lookup x=some .free->(l.map (rl env)).lookup x=some .cell∨(l.map (rl env)).lookup x=some .free:=by
  intro l
  induction l with
  |nil=>intro h;simp at h
  |cons y l ih=>
   intro h;obtain⟨n,k⟩:=y;have e1:(rl env (n,k))=(n,(rl env (n,k)).2):=Prod.ext (GN env _) rfl;rw[ZaQ,e1,Zdp];rw[Zdp]at h;cases hx:x==n with
   |true=>
    rw[hx]at h;have e:k=.free:=Za3 h;rcases Vv (env:=env) (y:=(n,k)) e with z |z
    ·exact .inl (Zcr some z)
    ·exact .inr (Zcr some z)
   |false=>rw[hx]at h;exact ih h
 exact key _ h
def aK (X:Cx)(N':List Str)(scope:Scope)(C:Addr)(s2:Shared)(H2:Hp)(fp:List Addr):Cx:=
 {X with N:=N',bY:=s2,kG:=H2,env:=compEnvC scope (eG scope X.env) C X.env,outer:=X.stack,stack:=X.stack,ex:=fp,fn:=fun _=>false,pn:=[],xe:=fun _ _=>False}
def tU (so si:Scope)(N N':List Str)(ts:Nat)(bw:List Nat):Bool:=
 decide (si.kind=.function)&&si.names.all (fun y=>y.2 !=.cell)&&si.names.all (fun y=>y.2 !=.local||si.names.lookup y.1==some .local)
 &&si.names.all (fun y=>y.2 !=.free||so.names.lookup y.1==some .cell||so.names.lookup y.1==some .free)
 &&decide N'.Nodup&&decide (N'.length=ts+bw.length)
 &&(List.range bw.length).all (fun k=> (N'[ts+k]? ==(bw[k]?.bind fun j=>N[j]?))&&(N'[ts+k]?.isSome)&&(N'[ts+k]?.all fun x=>so.names.lookup x !=some .local&&si.names.lookup x==some .free))
def jE (ts:Nat)(bw:List Nat)(σ:St):St:=List.replicate ts none++bw.map fun j=> (σ[j]?).join
structure xA (X:Cx)(N':List Str)(ts:Nat)(bw:List Nat)(scope:Scope):Prop where
 kind:scope.kind=.function
 gm:∀y∈scope.names,y.2≠.cell
 names:∀y∈scope.names,y.2=.local->scope.names.lookup y.1=some .local
 free:∀y∈scope.names,y.2=.free->X.env.kindOf y.1=some .cell∨X.env.kindOf y.1=some .free
 nd:N'.Nodup
 len:N'.length=ts+bw.length
 Ry:∀k j,bw[k]? =some j->∃x,N'[ts+k]? =some x/\X.N[j]? =some x/\X.env.kindOf x≠some .local/\scope.names.lookup x=some .free
theorem Jx {x:Str}{k:NameKind} :∀{l:List (Str×NameKind)},l.lookup x=some k->(x,k)∈l
 | [],h=>by simp at h
 |(n,j)::l,h=>by
  rw[Zdp]at h;cases hx:x==n with
  |true=>
   rw[hx]at h;have e:x=n:=by simpa using hx
   have e':j=k:=Za3 h;subst e e';exact Zai
  |false=>rw[hx]at h;exact Zad _ (Jx h)
theorem Uh {X:Cx}{N':List Str}{ts:Nat}{bw:List Nat}{scope:Scope}(h:tU X.env.scope scope X.N N' ts bw=true):xA X N' ts bw scope:=by
 unfold tU at h;simp only[ZaJ]at h;obtain⟨⟨⟨⟨⟨⟨h1,h2⟩,h3⟩,h4⟩,h5⟩,h6⟩,h7⟩:=h;refine⟨ZcQ h1,fun y hy z=> ?_,fun y hy z=> ?_,fun y hy z=> ?_,ZcQ h5,ZcQ h6,fun k j hk=> ?_⟩
 ·have q:=Zbm.mp h2 y hy;rw[z]at q;exact absurd q .d
 ·have q:=Zbm.mp h3 y hy;rw[z]at q;simpa using q
 ·have q:=Zbm.mp h4 y hy;rw[z]at q;simpa[Env.kindOf] using q
 ·have aI:k<bw.length:=(Zaa.mp hk).1;have q:=Zbm.mp h7 k (ZbC.mpr aI);simp only[ZaJ]at q;obtain⟨⟨q1,q2⟩,q3⟩:=q;obtain⟨x,hx⟩:=ZcH.mp q2;rw[hx]at q1 q3;rw[hk]at q1;have e1:some x=X.N[j]? :=by simpa using q1
  have zY:(X.env.scope.names.lookup x !=some .local&&scope.names.lookup x==some .free)=true:=q3;simp only[ZaJ]at zY;refine⟨x,hx,e1.symm,?_,by simpa using zY.2⟩;have z:=zY.1;intro e;have e':X.env.scope.names.lookup x=some .local:=e;rw[e']at z;exact absurd z .d
section
variable {X:Cx}{pins:List (Addr×Obj)}{σ:St}{H:Hp}{s:Shared}
theorem Hf {N':List Str}{ts:Nat}{bw:List Nat}{scope:Scope}{fp:List Addr}{h':Heap}{t':Nat}{m:Str->Option Value}{C:Addr}(S:xA X N' ts bw scope)(I:Inv X pins σ H s)(hf:∀b∈fp,bb X pins H b)
  (ho:∀b∈fp,∃o,s.heap.get? b=some o) (hC:s.heap.objs.size<=C) (hn:h'.Ns C m) (k:∀b o,s.heap.get? b=some o->h'.get? b=some o):
  Inv (aK X N' scope C s H fp) [] (jE ts bw σ) H {s with heap:=h',toks:=t'} :=by
 have sub:∀x c,(eG scope X.env).lookup x=some c->X.env.cells.lookup x=some c:=fun x c e=>by obtain⟨e1,e2⟩:=YH e;obtain⟨c',bX⟩:=I.ok.has x (S.free _ e2 rfl);rw[bX]at e1;rw[bX,e1];rfl
 have eJ:∀b o,s.heap.get? b=some o->b≠C:=fun b o e=>Zay (Zaw (Zal e) hC);refine⟨⟨I.ok.mod,?_,I.ok.glob,I.ok.blt,hC,fun x y c e1 e2=>I.ok.inj x y c (sub x c e1) (sub y c e2),fun x hx=> ?_,fun x c z _=>absurd z Zaj,I.ok.hd,I.ok.frames,.inl rfl,fun b hb=> ?_,fun b o e=>I.bs b o e,ZaL I.ok.iz I.sz,fun b o e hb=> ?_,fun b hb=> ?_,I.stack,I.oU⟩,
  rfl,I.bare,Un.kept k,⟨m,hn,fun i x v e1 e2 e3=> ?_⟩,fun x c e=> ?_,I.ar.fresh hC,fun x c e=>I.fO x c (sub x c e),fun p hp=>absurd (show p∈([]:List (Addr×Obj)) from hp) (by simp),I.ar.kept k,?_⟩
 ·show(relabel scope X.env).kind=.function;exact S.kind
 ·exact Ui (Zac S.gm hx)
 ·obtain⟨o,e⟩:=ho b hb;refine⟨eJ b o e,fun x c ec=> ?_⟩;exact(hf b hb).2.2.2.2.1 x c (sub x c ec)
 ·obtain⟨e1,e2⟩:=I.bs b o e;obtain⟨f0,f1,f2,f3,f4,f5⟩:=hf b hb;rcases f3 with z |z
  ·exact I.ok.kz b o e z
  ·exact absurd (Zaw (Zal (I.ok.bs b o e).1) z) (Zba _)
 ·intro z;obtain⟨f0,f1,f2,f3,f4,f5⟩:=hf b hb;rcases Zaf.mp (I.qZ b z) with q |q
  ·exact f1 q
  ·exact f2 q
 ·-- the aan values
  have hlen:¬i<ts:=fun aI=>by unfold jE at e2;rw[ZcE (by simpa using aI),Zdo]at e2;split at e2<;>cases e2
  have oE:(bw.map fun j=> (σ[j]?).join)[i-ts]? =some (some v):=by unfold jE at e2;rw[ZcB (by simpa using hlen),Zc7]at e2;exact e2
  rw[Zbi]at oE;cases hc:bw[i-ts]? with
  |none=>rw[hc]at oE;cases oE
  |some j=>
   rw[hc]at oE;have wM:(σ[j]?).join=some v:=Za3 oE;have e4:σ[j]? =some (some v):=by
    cases q:σ[j]? with
    |none=>rw[q]at wM;cases wM
    |some o=>rw[q]at wM;exact Zcr some wM
   obtain⟨x',n1,n2,n3,n4⟩:=S.Ry _ _ hc;have ei:ts+(i-ts)=i:=.o;rw[ei]at n1;have ex:x=x':=by have FY:N'[i]? =some x:=e1;rw[n1]at FY;exact(Za3 FY).symm
   subst ex;obtain⟨mX,hnX,hl⟩:=I.loc;have Kl:oH X.env.scope x:=by
    rcases S.free _ (Jx n4) rfl with z |z
    ·exact .inr (.inl z)
    ·exact .inr (.inr z)
   obtain⟨u,ru,lk⟩:=hl j x v n2 e4 Kl;refine⟨u,ru,?_⟩;rcases lk with ⟨z,_⟩ |⟨z,c,ec,lQ⟩
   ·exact absurd z n3
   ·obtain⟨c',bX⟩:=Ui (env:=X.env) (Jx n4);have:=sub x c' bX;rw[ec]at this;cases this;refine .inr ⟨?_,c,bX,lQ.keeps k⟩;exact Jn n4
 ·obtain⟨v,z⟩:=I.cell x c (sub x c e);exact⟨v,z.keeps k⟩
 ·show(jE ts bw σ).length=N'.length;unfold jE;rw[Zam,Zc7,Zae,S.len]
end
def AccAt (h:Heap)(D:Addr)(ys:List V):Prop:=ys.length<=sizeLine/\∃(ae:List Value) (n:Nat),Vals ys ae/\h.get? D=some {cls:=.type "list",data:=.seq ae.toArray n}
theorem AccAt.keep {h h':Heap}{D:Addr}{ys:List V}(a:AccAt h D ys)(k:∀o,h.get? D=some o->h'.get? D=some o):AccAt h' D ys:=by obtain⟨z,ae,n,r,e⟩:=a;exact⟨z,ae,n,r,k _ e⟩
abbrev TC:=List V->St->Hp->(List V->St->Hp->Prop)->Prop
def iX (Y:Cx)(D:Addr)(m:Sem PySem.Fin->Sem PySem.Fin)(t:TC):Prop:=
 ∀(pins:List (Addr×Obj)) (s:Shared) (σ:St) (H:Hp) (ys:List V) (Q:List V->St->Hp->Prop) (k:Sem PySem.Fin) (R:PySem.Fin->Shared->Prop),Inv Y pins σ H s->bb Y pins H D->AccAt s.heap D ys->t ys σ H Q->
  (∀s' bp ah H',Inv Y pins ah H' s'->bb Y pins H' D->AccAt s'.heap D bp->Q bp ah H'->wpAny (model Y.prog Y.w) Y.A k R (fun _ _=>False) s')->wpAny (model Y.prog Y.w) Y.A (m k) R (fun _ _=>False) s
def xR (ifs:List Expr)(env:Env):Sem Bool:=forIn ifs true fun c r=>if r=true then do let ok <-isTrue c env (eval c env);pure (ForInStep.yield ok) else pure (ForInStep.yield r)
def j8 (Y:Cx)(ifs:List Expr)(t:TT):Prop:=
 ∀(pins:List (Addr×Obj)) (s:Shared) (σ:St) (H:Hp) (Q:Bool->Hp->Prop),Inv Y pins σ H s->t σ H Q->wpAny (model Y.prog Y.w) Y.A (xR ifs Y.env) (TP Y pins σ Q) Y.xe s
def mw:TT:=fun _ H Q=>Q true H
section
variable {Y:Cx}{D:Addr}
theorem Z1:j8 Y [] mw:=fun pins s σ H Q I h=>wpAny_tests_nil ⟨H,I,h⟩
theorem Yk {c:Expr}{t:TT}(hc:PT Y c t):j8 Y [c] t:=fun pins s σ H Q I h=>wpAny_tests_one (hc pins s σ H Q I h)
def uD (te:TE):TC:=fun ys σ H Q=>te σ H fun v H1=>ys.length<sizeLine/\Q (ys++[v]) σ H1
theorem AccAt.gm {h:Heap}{ys:List V}(a:AccAt h D ys):∀b∈[D],∃o,h.get? b=some o/\∀v,o.data≠.cell v:=fun b hb=>by
 have e:b=D:=by simpa using hb
 subst e;obtain⟨z,ae,n,r,e⟩:=a;exact⟨_,e,fun v z=>by have z':Data.seq ae.toArray n=Data.cell v:=z;cases z'⟩
theorem AccAt.through {h:Heap}{pins:List (Addr×Obj)}{ah:St}{H':Hp}{s':Shared}{ys:List V}(a:AccAt h D ys)(I:Inv Y (pins++gP [D] h) ah H' s'):AccAt s'.heap D ys/\H' D=none:=by obtain⟨z,ae,n,r,e⟩:=a;have q:=I.pin (D,_) (Zap _ (Zap _ (ZJ (Zar.mpr rfl) e)));exact⟨⟨z,ae,n,r,q.1⟩,q.2.1⟩
theorem cz {elt:Expr}{te:TE}(hx:Y.xe=fun _ _=>False)(he:PE Y elt te):
  iX Y D (fun k=> (do let _ <-call (.builtin "list.append") [.ref D,<-eval elt Y.env]) >>=fun _=>k) (uD te):=by
 intro pins s σ H ys Q k R I f a h hk;refine eg (ZaI (Q:=fun _ s'=> ∃bp ah H',Inv Y pins ah H' s'/\bb Y pins H' D/\AccAt s'.heap D bp/\Q bp ah H') ?_ (fun _ s' ⟨bp,ah,H',q1,q2,q3,q4⟩=>hk s' bp ah H' q1 q2 q3 q4) fun _ _ z=>z);have I':=I.pinned (fp:=[D]) (fun b hb=>by rw[Zar.mp hb];exact f) a.gm;refine eg (ZaI (he _ s σ H _ I' h) (fun u s1 ⟨v,H1,I1,ru,hz,q⟩=> ?_) fun e s1 z=>by rw[hx]at z;exact z);obtain⟨a1,n1⟩:=a.through I1;have f1:bb Y pins H1 D:=⟨n1,f.2⟩;obtain⟨z,ae,n,r,e⟩:=a1;have hl:=r.length;refine eg (Zdh F.slot_list_append ⟨_,e,rfl⟩ F.entry_list_append (F.args_list_append_2 _ _) (PySem.list_append D ae.toArray n u (by rw[Zas];omega)) ⟨e,Zao ?_⟩);have q2:=PySem.IsL.update e (·.push u);obtain⟨f0,g1,g2,g3,g4,g5⟩:=f1;have I2:Inv Y pins σ H1 {s1 with heap:=s1.heap.update D (Obj.mapSeq (·.push u))} :=I1.ft.turned (t':=s1.toks) (it:=D) (fun b o hb eb=> (Za1 s1.heap _ (ZcL hb)).trans eb) f0 g1 g3 g4 g5;refine⟨ys++[v],σ,H1,I2,⟨f0,g1,g2,g3,g4,g5⟩,⟨by rw[Zam,List.length_singleton];omega,ae++[u],(if ((ae.toArray.push u).size==ae.toArray.size)=true then n else n+1),r.append (.cons ru .nil),?_⟩,q⟩;have e3:ae.toArray.push u=(ae++[u]).toArray:=by simp
 rw[<-e3];exact q2
def inner (elt:Expr)(gens:List Comprehension)(scope:Scope)(pos:Pos)(d:Nat)(acc:Value)(env:Env)(k:Sem PySem.Fin):Sem PySem.Fin:=
 match gens[d+1]? with
 |some g'=>eval g'.iter env >>=fun x=>standAt g'.iter.pos >>=fun _=>foldedSetIterable g'.iter env x >>=fun x=>holding [x] (pyIter x) >>=fun jN=>runOwn (.compStart (.ListComp elt gens scope pos) (d+1) jN acc env) env >>=fun _=>k
 |none=> (do let _ <-call (.builtin "list.append") [acc,<-eval elt env]) >>=fun _=>k
set_option maxHeartbeats 400000 in
theorem BQ (elt tg iter:Expr)(ifs:List Expr)(gens:List Comprehension)(scope:Scope)(pos:Pos)(d:Nat)(it acc:Value)(env:Env)(hg:gens[d]? =some ⟨tg,iter,ifs,0⟩)(h2:∀g',gens[d+1]? =some g'->g'.is_async=0):
  compTurn (.ListComp elt gens scope pos) d it acc env=(standAt iter.pos >>=fun _=>pyNext it >>=fun r=>match r with
   |none=>pure (.done .next)
   |some v=>letOwnedTupleGo tg it v >>=fun _=>assign tg env v >>=fun _=>xR ifs env >>=fun ok=>if ok=true then inner elt gens scope pos d acc env (again (.compLoop (.ListComp elt gens scope pos) d it acc env)) else again (.compLoop (.ListComp elt gens scope pos) d it acc env)):=by
 unfold compTurn inner;dsimp only;rw[hg];generalize hn:gens[d+1]? =o;cases o with
 |none=>rfl
 |some g'=>have e:=h2 g' hn;obtain⟨t',i',f',a'⟩:=g';have e':a'=0:=e;subst e';rfl
def gZ (g:TG)(tt:TT)(ti:TC)(J:It):TC:=fun ys σ H Q=> ∃W:Nat->Nat->List V->St->Hp->Prop,(∃m,W 0 m ys σ H)/\∀i m ys σ H,W i m ys σ H->
 (J.stop i H/\Q ys σ H)∨(J.go i H/\∃N:List V->St->Hp->Prop,(∀bp ah H',N bp ah H'->∃m',m'<m/\W (i+1) m' bp ah H')/\
  ∀x H',J.mn i H x H'->g x σ H' fun bh H2=>tt bh H2 fun b H3=>if b=true then ti ys bh H3 N else N ys bh H3)
theorem wU {elt tg iter:Expr}{ifs:List Expr}{gens:List Comprehension}{scope:Scope}{pos:Pos}{d:Nat}{it:Addr}{fp:List Addr}{tn:Nat->Heap->Prop}{J:It}{g:TG}{tt:TT}{ti:TC}{pins:List (Addr×Obj)}{s:Shared}{σ:St}{H:Hp}{ys:List V}{Q:List V->St->Hp->Prop}
  (hx:Y.xe=fun _ _=>False) (hc:Y.calm=true) (hg:gens[d]? =some ⟨tg,iter,ifs,0⟩) (T:Turn Y.prog Y.w Y.K Y.A.handled tg J fp it tn) (hf:∀b∈fp,bb Y pins H b) (st:tn 0 s.heap) (hD:D∉fp)
  (h2:∀g',gens[d+1]? =some g'->g'.is_async=0) (pg:PG Y tg g) (pt:j8 Y ifs tt) (pi:iX Y D (inner elt gens scope pos d (.ref D) Y.env) ti)
  (I:Inv Y pins σ H s) (f:bb Y pins H D) (a:AccAt s.heap D ys) (h:gZ g tt ti J ys σ H Q):
  codeAny (model Y.prog Y.w) Y.A (.compLoop (.ListComp elt gens scope pos) d (.ref it) (.ref D) Y.env) (fun r s'=>match r with
   | .ok _=> ∃bp ah H',Inv Y pins ah H' s'/\bb Y pins H' D/\AccAt s'.heap D bp/\Q bp ah H'
   | .error _=>False) s:=by
 obtain⟨W,⟨m0,w0⟩,turn⟩:=h;have stat:∀{H':Hp},(∀b∈fp,H' b=none)->∀b∈fp,bb Y pins H' b:=fun hn b hb=> ⟨hn b hb,(hf b hb).2⟩;refine codeAny_loop rfl (fun n s'=> ∃i bp ah H',Inv Y pins ah H' s'/\bb Y pins H' D/\AccAt s'.heap D bp/\tn i s'.heap/\(∀b∈fp,H' b=none)/\W i n bp ah H') (fun n s3 hI=> ?_) m0 ⟨0,ys,σ,H,I,f,a,st,fun b hb=> (hf b hb).1,w0⟩;obtain⟨i,i7,cK,H3,I3,f3,a3,dJ,qx,w3⟩:=hI;show wpAny _ Y.A ((compTurn (.ListComp elt gens scope pos) d (.ref it) (.ref D) Y.env).onRaise (fun x=>do noteFrame x Y.env;theTreesLotGoes x)) _ _ s3;refine wpAny_noted (ZaI (E:=fun _ _=>False) ?_ (fun _ _ q=>q) fun _ _ z=>z.elim);rw[BQ elt tg iter ifs gens scope pos d (.ref it) (.ref D) Y.env hg h2];refine eg (Zbg (eg ?_));have aD:∀{h h':Heap},(∀b o,b∉fp->h.get? b=some o->h'.get? b=some o)->∀{zs},AccAt h D zs->AccAt h' D zs:=fun k _ q=>q.keep fun o e=>k D o hD e;have uf:=I3.pinned (fp:=[D]) (fun b hb=>by rw[Zar.mp hb];exact f3) a3.gm;have q0:∀b∈fp,bb Y (pins++gP [D] s3.heap) H3 b:=fun b hb=>by
  obtain⟨g0,g1,g2,g3,g4,g5⟩:=stat qx b hb;refine⟨g0,g1,g2,g3,g4,fun p hp=> ?_⟩;rcases Zbf.mp hp with z |z
  ·exact g5 p (Zcj _ z)
  ·rcases Zbf.mp z with z |z
   ·exact g5 p (Zap _ z)
   ·intro q;have e:p.1=D:=by simpa using (YW z).1
    exact hD (by rw[<-e,q];exact hb)
 rcases turn i n i7 cK H3 w3 with ⟨stop,qn⟩ |⟨go,N,hN,step⟩
 ·refine ZaI (T.done Y rfl rfl rfl hc rfl i _ s3 cK H3 (fun _ _=>False) uf q0 dJ stop) (fun r s4 ⟨hr,I4⟩=> ?_) fun _ _ z=>z;subst hr;obtain⟨a4,n4⟩:=a3.through I4;exact Zao ⟨i7,cK,H3,I4.ft,f3,a4,qn⟩
 ·refine ZaI (T.item Y rfl rfl rfl hc rfl i _ s3 cK H3 (fun _ _=>False) uf q0 dJ go) (fun r s4 ⟨u,hr,h4⟩=> ?_) fun _ _ z=>z;subst hr;refine eg (ZaI h4 (fun _ s5 ⟨x,H5,I5,r5,y5,jb,tw⟩=> ?_) fun _ _ z=>z);obtain⟨a5,n5⟩:=a3.through I5;have f5:bb Y pins H5 D:=⟨n5,f3.2⟩;have AU:∀b∈D::fp,∃o,s5.heap.get? b=some o/\∀v,o.data≠.cell v:=fun b hb=>by
   rcases Zaf.mp hb with e |hb
   ·exact a5.gm b (by simp[e])
   ·exact T.obj _ _ jb b hb
  have ue:=I5.ft.pinned (fp:=D::fp) (fun b hb=>by
   rcases Zaf.mp hb with e |hb
   ·rw[e];exact f5
   ·exact stat tw b hb) AU
  refine eg (ZaI (pg _ s5 cK H5 x u _ ue r5 (step x H5 y5)) (fun _ s6 ⟨kd,H6,I6,q6⟩=> ?_) fun _ _ z=>by rw[hx]at z;exact z);refine eg (ZaI (pt _ s6 kd H6 _ I6 q6) (fun b s7 ⟨H7,I7,q7⟩=> ?_) fun _ _ z=>by rw[hx]at z;exact z);have rB:∀{cJ:St}{H7:Hp}{s7:Shared},Inv Y (pins++gP (D::fp) s5.heap) cJ H7 s7->AccAt s7.heap D i7/\H7 D=none:=fun {cJ H7 s7} J=>by obtain⟨z,ae,n,r,e⟩:=id a5;have q:=J.pin (D,_) (Zap _ (Zap _ (ZJ Zai e)));exact⟨⟨z,ae,n,r,q.1⟩,q.2.1⟩
  have rA:∀{cJ:St}{H7:Hp}{s7:Shared},Inv Y (pins++gP (D::fp) s5.heap) cJ H7 s7->tn (i+1) s7.heap/\∀b∈fp,H7 b=none:=fun {cJ H7 s7} J=>by refine⟨T.keep _ _ _ jb fun b hb o e=> (J.pin (b,o) (Zap _ (Zap _ (ZJ (Zad _ hb) e)))).1,fun b hb=> ?_⟩;obtain⟨o,e,dd⟩:=T.obj _ _ jb b hb;exact(J.pin (b,o) (Zap _ (Zap _ (ZJ (Zad _ hb) e)))).2.1
  cases b with
  |false=>simp only[Zbe,Zdd]at q7 |-;obtain⟨m',hm,w7⟩:=hN _ _ _ q7;obtain⟨a7,n7⟩:=rB I7;obtain⟨t7,r7⟩:=rA I7;exact Zao ⟨rfl,m',hm,i+1,i7,kd,H7,I7.ft,⟨n7,f3.2⟩,a7,t7,r7,w7⟩
  |true=>
   simp only[Zem]at q7 |-;obtain⟨a7,n7⟩:=rB I7;obtain⟨t7,r7⟩:=rA I7;have CK:=I7.ft.pinned (fp:=fp) (stat r7) (T.obj _ _ t7);have f7:bb Y (pins++gP fp s7.heap) H7 D:=by
    obtain⟨g0,g1,g2,g3,g4,g5⟩:=f3;refine⟨n7,g1,g2,g3,g4,fun p hp=> ?_⟩;rcases Zbf.mp hp with z |z
    ·exact g5 p (Zcj _ z)
    ·rcases Zbf.mp z with z |z
     ·exact g5 p (Zap _ z)
     ·intro q;exact hD (by rw[<-q];exact(YW z).1)
   refine pi _ s7 kd H7 i7 N _ _ CK f7 a7 q7 fun s8 xB gH H8 I8 f8 a8 q8=> ?_;obtain⟨m',hm,w8⟩:=hN _ _ _ q8;refine Zao ⟨rfl,m',hm,i+1,xB,gH,H8,I8.ft,⟨f8.1,f3.2⟩,a8,T.keep _ _ _ t7 fun b hb o e=> (I8.pin (b,o) (Zap _ (Zap _ (ZJ hb e)))).1,fun b hb=> ?_,w8⟩;obtain⟨o,e,dd⟩:=T.obj _ _ t7 b hb;exact(I8.pin (b,o) (Zap _ (Zap _ (ZJ hb e)))).2.1
theorem wR {elt tg iter:Expr}{ifs:List Expr}{gens:List Comprehension}{scope:Scope}{pos:Pos}{d:Nat}{it:Addr}{R:Result->Shared->Prop}{s:Shared}{A:Around}{prog:Program}{w:World}{env:Env}{acc:Value}{fp:List Addr}{tn:Nat->Heap->Prop}{J:It}{K:ZgE}
  (hg:gens[d]? =some ⟨tg,iter,ifs,0⟩) {hd:Option Value} (T:Turn prog w K hd tg J fp it tn) {i:Nat} (st:tn i s.heap) (h:codeAny (model prog w) A (.compLoop (.ListComp elt gens scope pos) d (.ref it) acc env) R s):
  codeAny (model prog w) A (.compStart (.ListComp elt gens scope pos) d (.ref it) acc env) R s:=by
 refine ZfJ ?_;show wpAny _ _ ((compStart (.ListComp elt gens scope pos) d (.ref it) acc env).onRaise (fun x=>do noteFrame x env;standAt theWindowsPlace)) _ _ s;refine wpAny_notedAt ?_;have n8:(clausesOf (.ListComp elt gens scope pos))[d]? =some ⟨tg,iter,ifs,0⟩:=hg;unfold compStart;rw[n8];show wpAny _ _ (ask >>=_) _ _ s;refine eg (wpAny_askSetting (wpAny_ite ?_));split
 ·first
   |exact eg (Zao (Zao (And.intro rfl h)))
   |exact Zao (And.intro rfl h)
 ·refine eg (Zdu ?_);show wpAny _ _ (standAt iter.pos >>=_) _ _ s;exact eg (Zbg (eg (T.self A i s _ _ st (Zao (And.intro rfl h)))))
def KY (wi:TI)(g:TG)(tt:TT)(ti:TC):TC:=fun ys σ H Q=>wi σ H fun J H1=>gZ g tt ti J ys σ H1 Q
theorem Ie {elt tg iter:Expr}{ifs:List Expr}{gens:List Comprehension}{scope:Scope}{pos:Pos}{d:Nat}{wi:TI}{g:TG}{tt:TT}{ti:TC}
  (hx:Y.xe=fun _ _=>False) (hc:Y.calm=true) (hg:gens[d+1]? =some ⟨tg,iter,ifs,0⟩) (hi:PI Y tg iter wi) (pg:PG Y tg g) (pt:j8 Y ifs tt) (pi:iX Y D (inner elt gens scope pos (d+1) (.ref D) Y.env) ti)
  (hs:∀x,foldedSetIterable iter Y.env x=pure x) (h2:∀g',gens[d+1+1]? =some g'->g'.is_async=0):iX Y D (inner elt gens scope pos d (.ref D) Y.env) (KY wi g tt ti):=by
 intro pins s σ H ys Q k R I f a h hk;unfold inner;rw[hg];have I':=I.pinned (fp:=[D]) (fun b hb=>by rw[Zar.mp hb];exact f) a.gm;refine eg (ZaI (hi _ s σ H _ I' h) (fun v s1 h1=> ?_) fun _ _ z=>by rw[hx]at z;exact z);refine eg (Zbg (eg (Zf8 (hs v) (eg (ZaU (ZaI h1 (fun jN s2 h2=> ?_) fun _ _ z=>by rw[hx]at z;exact z))))));obtain⟨it,fp,tn,J,H2,e,I2,T,bZ,f2,q2⟩:=h2;subst e;obtain⟨a2,n2⟩:=a.through I2;have fD:bb Y pins H2 D:=⟨n2,f.2⟩;have hD:D∉fp:=fun z=>by obtain⟨z1,ae,n,r,e⟩:=a;exact(f2 D z).2.2.2.2.2 (D,_) (Zap _ (Zap _ (ZJ (Zar.mpr rfl) e))) rfl
 have BC:∀b∈fp,bb Y pins H2 b:=fun b hb=>by
  obtain⟨g0,g1,g2,g3,g4,g5⟩:=f2 b hb;exact⟨g0,g1,g2,g3,g4,fun p hp=>g5 p (by
   rcases Zbf.mp hp with z |z
   ·exact Zcj _ z
   ·exact Zap _ (Zcj _ z))⟩
 refine eg (wpAny_runOwn (Zcy (wR hg T bZ (wU (Q:=Q) hx hc hg T BC bZ hD h2 pg pt pi I2.ft fD a2 q2)) fun r s' hr=> ?_));cases r with
 |ok fl=>obtain⟨bp,ah,H',q1,q2,q3,q4⟩:=hr;exact hk s' bp ah H' q1 q2 q3 q4
 |error e=>exact hr.elim
end
section
variable {X:Cx}{pins:List (Addr×Obj)}{σ:St}{H H':Hp}{s s':Shared}
theorem wY {N':List Str}{scope:Scope}{C D:Addr}{fp:List Addr}{ah:St}{ys:List V}{pl:List (Addr×Obj)}{h':Heap}(I:Inv X pins σ H s)(hf:∀b∈fp,bb X pins H b)(hC:s.heap.objs.size<=C)(hD:s.heap.objs.size<=D)(gX:D≠C)
  (J:Inv (aK X N' scope C s H fp) pl ah H' s') (n:H' D=none) (a:AccAt s'.heap D ys) (sb:Heap.SameBut C s'.heap h'):Inv X pins σ (upd H' D (.lst ys)) {s' with heap:=h'} :=by
 have eJ:∀b o,s.heap.get? b=some o->b≠C:=fun b o e=>Zay (Zaw (Zal e) hC);have Af:∀b o,s.heap.get? b=some o->b≠D:=fun b o e=>Zay (Zaw (Zal e) hD);have nk:∀b o,H b=some o->b≠D:=fun b o e=>Zay (Zaw (I.ar.lt e) hD);have fC:H' C=none:=J.free;have u:Un (aU X.stack) fp H H' s.heap s'.heap:=J.base;refine I.wW (s':= {s' with heap:=h'}) (ch:=fp) J.os ⟨fun b o e nb hb hx=> (sb.2 b (eJ b o e)).trans (u.keep b o e nb hb hx),fun b o e nb hb hx=> ?_,fun b o e nb hx=>by rw[Zi (Af b o e)];exact u.free b o e nb hx,fun b o e hx=> ?_,
  fun b xs e=>by rw[Zi (nk b _ e)];exact u.f9 b xs e,fun b o xs e=>by rw[Zi (nk b _ e)];exact u.fN b o xs e,fun b ps e=>by rw[Zi (nk b _ e)];exact u.fv b ps e⟩ (fun b v e=> ?_) J.bare fun b hb=> ?_
 ·obtain⟨sl,q⟩:=u.slot b o e nb hb hx;exact⟨sl,(sb.2 b (eJ b o e)).trans q⟩
 ·obtain⟨o',q⟩:=u.there b o e hx;exact⟨o',(sb.2 b (eJ b o e)).trans q⟩
 ·by_cases hb:b=D
  ·subst hb;rw[Zc]at e;cases e;obtain⟨z,ae,k,r,q⟩:=a;exact⟨z,ae,k,r,(sb.2 b gX).trans q⟩
  ·rw[Zi hb]at e;refine(J.ar b v e).g8 (fun c w hc q=> (sb.2 c ?_).trans q) (fun c q=>by rw[Zi (Zd q n)];exact q) fun c xs q=>by rw[Zi (Zd q n)];exact q
   rcases hc with z |z
   ·rw[z];exact Zd e fC
   ·exact Zd z fC
 ·obtain⟨f0,f1,f2,f3,f4,f5⟩:=hf b hb;exact⟨f3,f1,f4,f5⟩
theorem wV {elt tg iter:Expr}{ifs:List Expr}{rest:List Comprehension}{scope:Scope}{pos:Pos}{N':List Str}{ts:Nat}{bw:List Nat}{it:Addr}{fp:List Addr}{tn:Nat->Heap->Prop}{J:It}{g:TG}{tt:TT}{ti:TC}{Q:List V->Hp->Prop}{E:Value->Shared->Prop}{RR:Value->Addr->Result->Shared->Prop}
  (S:xA X N' ts bw scope) (hc:X.calm=true) (I:Inv X pins σ H s) (T:Turn X.prog X.w X.K X.A.handled tg J fp it tn) (st:tn 0 s.heap) (hf:∀b∈fp,bb X pins H b)
  (h2:∀g',(Comprehension.mk tg iter ifs 0::rest)[0+1]? =some g'->g'.is_async=0)
  (pg:∀C,PG (aK X N' scope C s H fp) tg g) (pt:∀C,j8 (aK X N' scope C s H fp) ifs tt)
  (pi:∀C D,iX (aK X N' scope C s H fp) D (inner elt (⟨tg,iter,ifs,0⟩::rest) scope pos 0 (.ref D) (aK X N' scope C s H fp).env) ti)
  (h:gZ g tt ti J [] (jE ts bw σ) H fun ys _ H2=>Q ys H2)
  (Bq:∀C D s' ah H' ys fl,s.heap.objs.size<=C->s.heap.objs.size<=D->D≠C->Inv (aK X N' scope C s H fp) [] ah H' s'->H' D=none->AccAt s'.heap D ys->Q ys H'->RR (.ref D) C (.ok fl) s'):
  wpAny (model X.prog X.w) X.A (newList []) (fun acc kK=>wpAny (model X.prog X.w) X.A (newFunctionEnv scope X.env.globals (eG scope X.env) [] X.env.qual none .none (some X.env)) (fun tV xZ=>
   codeAny (model X.prog X.w) X.A (.compStart (.ListComp elt (⟨tg,iter,ifs,0⟩::rest) scope pos) 0 (.ref it) acc {tV with scope:=relabel scope X.env}) (RR acc tV.locals) xZ) E kK) E s:=by
 refine ZbB (ZeG S.gm (by intro y hy;simp at hy) (fun bt nW jP=> ?_) S.kind);dsimp only at nW jP |-;generalize jz:s.heap.push {cls:=.type "list",dict:=none,data:=.seq ([]:List Value).toArray} =h0 at nW jP |-;have hC:h0.objs.size=s.heap.objs.size+1:=by rw[<-jz,Zds]
 have gX:s.heap.objs.size≠h0.objs.size:=by rw[hC];exact Zay (ZcZ _)
 have oj:s.heap.objs.size<=h0.objs.size:=by rw[hC];exact ZcJ _
 have eJ:∀b o,s.heap.get? b=some o->b≠h0.objs.size:=fun b o e=>Zay (Zaw (Zal e) oj);have old:∀b o,s.heap.get? b=some o->bt.get? b=some o:=fun b o e=>jP.extBut b o (eJ b o e) (gc _ (jz▸gc _ e));have qt:bt.get? s.heap.objs.size=some {cls:=.type "list",data:=.seq ([]:List Value).toArray 0} :=jP.extBut _ _ gX (gc _ (jz▸Zau _ rfl));have ho:∀b∈fp,∃o,s.heap.get? b=some o:=fun b hb=>let ⟨o,e,_⟩:=T.obj _ _ st b hb;⟨o,e⟩;have I1:Inv (aK X N' scope h0.objs.size s H fp) [] (jE ts bw σ) H {s with heap:=bt,toks:=s.toks+([]:List (Str×Value)).length} :=Hf S I hf ho oj nW old;have fresh:=I.ar.fresh (a:=s.heap.objs.size) (Zaq _);have By:∀b∈fp,bb (aK X N' scope h0.objs.size s H fp) [] H b:=fun b hb=>by obtain⟨f0,f1,f2,f3,f4,f5⟩:=hf b hb;refine⟨f0,(I1.ok.jY b hb).1,I1.ok.jB b hb,.inl hb,(I1.ok.jY b hb).2,fun p hp=>absurd (show p∈([]:List (Addr×Obj)) from hp) (by simp)⟩
 have fD:bb (aK X N' scope h0.objs.size s H fp) [] H s.heap.objs.size:=by
  refine⟨fresh,gX,fun z=> ?_,.inr (Zaq _),fun x c e z=> ?_,fun p hp=>absurd (show p∈([]:List (Addr×Obj)) from hp) (by simp)⟩
  ·obtain⟨_,o,bV,_⟩:=I.stack.mem z;exact absurd (Zal bV) (Zba _)
  ·obtain⟨e1,e2⟩:=YH e;obtain⟨c',bX⟩:=I.ok.has x (S.free _ e2 rfl);obtain⟨v,q⟩:=I.cell x c' bX;rw[bX]at e1;have e3:c=c':=e1;have l:=q.lt;rw[<-e3,z]at l;exact absurd l (Zba _)
 have aD:AccAt bt s.heap.objs.size []:=⟨ZaP _,[],0,.nil,qt⟩;have Bs:s.heap.objs.size∉fp:=fun z=>by obtain⟨o,e⟩:=ho _ z;exact absurd (Zal e) (Zba _)
 have cG:tn 0 bt:=T.keep _ _ _ st fun b _ o e=>old b o e;have run:=wR (elt:=elt) (gens:=⟨tg,iter,ifs,0⟩::rest) (scope:=scope) (pos:=pos) (d:=0) rfl T cG
  (wU (Y:=aK X N' scope h0.objs.size s H fp) (D:=s.heap.objs.size) (Q:=fun ys _ H2=>Q ys H2) (elt:=elt) (gens:=⟨tg,iter,ifs,0⟩::rest) (scope:=scope) (pos:=pos) (d:=0) rfl hc rfl T By cG Bs h2 (pg _) (pt _) (pi _ _) I1 fD aD h)
 refine Zcy run fun r s' hr=> ?_;cases r with
 |error e=>exact hr.elim
 |ok fl=>obtain⟨bp,ah,H',q1,q2,q3,q4⟩:=hr;exact Bq _ _ s' ah H' bp fl oj (Zaq _) gX q1 q2.1 q3 q4
end
def Dj (wi:TI)(ts:Nat)(bw:List Nat)(g:TG)(tt:TT)(ti:TC):TE:=fun σ H Q=>wi σ H fun J H1=>gZ g tt ti J [] (jE ts bw σ) H1 fun ys _ H2=> ∀p,H2 p=none->Q (.ref p) (upd H2 p (.lst ys))
section
variable {X:Cx}{elt tg iter:Expr}{ifs:List Expr}{rest:List Comprehension}{scope:Scope}{pos:Pos}{wi:TI}{g:TG}{tt:TT}{ti:TC}
theorem ZZ (N':List Str)(ts:Nat)(bw:List Nat)(hi:PI X tg iter wi)(pg:∀C s H fp,PG (aK X N' scope C s H fp) tg g)(pt:∀C s H fp,j8 (aK X N' scope C s H fp) ifs tt)
  (pi:∀C s H fp D,iX (aK X N' scope C s H fp) D (inner elt (⟨tg,iter,ifs,0⟩::rest) scope pos 0 (.ref D) (aK X N' scope C s H fp).env) ti)
  (ok:tU X.env.scope scope X.N N' ts bw=true:=by rfl) (hc:X.calm=true:=by rfl) (h2:∀g',(Comprehension.mk tg iter ifs 0::rest)[0+1]? =some g'->g'.is_async=0:=by(intro g' h;cases h<;>rfl))
  (hs:∀x,foldedSetIterable iter X.env x=pure x:=by intro _;rfl):
  PE X (.ListComp elt (⟨tg,iter,ifs,0⟩::rest) scope pos) (Dj wi ts bw g tt ti):=by
 intro pins s σ H Q I h;have S:=Uh ok;rw[eval_ListComp];refine ZdZ (use:=none) rfl hs (Ys fun y hy e=>I.ok.has _ (S.free y hy e)) S.kind S.names (au (hi pins s σ H _ I h) fun v s1 h1=>au h1 fun jN s2 om=> ?_);obtain⟨it,fp,tn,J,H2,e,I2,T,bZ,f2,q2⟩:=om;subst e;refine wV (RR:=fun acc C=>compPost (model X.prog X.w) X.A X.xe none _ acc C) S hc I2 T bZ f2 h2 (fun C=>pg C _ _ _) (fun C=>pt C _ _ _) (fun C D=>pi C _ _ _ D) q2 ?_;intro C D s' ah H' ys fl hC hD gX J' n a q;obtain⟨m,hn,_⟩:=J'.loc;exact⟨m,hn,fun h' sb=> ⟨.ref D,_,wY I2 f2 hC hD gX J' n a sb,rfl,q D n⟩⟩
theorem Y0 (N':List Str)(ts:Nat)(bw:List Nat){i:Nat}{x:Str}{px ra:Pos}(hN:X.N.Nodup)(jw:X.N[i]? =some x)(hx:Loc X.env.scope x)(hi:PI X tg iter wi)(pg:∀C s H fp,PG (aK X N' scope C s H fp) tg g)(pt:∀C s H fp,j8 (aK X N' scope C s H fp) ifs tt)
  (pi:∀C s H fp D,iX (aK X N' scope C s H fp) D (inner elt (⟨tg,iter,ifs,0⟩::rest) scope pos 0 (.ref D) (aK X N' scope C s H fp).env) ti)
  (sd:swapsWith (.ListComp elt (⟨tg,iter,ifs,0⟩::rest) scope pos) (some (.Name x px)) ra.line X.env=pure true:=by rfl)
  (ok:tU X.env.scope scope X.N N' ts bw=true:=by rfl) (hc:X.calm=true:=by rfl) (h2:∀g',(Comprehension.mk tg iter ifs 0::rest)[0+1]? =some g'->g'.is_async=0:=by(intro g' h;cases h<;>rfl))
  (hs:∀x,foldedSetIterable iter X.env x=pure x:=by intro _;rfl) (fK:X.fn x=true∨X.env.scope.names.lookup x=some .local:=by first |exact .inl rfl |exact .inr rfl |assumption):
  PS X (.Assign [.Name x px] (.ListComp elt (⟨tg,iter,ifs,0⟩::rest) scope pos) ra) (qW (Dj wi ts bw g tt ti) (bQ i)):=by
 intro pins s σ H D I h;have S:=Uh ok;rw[exec_Assign_Name_used _ _ _ _ sd];refine eg (Zbg (eg ?_));show wpAny _ X.A (do let _ <-comprehension (.ListComp elt (⟨tg,iter,ifs,0⟩::rest) scope pos) scope X.env _ (newList []) false (eval iter X.env) (some (assign (.Name x px) X.env))) _ _ s;refine eg (ZaI (ZdZ (use:=some (assign (.Name x px) X.env)) (Q:=fun _ s'=> ∃ah H',Inv X pins ah H' s'/\D.nx ah H') rfl hs (Ys fun y hy e=>I.ok.has _ (S.free y hy e)) S.kind S.names
  (au (hi pins s σ H _ I h) fun v s1 h1=>au h1 fun jN s2 om=> ?_)) (fun _ s' hq=>Zao (Zao hq)) fun _ _ e=>e)
 obtain⟨it,fp,tn,J,H2,e,I2,T,bZ,f2,q2⟩:=om;subst e;refine wV (RR:=fun acc C=>compPost (model X.prog X.w) X.A X.xe (some (assign (.Name x px) X.env)) _ acc C) S hc I2 T bZ f2 h2 (fun C=>pg C _ _ _) (fun C=>pt C _ _ _) (fun C D=>pi C _ _ _ D) q2 ?_;intro C B s' ah H' ys fl hC hB sV J' n a q;obtain⟨m,hn,_⟩:=J'.loc;have IX:Inv X pins σ (upd H' B (.lst ys)) s':=wY I2 f2 hC hB sV J' n a (Zff C s'.heap);have fC:=I2.lY (H':=upd H' B (.lst ys)) (b:=C) hC (by rw[Zi (ZcL sV)];exact J'.free);obtain⟨f0,f1,BC,f3,f4,f5⟩:=fC;show wpAny _ X.A (assign (.Name x px) X.env (.ref B)) _ _ s';refine Zfd (JZ (v:=.ref B) (u:=.ref B) IX hN jw hx rfl (fun eU CL ⟨c,sb,iO⟩=> ?_) fK);have Bt:C≠c:=by
  rcases iO with z |z
  ·rw[z];exact f1
  ·exact(f4 x c z).symm
 refine⟨m,Heap.Ns.sameBut hn sb Bt,fun h' yJ=> ?_⟩;refine⟨σ.set i (some (.ref B)),_,CL.turned (t':=eU.toks) (it:=C) (fun b o hb e=> (yJ.2 b hb).trans e) f0 f1 f3 f4 f5,q B n⟩
end
section
variable {X:Cx}
theorem Yi {c:String} :fY X (.builtin "isinstance") (fun xs H Q=> ∃x t b,xs=[x,.ty c]/\dF X.K H x t/\PySem.W.kitOne X.K t (.type c)=some b/\Q (.bl b) H):=by intro pins s σ H xs us Q I r h;obtain⟨x,t,b,rfl,ty,e,q⟩:=h;obtain⟨u,v,rfl,ru,rv⟩:=vals2 r;cases rv;exact X7 I ru ty e fun tk=> ⟨.bl b,H,I.tok tk,rfl,q⟩
theorem Hz (hc:X.calm=true:=by rfl):fY X (.builtin "all") (fun xs H Q=> ∃(p:Addr) (bs:List Bool),xs=[.ref p]/\ao X.K H p (bs.map V.bl)/\Q (.bl (bs.all id)) H):=by
 intro pins s σ H xs us Q I r h;obtain⟨p,bs,rfl,hp,q⟩:=h;obtain⟨u,rfl,ru⟩:=ZfD r;cases ru;obtain⟨ae,rv,pl,hz⟩:=I.list hp;have hb:∀(i:Nat) (v:Value),ae.toArray[i]? =some v->v=.bool (bs.getD i false):=fun i v e=>by
  have e':ae[i]? =some v:=by simpa using e
  have hl:=rv.length;have hi:i<ae.length:=(Zaa.mp e').1;have de:i< (bs.map V.bl).length:=.o;obtain⟨u,hu,ru⟩:=rv.get (i:=i) (x:=(bs.map V.bl)[i]) (by simp);rw[e']at hu;cases hu;rw[List.getElem_map]at ru;have Po:i<bs.length:=by simpa using de
  have e2:bs.getD i false=bs[i]:=by simp[ZcY,Po]
  rw[e2];exact ru
 refine call_all_walk (Zde pl.isList ?_);have bW:p≠s.heap.objs.size:=Zay (by obtain⟨o,n,e,_⟩:=pl;exact Zal e);refine⟨s.heap.objs.size,_,_,_,_,_,fun i=>bs.getD i false,rfl,C6 (A:=X.A.in1) s.heap.objs.size p bW (fun m=>by obtain⟨o,_,q,_⟩:=(I.eC hc).mem m;exact Zba _ (Zal q)) ae.toArray,⟨(I.eC hc).keeps fun b o e=>gc _ e,⟨_,Zau _ rfl,rfl,rfl⟩,pl.isList.at fun o e=>gc _ e⟩,fun i v s' Q' E' hP hQ=> ?_,fun h' tk hk=> ?_⟩
 ·rw[hb i v hP];exact Zcg hQ
 ·have e:(List.range ae.toArray.size).all (fun i=>bs.getD i false)=bs.all id:=by
   have hl:ae.toArray.size=bs.length:=by have:=rv.length;rw[Zae]at this;simpa using this.symm
   rw[hl,Zdg,Zbm,Zbm];constructor
   ·intro h b hb;obtain⟨i,hi,e⟩:=List.mem_iff_getElem.mp hb;have:=h i (ZbC.mpr hi);rw[ZcY,Zax hi,ZeA,e]at this;exact this
   ·intro h i hi;have de:=ZbC.mp hi;rw[ZcY,Zax de,ZeA];exact h _ (ZeB de)
  rw[e];refine⟨.bl (bs.all id),H,I.kept fun b o eb=>hk b o ?_ (gc _ eb),rfl,q⟩;intro z;have e1:b=s.heap.objs.size:=by simpa using z
  exact absurd (Zal eb) (by rw[e1];exact Zba _)
def ph (ns:List Int):Nat:=(PyProof.Rows.firstMet (fun i=>ns.getD i 0) ns.length).length
theorem Uv (hc:X.calm=true:=by rfl):fY X (.type "set") (fun xs H Q=> ∃(p:Addr) (ns:List Int),xs=[.ref p]/\ao X.K H p (ns.map V.int)/\ns.length<=1000/\∀q S,H q=none->Q (.ref q) (upd H q (.set S (ph ns)))):=by
 intro pins s σ H xs us Q I r h;obtain⟨p,ns,rfl,hp,hn,q⟩:=h;obtain⟨u,rfl,ru⟩:=ZfD r;cases ru;obtain⟨ae,rv,pl,hz⟩:=I.list hp;have hl:=rv.length;rw[Zae]at hl;refine Lu (I.eC hc) pl.isList (YG rv) (by rw[Zas,<-hl];unfold scanBound;omega) fun h' tk hs hk=> ?_;have e:ae.toArray.size=ns.length:=by simp[hl]
 rw[e]at hs;exact⟨.ref s.heap.objs.size,_,I.laid (a:=s.heap.objs.size) (o:=.set _ (ph ns)) (fun b o eb=>hk b o (Zal eb) eb) (Zaq _) hs,rfl,q _ _ I.fresh⟩
theorem Ux:fY X (.builtin "len") (fun xs H Q=> ∃p S n,xs=[.ref p]/\H p=some (.set S n)/\Q (.int n) H):=by intro pins s σ H xs us Q I r h;obtain⟨p,S,n,rfl,hp,q⟩:=h;obtain⟨u,rfl,ru⟩:=ZfD r;cases ru;obtain⟨o,es,ep,t,h1,h2,h3,h4,h5,h6,h7,h8⟩:=(show bN X.prog X.w H s.heap p (.set S n) from I.ar p _ hp);refine call_len_set h1 h2 h3 h7 (by have:scanBound=4096:=rfl;omega) ⟨.int n,H,I.tok _,⟨_,by rw[h8]⟩,q⟩
theorem Zbp:fY X (.type "range") (fun xs H Q=> ∃j:Int,xs=[.int j]/\∀q,H q=none->Q (.ref q) (upd H q (.kX 0 j))):=by intro pins s σ H xs us Q I r h;obtain⟨j,rfl,q⟩:=h;obtain⟨u,rfl,ru⟩:=ZfD r;obtain⟨t,rfl⟩:=ru;refine call_range_1 ?_;exact⟨.ref s.heap.objs.size,_,I.laid (a:=s.heap.objs.size) (o:=.kX 0 j) (fun b o eb=>gc _ eb) (Zaq _) ⟨_,_,_,Zau _ rfl⟩,rfl,q _ I.fresh⟩
def upTo (n:Nat):List V:=(List.range n).map fun(i:Nat)=>V.int (i:Int)
theorem Zat {acc:Array Value}{n:Nat}(h:ItemsOf (fun i v=> ∃t,v=.int (0+i*1) t) acc n):Vals (upTo n) acc.toList:=by
 obtain⟨h1,h2⟩:=h;obtain⟨l⟩:=acc;have h1:l.length=n:=h1;have h2:∀(j:Nat) (v:Value),l[j]? =some v->∃t,v=.int (j:Int) t:=fun j v e=>by obtain⟨t,q⟩:=h2 j v (by simpa using e);exact⟨t,by rw[q];congr 1;omega⟩
 have key:∀(l:List Value) (k:Nat),(∀(j:Nat) (v:Value),l[j]? =some v->∃t,v=.int ((k+j:Nat):Int) t)->Vals ((List.range' k l.length).map fun(i:Nat)=>V.int (i:Int)) l:=by
  intro l
  induction l with
  |nil=>intro k _;exact .nil
  |cons v l ih=>intro k h;rw[ZaE,Zfx,ZaQ];obtain⟨t,e⟩:=h 0 v rfl;refine .cons ⟨t,by rw[e];simp⟩ (ih (k+1) fun j w q=> ?_);obtain⟨t',e'⟩:=h (j+1) w (by simpa using q);exact⟨t',by rw[e'];congr 1;omega⟩
 have:=key l 0 (fun j v e=>by simpa using h2 j v e);unfold upTo;rw[<-h1,ZeH];exact this
theorem Uw (hc:X.A.handled=none):fY X (.type "list") (fun xs H Q=> ∃(p:Addr) (j:Int),xs=[.ref p]/\H p=some (.kX 0 j)/\0<=j/\j<=1000/\∀q,H q=none->Q (.ref q) (upd H q (.lst (upTo j.toNat)))):=by
 intro pins s σ H xs us Q I r h;obtain⟨p,j,rfl,hp,h0,h1,q⟩:=h;obtain⟨u,rfl,ru⟩:=ZfD r;cases ru;obtain⟨t,u,v,e⟩:=(show bN X.prog X.w H s.heap p (.kX 0 j) from I.ar p _ hp);refine call_list_range (n:=j.toNat) hc e (small_one .o .o .o .o) (by rw[rangeSize_one];split<;>omega) .o fun h' tk acc c' hk hS qt=> ?_;have r2:=Zat qt;have hlen:(upTo j.toNat).length<=sizeLine:=by unfold upTo;rw[Zae,ZcR,Zaz];omega
 exact⟨.ref s.heap.objs.size,_,I.laid (a:=s.heap.objs.size) (o:=.lst (upTo j.toNat)) hk (Zaq _) ⟨hlen,acc.toList,c',r2,by simpa using hS⟩,rfl,q _ I.fresh⟩
theorem Xh:aZ X (binaryOp .Add) (fun x y H Q=> ∃a b ys,x=.ref a/\y=.ref b/\aq X.K H a []/\aq X.K H b ys/\Q (.ref b) H):=by
 intro pins s σ H x y u v Q I rx ry h;obtain⟨a,b,ys,rfl,rfl,ha,hb,q⟩:=h;cases rx;cases ry;obtain⟨ae,rv,pl,hz⟩:=I.tuple ha;obtain⟨jk,mK,jf,fc⟩:=I.tuple hb;cases rv;obtain⟨⟨cls,dd,data,sl⟩,ho,il,n,hd⟩:=id pl;obtain⟨⟨Gh,l7,data2,fw⟩,iL,df,n2,hd2⟩:=id jf;simp only at il hd df hd2;subst il hd df hd2;exact concat_meets ⟨_,ho,rfl⟩ ⟨_,iL,rfl⟩ Zfv Zgi Zeg Zd6 (ZdY _ _)
   (tuple_addW0 a b #[] jk.toArray n n2 dd l7 sl fw rfl) ⟨ho,iL,⟨.ref b,H,I,rfl,q⟩⟩
end
theorem Y9 {K:ZgE}{a:Addr}{xs:List V}{g:TG}{tt:TT}{ti:TC}{ys:List V}{σ:St}{H:Hp}{Q:List V->St->Hp->Prop}(Pv:Nat->List V->St->Hp->Prop)(h0:Pv 0 ys σ H)
  (hl:∀i ys σ H,i<=xs.length->Pv i ys σ H->aq K H a xs)
  (hs:∀i x ys σ H,xs[i]? =some x->Pv i ys σ H->g x σ H fun bh H2=>tt bh H2 fun b H3=>if b=true then ti ys bh H3 (Pv (i+1)) else Pv (i+1) ys bh H3)
  (hd:∀ys σ H,Pv xs.length ys σ H->Q ys σ H):gZ g tt ti (qL K a) ys σ H Q:=by
 refine⟨fun i m ys σ H=>m=xs.length-i/\i<=xs.length/\Pv i ys σ H,⟨xs.length,by simp,ZaP _,h0⟩,?_⟩;rintro i m ys σ H ⟨rfl,hi,p⟩;have q:=hl i ys σ H hi p;by_cases aI:i<xs.length
 ·refine .inr ⟨⟨xs,xs[i],q,by simp[aI]⟩,Pv (i+1),fun bp ah H' p'=> ⟨xs.length-(i+1),.o,rfl,aI,p'⟩,fun x H' y=> ?_⟩;obtain⟨e,y⟩:=y;subst e;exact hs i x ys σ _ (y xs q) p
 ·have e:i=xs.length:=.o;subst e;exact .inl ⟨⟨xs,q,Zaq _⟩,hd ys σ H p⟩
theorem ZQ {K:ZgE}{a:Addr}{xs:List V}{g:TG}{tt:TT}{ti:TC}{ys:List V}{σ:St}{H:Hp}{Q:List V->St->Hp->Prop}(Pv:Nat->List V->St->Hp->Prop)(h0:Pv 0 ys σ H)
  (hl:∀i ys σ H,i<=xs.length->Pv i ys σ H->ao K H a xs)
  (hs:∀i x ys σ H,xs[i]? =some x->Pv i ys σ H->g x σ H fun bh H2=>tt bh H2 fun b H3=>if b=true then ti ys bh H3 (Pv (i+1)) else Pv (i+1) ys bh H3)
  (hd:∀ys σ H,Pv xs.length ys σ H->Q ys σ H):gZ g tt ti (oQ K a) ys σ H Q:=by
 refine⟨fun i m ys σ H=>m=xs.length-i/\i<=xs.length/\Pv i ys σ H,⟨xs.length,by simp,ZaP _,h0⟩,?_⟩;rintro i m ys σ H ⟨rfl,hi,p⟩;have q:=hl i ys σ H hi p;by_cases aI:i<xs.length
 ·refine .inr ⟨⟨xs,xs[i],q,by simp[aI]⟩,Pv (i+1),fun bp ah H' p'=> ⟨xs.length-(i+1),.o,rfl,aI,p'⟩,fun x H' y=> ?_⟩;obtain⟨e,y⟩:=y;subst e;exact hs i x ys σ _ (y xs q) p
 ·have e:i=xs.length:=.o;subst e;exact .inl ⟨⟨xs,q,Zaq _⟩,hd ys σ H p⟩
theorem Y5 {lo:Int}{n:Nat}{g:TG}{tt:TT}{ti:TC}{ys:List V}{σ:St}{H:Hp}{Q:List V->St->Hp->Prop}(Pv:Nat->List V->St->Hp->Prop)(h0:Pv 0 ys σ H)
  (hs:∀i ys σ H,i<n->Pv i ys σ H->g (.int (lo+i)) σ H fun bh H2=>tt bh H2 fun b H3=>if b=true then ti ys bh H3 (Pv (i+1)) else Pv (i+1) ys bh H3)
  (hd:∀ys σ H,Pv n ys σ H->Q ys σ H):gZ g tt ti (oO lo n) ys σ H Q:=by
 refine⟨fun i m ys σ H=>m=n-i/\i<=n/\Pv i ys σ H,⟨n,by simp,ZaP _,h0⟩,?_⟩;rintro i m ys σ H ⟨rfl,hi,p⟩;by_cases aI:i<n
 ·refine .inr ⟨aI,Pv (i+1),fun bp ah H' p'=> ⟨n-(i+1),.o,rfl,aI,p'⟩,fun x H' y=> ?_⟩;obtain⟨e,y⟩:=y;subst e y;exact hs i ys σ _ aI p
 ·have e:i=n:=.o;subst e;exact .inl ⟨Zaq _,hd ys σ H p⟩
theorem pb {X:Cx}{N':List Str}{scope:Scope}{C:Addr}{s:Shared}{H:Hp}{fp:List Addr}(i:Nat){x:Str}{pos:Pos}(hN:N'.Nodup:=by decide+kernel)(hi:N'[i]? =some x:=by rfl)(hx:(relabel scope X.env).names.lookup x=some .local:=by rfl):
  PG (aK X N' scope C s H fp) (.Name x pos) (bQ i):=Zx (X:=aK X N' scope C s H fp) hN hi (.inl hx) (.inr hx)
def Def (P:Program)(w:World)(K:ZgE)(mg:Str->Option Value)(base:Heap)(k:Nat)(x:Str)(ps:List Str)(sp:Sp):Prop:=
 ∃f fd,aw P w K mg base aF k f fd ps sp/\mg x=some (.ref f)/\PySem.W.keepIn K (.ref f)=true/\Binds K fd ps []
section
variable {X:Cx}{k:Nat}{x:Str}{ps:List Str}{sp:Sp}{e:Expr}{es:List Expr}{t:TA}{p pos:Pos}
theorem Zh (d:Def X.prog X.w X.K X.mg X.base k x ps sp)(hr:bf k X.A)(ha:PA X (e::es) t)(hg:Gl X x:=by rfl)(gz:(x==("__debug__" :Str))=false:=by decide)
  (he:starEach (e::es) X.env=(false,eval e X.env)::starEach es X.env:=by rfl) (cA:(backTo pos (starEach es X.env)).any (·.1)=false:=by rfl) (hc:X.calm=true:=by rfl):
  PE X (.Call (.Name x p) (e::es) [] pos) (kJ sp [] E0 t):=by
 obtain⟨f,fd,F,hm,hk,hb⟩:=d;exact Hs F hr hg hm hk hb .nil rC ha gz he cA hc
end
def md (K:ZgE)(H:Hp)(x:V):Prop:=∃T,dF K H x (.type T)
def whole:V->Bool
 | .int _=>true
 |_=>false
def cY:V->Int->Int->Bool
 | .int i,a,b=>decide (a<=i)&&decide (i<=b)
 |_,_,_=>false
def xO:Option HO->Option (List V)
 |some (.tup xs)=>some xs
 |_=>none
def dq (H:Hp):V->Option (List V)
 | .ref a=>xO (H a)
 |_=>none
theorem Yz {H:Hp}{a:Addr} :dq H (.ref a)=xO (H a):=rfl
theorem ZI {H:Hp}{a:Addr}{xs:List V}(h:H a=some (.tup xs)):dq H (.ref a)=some xs:=by rw[Yz,h];rfl
theorem XW {o:Option HO}{xs:List V}(h:xO o=some xs):o=some (.tup xs):=by
 cases o with
 |none=>cases h
 |some o=>cases o<;>first |(cases h;rfl) |cases h
theorem ZB {H:Hp}{x:V}{xs:List V}(h:dq H x=some xs):∃a,x=.ref a/\H a=some (.tup xs):=by
 cases x with
 |ref a=>exact⟨a,rfl,XW h⟩
 |_=>cases h
theorem ak.dq {H H':Hp}(s:ak H H'){x:V}{xs:List V}(h:L2.dq H x=some xs):L2.dq H' x=some xs:=by obtain⟨a,rfl,q⟩:=ZB h;exact ZI (s _ _ q)
theorem ak.DO {K:ZgE}{H H':Hp}(s:ak H H'){x:V}(h:md K H x):md K H' x:=by
 obtain⟨T,t⟩:=h;cases t with
 |ag=>exact⟨_,.ag⟩
 |bl y=>exact⟨_,.bl y⟩
 |int i=>exact⟨_,.int i⟩
 |str y=>exact⟨_,.str y⟩
 |jX y=>exact⟨_,.jX y⟩
 |lst e=>exact⟨_,.lst (s _ _ e)⟩
 |dA e=>exact⟨_,.dA (s _ _ e)⟩
 |tup e=>exact⟨_,.tup (s _ _ e)⟩
 |dK e=>exact⟨_,.dK (s _ _ e)⟩
 |dT e=>exact⟨_,.dT (s _ _ e)⟩
def Ay:V->Bool
 | .int _=>true
 | .bl _=>true
 |_=>false
def Es:V->Bool
 | .bl _=>true
 |_=>false
theorem Te {K:ZgE}{H:Hp}{x:V}{T:String}(t:dF K H x (.type T)):PySem.W.kitOne K (.type T) (.type "int")=some (Ay x):=by cases t<;>rfl
theorem Vk {K:ZgE}{H:Hp}{x:V}{T:String}(t:dF K H x (.type T)):PySem.W.kitOne K (.type T) (.type "bool")=some (Es x):=by cases t<;>rfl
theorem Zc4 {K:ZgE}{H:Hp}{x:V}{T:String}(t:dF K H x (.type T)):PySem.W.kitOne K (.type T) (.type "tuple")=some (dq H x).isSome:=by
 cases t with
 |tup e=>rw[ZI e];rfl
 |lst e=>rw[Yz,e];rfl
 |dA e=>rw[Yz,e];rfl
 |dK e=>rw[Yz,e];rfl
 |dT e=>rw[Yz,e];rfl
 |_=>rfl
theorem Za7 (x:V):whole x=(Ay x&& !Es x):=by cases x<;>rfl
def KL (i j k:Nat)(ta:TA):TS:=fun D σ H=>ta σ H fun vs H1=> ∃v w z,vs=[v,w,z]/\D.nx (((σ.set k (some z)).set j (some w)).set i (some v)) H1
theorem Vr {X:Cx}{pos:Pos}{i j k:Nat}{x y z:Str}{a b c:Expr}{ta:TA}{px py pz pt:Pos}{kt k2 mT}(hc:X.calm=true)(hN:X.N.Nodup)(hi:X.N[i]? =some x)(hj:X.N[j]? =some y)(hk:X.N[k]? =some z)
  (hx:X.env.scope.names.lookup x=some .local) (hy:X.env.scope.names.lookup y=some .local) (hz:X.env.scope.names.lookup z=some .local) (ha:PA X [a,b,c] ta)
  (hw:swappedStores [.Tuple [.Name x px,.Name y py,.Name z pz] kt pt] (.Tuple [a,b,c] k2 mT) X.env=pure (some [x,y,z]):=by rfl)
  (hs:swapsWithSole [.Tuple [.Name x px,.Name y py,.Name z pz] kt pt] (.Tuple [a,b,c] k2 mT) pos.line X.env=pure false:=by rfl):
  PS X (.Assign [.Tuple [.Name x px,.Name y py,.Name z pz] kt pt] (.Tuple [a,b,c] k2 mT) pos) (KL i j k ta):=by
 intro pins s σ H D I h;rw[exec_Assign_arm];refine eg (Zbg ?_);rw[hs];refine eg (Zao ?_);rw[ZaD .d];refine eg (Tuple_ (au (ha _ pins s σ H _ I h) fun us s1 ⟨vs,H1,I1,r1,q1⟩=> ?_));obtain⟨v,w,t,e1,q1⟩:=q1;subst e1;obtain⟨u1,u2,u3,rfl,rv,gL,rt⟩:∃u1 u2 u3,us=[u1,u2,u3]/\RelV v u1/\RelV w u2/\RelV t u3:=by
  cases r1 with
  |cons p q=>
   cases q with
   |cons p' q'=>
    cases q' with
    |cons MO Mt=>cases Mt;exact⟨_,_,_,rfl,p,p',MO⟩
 refine ZbB ?_ ke;have I2:Inv X pins σ H1 {s1 with heap:=s1.heap.push {cls:=.type "tuple",data:=.seq [u1,u2,u3].toArray} } :=I1.kept (t':=s1.toks) fun b o e=>gc _ e;rw[hw];refine eg (Zao ?_);show wpAny (model X.prog X.w) X.A (do rule "assign.swapped-stores";let items <-unpackItems (.ref s1.heap.objs.size) 3 none;assignInOrder [fun v=>bindName X.env z v,fun v=>bindName X.env y v,fun v=>bindName X.env x v] items.reverse;pure Flow.next) _ _ _;refine eg (Zdu (eg (xG (items:= #[u1,u2,u3]) ((I1.eC hc).keeps fun b o q=>gc _ q) (IsTup.new s1.heap _) fun h' iK=> ?_)));have I3:=I2.kept (h':=h') (t':=s1.toks) fun b o e=>iK b o (Zay (Zal e)) e;show wpAny _ _ (assignInOrder [fun v=>bindName X.env z v,fun v=>bindName X.env y v,fun v=>bindName X.env x v] [u3,u2,u1] >>=fun _=>pure Flow.next) _ _ _;refine eg (Zcu (Zer (Yj I3 hN hk (.inl hz) rt (fun s2 I4=> ?_) (.inr hz))));refine Zcu (Zer (Yj I4 hN hj (.inl hy) gL (fun s3 I5=> ?_) (.inr hy)));refine Zcu (Zer (Yj I5 hN hi (.inl hx) rv (fun s4 I6=>Zel (Zao ?_)) (.inr hx)));exact⟨_,H1,I6,q1⟩
def aV (p:Addr)(H H':Hp):Prop:=∀b o,H b=some o->b≠p->H' b=some o
theorem aV.refl (p:Addr)(H:Hp):aV p H H:=fun _ _ h _=>h
theorem aV.trans {p:Addr}{H H1 H2:Hp}(a:aV p H H1)(b:aV p H1 H2):aV p H H2:=fun c o h n=>b c o (a c o h n) n
theorem ak.x {p:Addr}{H H1:Hp}(a:ak H H1):aV p H H1:=fun c o h _=>a c o h
theorem aV.upd {p:Addr}{H:Hp}{o:HO} :aV p H (L2.upd H p o):=fun b u h n=>by rw[Zi n];exact h
theorem newX (H:Hp)(p:Addr)(o:HO):∃H',upd H p o=H'/\aV p H H':=⟨_,rfl,aV.upd⟩
theorem da {H:Hp}{t:Addr}{o:HO}(h:H t=none):∃H',upd H t o=H'/\ak H H'/\H' t=some o:=⟨_,rfl,fun b u hb=>by rw[Zi (Zd hb h)];exact hb,Zc⟩
theorem T9 {X:Cx}(hu:X.A.units<cLine):aZ X (compareOp .Eq) (fun x y H Q=> ∃(a b:Addr) (xs:List V),x=.ref a/\y=.ref b/\ao X.K H a xs/\ao X.K H b []/\Q (.bl xs.isEmpty) H):=by
 intro pins s σ H x y u v Q I rx ry h;obtain⟨a,b,xs,rfl,rfl,ha,hb,q⟩:=h;cases rx;cases ry;obtain⟨ae,rv,pl,hz⟩:=I.list ha;obtain⟨jk,mK,jf,fc⟩:=I.list hb;cases mK;cases rv with
 |nil=>exact SeqAt.eq_listAt (e:=fun _=>true) pl.isList jf.isList rfl hu (fun j h1 h2=>absurd h2 (by simp)) ⟨.bl true,H,I,rfl,q⟩
 |cons r t=>exact SeqAt.eq_list_lengthsAt pl.isList jf.isList (by simp) hu ⟨.bl false,H,I,rfl,q⟩
structure Fl (P:Program)(w:World)(hd:Option Value)(outer:List Env)(H:Hp)(s:Shared)(e C:Addr)(H':Hp)(s':Shared):Prop where
 os:s'.os=s.os
 bare:AllBare s'.gens
 un:Un (aU outer) [] H H' s.heap s'.heap
 ar:bC P w H' s'.heap
 wH:∃B a0 c,qN B outer e (.ref C) a0 c s'.heap/\(hd=none->c=.none)/\(∀b o,s.heap.get? b=some o->b∉aU outer->∃u,B.get? b=some u)/\∀b o,H' b=some o->∃u,B.get? b=some u
def bc (P:Program)(w:World):fZ:=fun hd outer H s E ev s'=> ∃e C H',ev=.ref e/\Fl P w hd outer H s e C H' s'/\E (.ref e) (some C) H'
section
variable {P:Program}{w:World}{base:Heap}{env:Env}{outer:List Env}{s0 s1 s2:Shared}{H0 H1 H2:Hp}{e C L:Addr}{A:Around}
theorem YY {B h1 h2:Heap}{H:Hp}(x:bC P w H h1)(bG:∀b o,H b=some o->∃u,B.get? b=some u)(k1:B.StaysIn h1)(k2:B.StaysIn h2):bC P w H h2:=fun a o ha=>
  (x a o ha).g8 (fun b u hb hq=>by
    have:∃u',B.get? b=some u':=by
      rcases hb with rfl |hb
      · exact bG _ _ ha
      · exact bG _ _ hb
    obtain⟨u',hu⟩:=this;have e1:=k1 b u' hu;rw[hq]at e1;cases e1;exact k2 b _ hu) (fun _ q=>q) fun _ _ q=>q
theorem Wz {B h':Heap}(u0:Un (aU outer) [] H0 H1 s0.heap s1.heap)(u1:Un (aU (env::outer)) [] H1 H2 s1.heap s2.heap)(hf:env.frame=some L)(ab:s0.heap.objs.size<=L)(fu:s0.heap.FunFrames base outer)(fz:∀b∈aU outer,H0 b=none)
  (bG:∀b o,s1.heap.get? b=some o->b∉aU (env::outer)->∃u,B.get? b=some u) (k1:B.StaysIn s2.heap) (k2:B.StaysIn h') (up:s2.heap.UpToSlots h'):Un (aU outer) [] H0 H2 s0.heap h':=by
 have ik:∀b,b∈aU (env::outer)↔b=L∨b∈aU outer:=fun b=>by show b∈(env::outer).filterMap (·.frame)↔_;rw[Zdi (f:=fun(x:Env)=>x.frame) (a:=env) (b:=L) hf,Zaf];exact Iff.rfl
 have out:∀b o,s0.heap.get? b=some o->b∉aU outer->b∉aU (env::outer):=fun b o hb hn hm=>by
  rcases (ik b).mp hm with q |q
  ·rw[q]at hb;exact absurd (Zaw (Zal hb) ab) (Zba _)
  ·exact hn q
 have rR:∀b o u,s2.heap.get? b=some o->B.get? b=some u->h'.get? b=some o:=fun b o u hb hu=>by have e1:=k1 b u hu;rw[hb]at e1;cases e1;exact k2 b _ hu
 have jJ:∀b o,s0.heap.get? b=some o->b∈aU outer->∃sl,h'.get? b=some {o with slots:=sl} :=fun b o hb hm=>by obtain⟨_,o',bV,nf⟩:=fu.mem hm;rw[hb]at bV;cases bV;obtain⟨mC,e1⟩:=u0.slot b o hb (fz b hm) hm (by simp);have n1:=u0.free b o hb (fz b hm) (by simp);obtain⟨fw,e2⟩:=u1.slot b _ e1 n1 ((ik b).mpr (.inr hm)) (by simp);obtain⟨uY,e3⟩:=up b _ e2 nf;exact⟨uY,e3⟩
 refine⟨fun b o hb hn cT _=> ?_,fun b o hb hn hm _=>jJ b o hb hm,fun b o hb hn hx=> ?_,fun b o hb _=> ?_,fun b xs hb=>u1.f9 b xs (u0.f9 b xs hb),fun b o u hb=>u1.fN b o u (u0.fN b o u hb),fun b ps hb=> ?_⟩
 ·have e1:=u0.keep b o hb hn cT (by simp);have n1:=u0.free b o hb hn (by simp);have dP:=out b o hb cT;have e2:=u1.keep b o e1 n1 dP (by simp);obtain⟨u,hu⟩:=bG b o e1 dP;exact rR b o u e2 hu
 ·obtain⟨o1,e1⟩:=u0.there b o hb (by simp);have n1:=u0.free b o hb hn (by simp);exact u1.free b o1 e1 n1 (by simp)
 ·by_cases hm:b∈aU outer
  ·obtain⟨sl,q⟩:=jJ b o hb hm;exact⟨_,q⟩
  ·obtain⟨o1,e1⟩:=u0.there b o hb (by simp);obtain⟨u,hu⟩:=bG b o1 e1 (out b o hb hm);exact⟨u,k2 b u hu⟩
 ·obtain⟨m1,q1⟩:=u0.fv b ps hb;obtain⟨m2,q2⟩:=u1.fv b _ q1;exact⟨m1++m2,by rw[q2,Array.append_assoc]⟩
end
theorem vB {P:Program}{w:World}{K:ZgE}{mg:Str->Option Value}{base:Heap}{N:List Str}{qual:Str}{scope:Scope}{f:Addr}{cd:Value}{A:Around}{outer:List Env}{s:Shared}{H:Hp}{E:XK} :
  Passes (bc P w) (ck (bc P w) P w K mg base N qual scope f cd A outer s H E) E:=by
 intro pins σ H1 s1 ev s2 I h;obtain⟨e,C,H',rfl,F,hE⟩:=h;obtain⟨B,a0,c,fl,sN,bG,dS⟩:=F.wH;refine El (L:=s.heap.objs.size) I.ok.frames rfl fl fun h' ow up=> ?_;refine⟨e,C,H',rfl,⟨F.os.trans I.os,F.bare,Wz (base:=base) (L:=s.heap.objs.size) I.base F.un rfl (Zaq _) I.ok.dg I.ok.gB bG fl.1.1 ow.1.1 up,YY F.ar dS fl.1.1 ow.1.1,B,a0,c,ow,sN,fun b o hb hn=> ?_,dS⟩,hE⟩;obtain⟨o1,e1⟩:=I.base.there b o hb (by simp[ck]);refine bG b o1 e1 fun hm=> ?_;have jt:b∈(envOfC qual scope s.heap.objs.size f cd::outer).filterMap (·.frame):=hm;rw[Zdi (f:=fun(x:Env)=>x.frame) (a:=envOfC qual scope s.heap.objs.size f cd) (b:=s.heap.objs.size) rfl]at jt;rcases Zaf.mp jt with q |q
 ·rw[q]at hb;exact absurd (Zal hb) (Zba _)
 ·exact hn q
theorem SY {K:ZgE}{h:Heap}{C:Addr}{l8:List Value}{newId:String}(X:K.In h)(q:PySem.W.excIn K C l8 newId=true):
  ∃bm N nm qn bs hdct sn sub ab col dd k0 k1 k2 k3 k5 mN,h.get? C=some (excClassObj nm qn C N bs bm hdct sn sub ab col dd k0 k1 k2 k3 k5 newId)/\h.Ns N mN/\mN "__init__" =none/\OwnTail h l8 bm:=by
 unfold PySem.W.excIn at q;split at q
 ·rename_i dd cd sl lk;split at q
  ·rename_i c2 bm j0 j1 j2 j3 nn j5 em es;rw[ZaJ,ZaJ,ZaJ,ZaJ,ZaJ]at q;obtain⟨⟨⟨⟨⟨q1,q2⟩,q3⟩,q4⟩,q5⟩,q6⟩:=q;have z1:=Zco.mp q1;have z2:=Zco.mp q2;have z6:=Zco.mp q6;subst z1 z2;have ob:=X _ _ lk;have z3:cd.hasDel=false:=by revert q3;cases cd.hasDel<;>simp
   have zs:sl= #[j0,j1,j2,j3,some (.builtin nn),j5]:=by apply Zfy.mp;rw[es]
   refine⟨bm,cd.ns,cd.name,cd.qualname,cd.bases,cd.hasDict,cd.slotNames,cd.subclasses,cd.abstract,cd.collection,dd,j0,j1,j2,j3,j5,h.nsMap cd.ns,?_,.of_isNs (PySem.W.isNs_of_in X q5),PySem.W.nsMap_none_of_in X q5 z6,PySem.W.tail_of_in X q4⟩;rw[ob,zs];obtain⟨a1,a2,a3,a4,a5,a6,a7,a8,a9,a10,a11⟩:=cd;cases em;cases z3;rfl
  ·cases q
 ·cases q
def KI (C:Addr)(E:XK)(ta:TA):TS:=fun _ σ H=>ta σ H fun vs H1=>vs.length<=sizeLine/\∀e,E (.ref e) (some C) H1
theorem ZaS {P:Program}{w:World}{K:ZgE}{mg:Str->Option Value}{base:Heap}{N:List Str}{qual:Str}{scope:Scope}{f:Addr}{cd:Value}{A:Around}{outer:List Env}{s s1:Shared}{H H1:Hp}{E:XK}
  {pins:List (Addr×Obj)}{σ:St}{h':Heap}{e C:Addr} (I:Inv (ck (bc P w) P w K mg base N qual scope f cd A outer s H E) pins σ H1 s1) (mk:MadeX s1.heap h' e (.ref C) (BP A.handled)) (hE:E (.ref e) (some C) H1):
  (ck (bc P w) P w K mg base N qual scope f cd A outer s H E).xe (.ref e) {s1 with heap:=h'} :=by
 have Ba:∀env∈(envOfC qual scope s.heap.objs.size f cd::outer),∀b,env.frame=some b->b∈aU (envOfC qual scope s.heap.objs.size f cd::outer):=fun env he b hb=>Zck.mpr ⟨env,he,hb⟩;have st:=I.stack;refine NP (L:=s.heap.objs.size) (base:=PySem.W.hideAll s1.heap (aU (envOfC qual scope s.heap.objs.size f cd::outer))) (h:=s1.heap) I.ok.frames rfl (fun b o q=>Zd4 _ q) (PySem.W.funFrames_hide st Ba) mk fun h2 a0 fl up=> ?_;have bG:∀b o,s1.heap.get? b=some o->b∉aU (envOfC qual scope s.heap.objs.size f cd::outer)->∃u,(PySem.W.hideAll s1.heap (aU (envOfC qual scope s.heap.objs.size f cd::outer))).get? b=some u:=fun b o hb hn=> ⟨o,ZeM _ hb hn⟩;have dS:∀b o,H1 b=some o->∃u,(PySem.W.hideAll s1.heap (aU (envOfC qual scope s.heap.objs.size f cd::outer))).get? b=some u:=fun b o hb=>by
  have hl:=I.ar.lt hb;have hx:∃u,s1.heap.get? b=some u:=by
   have ok:=I.ar b o hb;cases o with
   |lst xs=>obtain⟨_,_,_,_,q⟩:=ok;exact⟨_,q⟩
   |tup xs=>obtain⟨_,_,_,⟨ob,q,_⟩,_⟩:=ok;exact⟨_,q⟩
   |par xs=>obtain⟨_,_,_,ob,q,_⟩:=ok;exact⟨_,q⟩
   |dK ai=>obtain⟨_,_,_,_,ob,_,_,q,_⟩:=ok;exact⟨_,q⟩
   |dT ai=>obtain⟨_,_,_,_,ob,_,_,q,_⟩:=ok;exact⟨_,q⟩
   |set S n=>obtain⟨ob,_,_,_,q,_⟩:=ok;exact⟨_,q⟩
   |ins C dx fs=>obtain⟨_,_,_,q,_⟩:=ok;exact⟨_,q⟩
   |own y=>exact ok
   |xd fs=>obtain⟨_,⟨_,_,_,q,_⟩,_⟩:=ok;exact⟨_,q⟩
   |kX lo hi=>obtain⟨_,_,_,q⟩:=ok;exact⟨_,q⟩
   |dA ob u=>exact⟨_,ok.1⟩
   |bM ps=>exact⟨_,(show s1.heap.get? b=some _ from ok)⟩
   |met f y=>exact⟨_,(show s1.heap.get? b=some _ from ok)⟩
   |ext φ=>exact ok.2.1
  obtain⟨u,hu⟩:=hx;exact bG b u hu fun hm=>by have:=I.oU b hm;rw[this]at hb;cases hb
 have k1:Heap.StaysIn (PySem.W.hideAll s1.heap (aU (envOfC qual scope s.heap.objs.size f cd::outer))) h':=fun b o q=>mk.keeps b o (Zd4 _ q);refine⟨e,C,H1,rfl,⟨I.os,I.bare,Wz (s1:=s1) (s2:= {s1 with heap:=h'}) (base:=base) (L:=s.heap.objs.size) I.base (Un.kept mk.keeps) rfl (Zaq _) I.ok.dg I.ok.gB bG k1 fl.1.1 up,YY (I.ar.kept mk.keeps) dS k1 fl.1.1,_,_,_,fl,fun z=> (by rw[z];rfl),fun b o hb hn=> ?_,dS⟩,hE⟩;obtain⟨o1,e1⟩:=I.base.there b o hb (by simp[ck]);refine bG b o1 e1 fun hm=> ?_;have jt:b∈(envOfC qual scope s.heap.objs.size f cd::outer).filterMap (·.frame):=hm;rw[Zdi (f:=fun(x:Env)=>x.frame) (a:=envOfC qual scope s.heap.objs.size f cd) (b:=s.heap.objs.size) rfl]at jt;rcases Zaf.mp jt with q |q
 ·rw[q]at hb;exact absurd (Zal hb) (Zba _)
 ·exact hn q
theorem YV {P:Program}{w:World}{K:ZgE}{mg:Str->Option Value}{base:Heap}{N:List Str}{qual:Str}{scope:Scope}{f:Addr}{cd:Value}{A:Around}{outer:List Env}{s:Shared}{H:Hp}{E:XK}{x:Str}{C:Addr}{B newId Az:String}{l8:List Value}
  {oA:Expr}{rest:List Expr}{np bB pos:Pos}{ta:TA} (FB:ExcBaseFacts B newId Az l8) (hmg:mg x=some (.ref C)) (hex:PySem.W.excIn K C l8 newId=true) (hg:Gl (ck (bc P w) P w K mg base N qual scope f cd A outer s H E) x)
  (ha:PA (ck (bc P w) P w K mg base N qual scope f cd A outer s H E) (oA::rest) ta)
  (he:starEach (oA::rest) (envOfC qual scope s.heap.objs.size f cd)=(false,eval oA (envOfC qual scope s.heap.objs.size f cd))::starEach rest (envOfC qual scope s.heap.objs.size f cd):=by rfl)
  (cA:(backTo bB (starEach rest (envOfC qual scope s.heap.objs.size f cd))).any (·.1)=false:=by rfl) (hd:(x==("__debug__" :Str))=false:=by decide):
  PS (ck (bc P w) P w K mg base N qual scope f cd A outer s H E) (.Raise (some (.Call (.Name x np) (oA::rest) [] bB)) none pos) (KI C E ta):=by
 intro pins s1 σ H1 D I h;obtain⟨bm,Nn,nm,qn,bs,hdct,sn,sub,ab,col,dd,k0,k1,k2,k3,k5,mN,hC,hN,AW,T⟩:=SY I.mod.kA hex;refine Me (C:=C) (nm:=nm) (q:=qn) (N:=Nn) (bs:=bs) (bm:=bm) (hdct:=hdct) (sn:=sn) (sub:=sub) (ab:=ab) (col:=col) (dd:=dd) (k0:=k0) (k1:=k1) (k2:=k2) (k3:=k3) (k5:=k5)
  FB (mN:=mN) (T.hasType FB.hasBase) ?_ AW (YL I hg hmg ⟨rfl,?_⟩ hd)
 ·show(backTo bB (starEach (oA::rest) (envOfC qual scope s.heap.objs.size f cd))).any (·.1)=false;rw[he];show(false||(backTo bB (starEach rest (envOfC qual scope s.heap.objs.size f cd))).any (·.1))=false;rw[cA];rfl
 ·have q:=ha bB pins s1 σ H1 _ I h;show wpAny _ _ (evalArgs (.ref C) true (backTo bB (starEach (oA::rest) (envOfC qual scope s.heap.objs.size f cd))) []) _ _ _;have q':wpAny (model P w) (A.deeper (envOfC qual scope s.heap.objs.size f cd)) (spliced (backTo bB (starEach (oA::rest) (envOfC qual scope s.heap.objs.size f cd)))) _ _ s1:=q;rw[he]at q' |-;refine ZdS (ZaI q' (fun us s2 h2=> ?_) fun _ _ y=>y);obtain⟨vs,H2,I2,r,hz,hE⟩:=h2;refine⟨rfl,by rw[<-r.length];exact hz,I2.bk _ _ hC,hN.keeps I2.bk,T.keeps I2.bk,I2.eC rfl,fun h' e mk=> ?_⟩;exact ZaS I2 mk (hE e)
section
variable {P:Program}{w:World}{K:ZgE}{mg:Str->Option Value}{base:Heap}
theorem aE.eW {x qual:Str}{st:Stmt}{f:Addr}{fd:FuncData}{N ps:List Str}{k:Nat}{sp:Sp}(F:aE K x qual st f fd)(S:aH N ps (ay st))(len:∀vs H Q E,sp vs H Q E->vs.length=ps.length)
    (hb:∀(cdv:Value) (A:Around) (outer:List Env) (s:Shared) (H:Hp) (vs:List V) (Q:VK) (E:XK),bf k (A.deeper (envOfC qual (ay st) s.heap.objs.size f cdv))->sp vs H Q E->
      ∃t,dG (ck (bc P w) P w K mg base N qual (ay st) f cdv A outer s H E) (cE st) t/\t {nx:=fun _ H'=>Q .ag H',rt:=Q} (start N vs) H):aw P w K mg base (bc P w) (k+1) f fd ps sp:=by
  obtain⟨oc,od,kV,doc,pm,an,cdv,ct,dZ,rfl,lk,cV⟩:=F.ex;exact BX lk cV S len fun A outer s H vs Q E hr dc=>hb cdv A outer s H vs Q E hr dc
def dW (P:Program)(w:World)(K:ZgE)(mg:Str->Option Value)(base:Heap)(k:Nat)(x:Str)(ps:List Str)(sp:Sp):Prop:=
 ∃f fd,aw P w K mg base (bc P w) k f fd ps sp/\mg x=some (.ref f)/\PySem.W.keepIn K (.ref f)=true/\Binds K fd ps []
theorem Z6 {N:List Str}{qual:Str}{scope:Scope}{f:Addr}{cd:Value}{A:Around}{outer:List Env}{s:Shared}{H:Hp}{E:XK}{k:Nat}{x:Str}{ps:List Str}{sp:Sp}{e:Expr}{es:List Expr}{t:TA}{p pos:Pos}
  (d:dW P w K mg base k x ps sp) (hr:bf k (A.deeper (envOfC qual scope s.heap.objs.size f cd))) (ha:PA (ck (bc P w) P w K mg base N qual scope f cd A outer s H E) (e::es) t) (hg:Gl (ck (bc P w) P w K mg base N qual scope f cd A outer s H E) x:=by rfl)
  (gz:(x==("__debug__" :Str))=false:=by decide)
  (he:starEach (e::es) (envOfC qual scope s.heap.objs.size f cd)=(false,eval e (envOfC qual scope s.heap.objs.size f cd))::starEach es (envOfC qual scope s.heap.objs.size f cd):=by rfl)
  (cA:(backTo pos (starEach es (envOfC qual scope s.heap.objs.size f cd))).any (·.1)=false:=by rfl):
  PE (ck (bc P w) P w K mg base N qual scope f cd A outer s H E) (.Call (.Name x p) (e::es) [] pos) (kJ sp [] E t):=by
 obtain⟨g,fd,F,hm,hk,hb⟩:=d;exact Hs F hr hg hm hk hb .nil vB ha gz he cA
end
end L2
namespace L2
open PySem PySem.Spec PyProof.Rows PySem.Builtin PySem.Builtin.ObjectAttr PySem.Builtin.Getset_descriptor
def lZ (e C:Addr):HO:=.ext fun h=> ∃o,h.get? e=some o/\o.cls=.ref C
structure oR (K:ZgE)(C:Addr):Prop where
 ga:PySem.W.findIn K (.ref C) "__getattribute__" =some (some (.builtin "BaseException.__getattribute__"))
 hook:PySem.W.findIn K (.ref C) "__getattr__" =some none
 cl:PySem.W.findIn K (.ref C) "__class__" =some (some (.builtin "object.__class__"))
 ob:PySem.W.mroIn K C (.type "object")=some true
 bx:PySem.W.mroIn K C (.type "BaseException")=some true
 cls:(PySem.W.clsIn K C).isSome=true
section
variable {prog:Program}{w:World}{A:Around}{E:Value->Shared->Prop}{s:Shared}{K:ZgE}{e C:Addr}{o:Obj}{R:Result->Shared->Prop}
theorem JB {M:Model}{h:Heap}(hx:h.get? e=some o)(hc:o.cls=.ref C):PySem.W.Looks M h (typeOf (.ref e)) (.ref C):=hc▸(PySem.W.Looks.ld hx).andThen .now
theorem Ve {tp:Value}(X:K.In s.heap)(hx:s.heap.get? e=some o)(hc:o.cls=.ref C)(Z:oR K C)(h:R (.ok (.ret (.ref C))) s):
  codeAny (model prog w) A (.call (.builtin "getset_descriptor.__get__") ⟨[.builtin "object.__class__",.ref e,tp],[]⟩) R s:=by
 obtain⟨h0,g0,d0,t0,o0⟩:=s;have LT:=JB (M:=model prog w) hx hc;have LM:=PySem.W.looks_mroIn (M:=model prog w) X Z.ob;refine ZeE PySem.W.KF.slot_gs.plain PySem.W.KF.entry_gs (PySem.W.KF.slot_gs.check _ _ _ _ _ _ _ _ PySem.W.KF.type_class (PySem.W.KF.args_gs _ _ _) ?_);unfold Builtin.«getset_descriptor.__get__» descrGet;rw[PySem.W.dga_obj];refine eg (Zao ?_);unfold descrGetter descrCheckInstance descrNameAndClass isInstance;simp only[PySem.W.KF.owner_class]
 repeat lk
 refine⟨Code.quiet_builtin _ (by decide+kernel),ZdF PySem.W.KF.entry_class ?_⟩;unfold Builtin.«object.__class__» shownTypeOf
 repeat lk
 exact h
theorem V8 {tk:Tok}{Q:PySem.Fin->Shared->Prop}(X:K.In s.heap)(hx:s.heap.get? e=some o)(hc:o.cls=.ref C)(Z:oR K C)(hq:Q (.done (.ret (.ref C))) s):
  wpAny (model prog w) A (Builtin.«object.__getattribute__» ⟨[.ref e,.str "__class__" tk],[]⟩) Q E s:=by
 obtain⟨h0,g0,d0,t0,o0⟩:=s;have LT:=JB (M:=model prog w) hx hc;have LC:=ZdR (M:=model prog w) X Z.cl;have hT5:(⟨h0,g0,d0,t0,o0⟩:Shared).TypeIs (.builtin "object.__class__") "getset_descriptor" :=F.typeOf_object_class;have f5:=F.typeOf_object_class;have f6:=F.slot_gs_get.lookup;have f7:=F.slot_gs_set.lookup
 repeat (any_goals (first |assumption |with_reducible refine LT.at ?_ |with_reducible refine LC.at ?_ |wp_step))
 refine Ve (s:=⟨h0,g0,d0,t0,o0⟩) X hx hc Z ?_;exact Zao hq
theorem Vd {tk:Tok}(X:K.In s.heap)(hx:s.heap.get? e=some o)(hc:o.cls=.ref C)(Z:oR K C)(hq:R (.ok (.ret (.ref C))) s):
  codeAny (model prog w) A (.call (.builtin "BaseException.__getattribute__") ⟨[.ref e,.str "__class__" tk],[]⟩) R s:=by
 refine ZeE F.attr_ValueError.ga.plain F.entry_bexc_ga ?_;obtain⟨h0,g0,d0,t0,o0⟩:=s;have LT:=JB (M:=model prog w) hx hc;have LB:=PySem.W.looks_mroIn (M:=model prog w) X Z.bx;have hk:builtinKind "BaseException.__getattribute__" =some .slot:=by decide+kernel
 have dc:splitId "BaseException.__getattribute__" =some ("BaseException", "__getattribute__"):=by decide+kernel
 have ha:=F.args_bexc_ga (.ref e) (.str "__class__" tk);simp only[checkBuiltinCall,hk,dc];have LI:PySem.W.Looks (model prog w) h0 (isInstance (.ref e) (.type "BaseException")) true:=LT.andThen LB;refine eg (LI.at ?_)
 repeat (first |exact V8 (s:=⟨h0,g0,d0,t0,o0⟩) X hx hc Z hq |assumption |wp_step)
theorem Vc {Q:Option Value->Shared->Prop}(X:K.In s.heap)(hx:s.heap.get? e=some o)(hc:o.cls=.ref C)(Z:oR K C)(hq:Q (some (.ref C)) {s with toks:=s.toks+1}):
  wpAny (model prog w) A (getAttr? (.ref e) "__class__") Q E s:=by
 obtain⟨h0,g0,d0,t0,o0⟩:=s;have LT:=JB (M:=model prog w) hx hc;have L1:=ZdR (M:=model prog w) X Z.ga;have L2:=ZdR (M:=model prog w) X Z.hook;have f3:=F.attr_ValueError.ga.bind (.ref e);have nO:(Value.builtin "BaseException.__getattribute__" ==Value.builtin "object.__getattribute__")=false:=by decide+kernel
 have Od:(onTheHeap (Value.ref C)&&Value.builtin "BaseException.__getattribute__" ==Value.builtin "object.__getattribute__")=false:=by rw[nO];rfl
 unfold getAttr? getAttrBy? getAttrBy;refine eg (wpAny_mkText (eg (ZeI (ZaU (eg (LT.at (eg (L1.at ?_))))))))
 repeat (any_goals (first |assumption |with_reducible refine L2.at ?_ |wp_step))
 refine Vd (s:=⟨h0,g0,d0,t0+1,o0⟩) X hx hc Z ?_
 repeat (any_goals (first |assumption |wp_step))
theorem Vl (Z:oR K C):PySem.W.KitX K (.ref e) (.ref C) (fun h=> ∃o,h.get? e=some o/\o.cls=.ref C) where
 ty:=fun M h _ ⟨o,hx,hc⟩=>JB hx hc
 it:=fun M h X _=>by
  obtain⟨cd,cV⟩:=ZcH.mp Z.cls;unfold PySem.W.clsIn at cV;split at cV
  ·rename_i lk;intro A2 Q2 E2 s2 k q;unfold isType loadHead;exact eg (wpAny_loadPart (k _ _ (X _ _ lk)) (Zao q))
  ·cases cV
 ne:=fun h tp dd ae n sl X lJ=>by
  obtain⟨cd,cV⟩:=ZcH.mp Z.cls;refine Bool.eq_false_iff.mpr fun q=> ?_;have z:C=tp:=Value.ref.inj (Zco.mp q);rw[<-z]at lJ;unfold PySem.W.clsIn at cV;split at cV
  ·rename_i lk;have y:=(X _ _ lk).symm.trans lJ;cases y
  ·cases cV
 ca:=fun X ⟨o,hx,hc⟩ k=>Vc X hx hc Z k
end
section
variable {X:Cx}
theorem ZC:fY X (.builtin "isinstance") (fun xs H Q=> ∃e C y c b,xs=[.ref e,y]/\H e=some (lZ e C)/\oR X.K C/\(∀u,RelV y u->u=c)/\PySem.W.kitOne X.K (.ref C) c=some b/\Q (.bl b) H):=by
 rintro pins s σ H vs us Q I r ⟨e,C,y,c,b,rfl,he,Z,hy,hk,q⟩;cases r with
 |cons r1 r2=>
  cases r2 with
  |cons r3 r4=>cases r4;rw[hy _ r3];rw[show _=Value.ref e from r1];obtain⟨p,_,_⟩:=(show bN X.prog X.w H s.heap e (lZ e C) from I.ar e _ he);exact Zcd (Vl Z) I.bA p hk (fun z=>nomatch z) fun tk=> ⟨.bl b,H,I.tok _,rfl,q⟩
end
end L2
namespace L2
open PySem PySem.Spec PyProof.Rows
abbrev Cx.jQ (X:Cx)(e:Value):Cx:= {X with A:=X.A.mark (some e),calm:=false,xe:=fun _ _=>False}
section
variable {X:Cx}{pins:List (Addr×Obj)}{σ:St}{H H':Hp}{s s':Shared}
theorem Inv.jQ (I:Inv X pins σ H s)(e:Value):Inv (X.jQ e) pins σ H s:=
 ⟨⟨I.ok.mod,I.ok.kind,I.ok.glob,I.ok.blt,I.ok.above,I.ok.inj,I.ok.has,I.ok.jZ,fun h=>Bool.noConfusion h,I.ok.frames,I.ok.kL,I.ok.jY,I.ok.bs,I.ok.iz,I.ok.kz,I.ok.jB,I.ok.dg,I.ok.gB⟩,I.os,I.bare,I.base,I.loc,I.cell,I.free,I.fO,I.pin,I.ar,I.len⟩
theorem Inv.Km {e:Value}(I:Inv (X.jQ e) pins σ H s)(hd:X.calm=true->bL X.base X.A.handled):Inv X pins σ H s:=
 ⟨⟨I.ok.mod,I.ok.kind,I.ok.glob,I.ok.blt,I.ok.above,I.ok.inj,I.ok.has,I.ok.jZ,hd,I.ok.frames,I.ok.kL,I.ok.jY,I.ok.bs,I.ok.iz,I.ok.kz,I.ok.jB,I.ok.dg,I.ok.gB⟩,I.os,I.bare,I.base,I.loc,I.cell,I.free,I.fO,I.pin,I.ar,I.len⟩
theorem Inv.Gj {e C:Addr}{B h':Heap}{o:Obj}(I:Inv X pins σ H s)(un:Un (aU X.stack) [] H H' s.heap s'.heap)(os:s'.os=s.os)(bare:AllBare s'.gens)(ar:bC X.prog X.w H' s'.heap)
  (bG:∀b o,s.heap.get? b=some o->b∉aU X.stack->∃u,B.get? b=some u) (dS:∀b o,H' b=some o->∃u,B.get? b=some u) (be:B.get? e=none) (k1:B.StaysIn s'.heap) (k2:B.StaysIn h') (up:s'.heap.UpToSlots h')
  (he:h'.get? e=some o) (hc:o.cls=.ref C) (hd:∃vs,o.data=.fields vs):Inv X pins σ (upd H' e (lZ e C)) {s' with heap:=h'}/\H' e=none:=by
 have n0:H' e=none:=by
  cases q:H' e with
  |none=>rfl
  |some u=>obtain⟨u',hu⟩:=dS e u q;rw[be]at hu;cases hu
 have jJ:∀b o,s.heap.get? b=some o->b∈aU X.stack->∃sl,h'.get? b=some {o with slots:=sl} :=fun b o hb hm=>by obtain⟨_,o',bV,nf⟩:=I.stack.mem hm;rw[hb]at bV;cases bV;obtain⟨mC,e1⟩:=un.slot b o hb (I.oU b hm) hm (by simp);obtain⟨fw,e2⟩:=up b _ e1 nf;exact⟨fw,e2⟩
 have vF:∀b u,s.heap.get? b=some u->b≠e:=fun b u hb z=>by
  rw[z]at hb;by_cases hm:e∈aU X.stack
  ·obtain⟨_,o',bV,nf⟩:=I.stack.mem hm;rw[hb]at bV;cases bV;obtain⟨sl,q⟩:=jJ e u hb hm;rw[he]at q;cases q;obtain⟨vs,hv⟩:=hd;exact nf vs hv
  ·obtain⟨u',hu⟩:=bG e u hb hm;rw[be]at hu;cases hu
 have rR:∀b o u,s'.heap.get? b=some o->B.get? b=some u->h'.get? b=some o:=fun b o u hb hu=>by have e1:=k1 b u hu;rw[hb]at e1;cases e1;exact k2 b _ hu
 refine⟨I.wW (s':= {s' with heap:=h'}) (ch:=[]) os ⟨fun b u hb hn hf _=> ?_,fun b u hb hn hm _=>jJ b u hb hm,fun b u hb hn _=> ?_,fun b u hb _=> ?_,fun b xs hb=> ?_,fun b u v hb=> ?_,fun b ps hb=> ?_⟩ ?_ bare (fun b hb=>absurd hb (by simp)),n0⟩
 ·have e1:=un.keep b u hb hn hf (by simp);obtain⟨u',hu⟩:=bG b u hb hf;exact rR b u u' e1 hu
 ·rw[Zi (vF b u hb)];exact un.free b u hb hn (by simp)
 ·by_cases hm:b∈aU X.stack
  ·obtain⟨sl,q⟩:=jJ b u hb hm;exact⟨_,q⟩
  ·obtain⟨u',hu⟩:=bG b u hb hm;exact⟨u',k2 b u' hu⟩
 ·have q:=un.f9 b xs hb;rw[Zi (Zd q n0)];exact q
 ·have q:=un.fN b u v hb;rw[Zi (Zd q n0)];exact q
 ·obtain⟨m,q⟩:=un.fv b ps hb;exact⟨m,by rw[Zi (Zd q n0)];exact q⟩
 ·intro b u hb;by_cases iP:b=e
  ·subst iP;rw[Zc]at hb;cases hb;refine⟨⟨o,he,hc⟩,⟨o,he⟩,fun h1 h2 p k=> ?_⟩;obtain⟨o1,q1,q2⟩:=p;exact⟨o1,k _ q1,q2⟩
  ·rw[Zi iP]at hb;have x:=YY ar dS k1 k2 b u hb;refine x.g8 (fun c w' iO q=>q) (fun c q=> ?_) fun c xs q=> ?_
   ·rw[Zi (Zd q n0)];exact q
   ·rw[Zi (Zd q n0)];exact q
end
def KH (X:Cx)(ic ie:Nat)(cS:Addr)(k:Nat)(ts:TS):TS:=fun D σ H=> ∃f fd sp,σ[ic]? =some (some (.ref f))/\(∀s,bC X.prog X.w H s->PySem.W.FnAt f s)/\aw X.prog X.w X.K X.mg X.base (bc X.prog X.w) k f fd [] sp/\(∀s,BindsTo s fd ⟨[],[]⟩ [])/\
 sp [] H (fun _ _=>False) fun ev c H'=> ∃e C,ev=.ref e/\c=some C/\PySem.W.exmOne X.K (.ref C) (.ref cS)=some true/\(H' e=none->ts {nx:=fun ah H2=>D.nx (ah.set ie none) H2,rt:=fun _ _=>False} (σ.set ie (some (.ref e))) (upd H' e (lZ e C)))
theorem ZbD {X:Cx}{ic ie k:Nat}{c n S:Str}{cS:Addr}{b0:Stmt}{qY:List Stmt}{ts:TS}{p1 p2 p3 p4 p5 p6:Pos}(sJ:X.calm=true)(fH:X.stack=X.env::X.outer)(cU:X.env.frame=some X.env.locals)(hN:X.N.Nodup)(Pn:X.N[ic]? =some c)(Oj:oH X.env.scope c)
  (wc:X.N[ie]? =some n) (sC:X.env.scope.names.lookup n=some .local) (hS:X.mg S=some (.ref cS)) (Bc:Gl X S) (hr:bf k X.A) (AK:∀e,dG (X.jQ (.ref e)) (b0::qY) ts)
  (eC:(c==("__debug__" :Str))=false:=by decide) (PN:(c==("__classdict__" :Str))=false:=by decide) (Bh:(S==("__debug__" :Str))=false:=by decide)
  (sd:swapsWith (.Call (.Name c p1) [] [] p2) none p3.line X.env=pure false:=by rfl):
  PS X (.Try [.Expr (.Call (.Name c p1) [] [] p2) p3] [.ExceptHandler (some (.Name S p4)) (some n) (b0::qY) p5] [] [] p6) (KH X ic ie cS k ts):=by
 intro pins s σ H D I h;obtain⟨f,fd,sp,jl,fK,F,hb,dc⟩:=h;refine wpAny_Try_except ?_;refine Zez (wpAny_Expr_any ?_ I.quiet sd);refine ZbH ?_;have nm:=J3 (X:=X.fq (fun _ _=>False)) (i:=ic) (x:=c) (pos:=p1) Pn Oj eC PN pins s σ H (fun v H2=>v=.ref f/\H2=H) (I.fq _) ⟨_,jl,rfl,rfl⟩;refine ZaI nm (fun u s1 h1=> ?_) (fun _ _ z=>z.elim);obtain⟨v,H1,I1,r1,rfl,rfl⟩:=h1;have I1:=I1.i9;obtain rfl:u=Value.ref f:=r1;refine PySem.W.callWith_F0 (fK _ I1.ar) ?_;refine Zfc (Zcy (F.run X.A X.stack s1 H1 ⟨[],[]⟩ [] [] _ _ hr (I1.wK sJ) (hb s1) .nil dc) fun r s2 hq=> ?_);cases r with
 |ok fl=>
  cases fl with
  |ret u=>obtain⟨_,_,_,_,_,_,_,z⟩:=hq;exact z.elim
  |next=>exact hq.elim
  |brk=>exact hq.elim
  |cont=>exact hq.elim
 |error ev=>
  obtain⟨e,C,H2,rfl,FL,e',C',q1,q2,hx,hk⟩:=hq;cases q1;cases q2;obtain⟨B,a0,c0,⟨fl,_⟩,_,bG,dS⟩:=FL.wH;rw[fH]at fl;show wpAny (model X.prog X.w) X.A (noteFrame (.ref e) X.env) _ X.xe s2;have tD:X.A.frames=some (X.env::X.outer):=by rw[<-fH];exact I.ok.frames
  refine wpAny_looks_onW (L:=X.env.locals) tD cU fl fun h4 held qR=> ?_;refine wpAny_landsW held fun h5 tF qP=> ?_;have RD:∃o vs,h5.get? e=some o/\o.cls=.ref C/\o.data=.fields vs:=by
   obtain⟨oe,vs,g1,g2,g3,_⟩:=tF.first
   exact⟨oe,vs,g1,g2,g3⟩
  obtain⟨o5,Kj,tj,wD,Bx⟩:=RD;have c5:=I1.Gj (h':=h5) FL.un FL.os FL.bare FL.ar bG dS fl.2.1 fl.1 tF.1 (qR.trans qP) tj wD ⟨_,Bx⟩;have I5:=c5.1.jQ (.ref e);refine wpAny_handleBy_cons (codeAny_handlers_test ?_) (by intro q;cases q);refine YL (X:=X.jQ (.ref e)) I5 Bc hS ?_ Bh;have LX:=PySem.W.exm_one (M:=model X.prog X.w) (c:=.ref cS) (e:=e) I5.bA (JB tj wD) hx;refine LX.at ?_;refine codeAny_handlers_suite_as ?_;refine lands_againW (s:= {s2 with heap:=h5}) tF fun h6 wI xF=> ?_;obtain⟨o6,Ki,wC,Bw,Bv,_⟩:=wI.first
  obtain⟨I6,n6⟩:=I1.Gj (h':=h6) FL.un FL.os FL.bare FL.ar bG dS fl.2.1 fl.1 wI.1 ((qR.trans qP).trans xF) wC Bw ⟨_,Bv⟩;have I6:=I6.jQ (.ref e);have Ov:=hk n6;refine Yj (X:=X.jQ (.ref e)) (i:=ie) I6 hN wc (.inl sC) (v:=.ref e) (u:=.ref e) rfl (fun s7 I7=> ?_) (.inr sC);refine ZaI (AK e pins s7 _ _ _ I7 Ov) (fun Bz s8 h8=> ?_) fun _ _ z=>z.elim;cases Bz with
  |ret u=>obtain⟨_,_,_,_,_,z⟩:=h8;exact z.elim
  |brk=>obtain⟨_,_,_,z⟩:=h8;exact z.elim
  |cont=>obtain⟨_,_,_,z⟩:=h8;exact z.elim
  |next=>
   obtain⟨gH,H8,I8,q8⟩:=h8;have I8:=I8.Km (fun z=>I.ok.hd z);obtain⟨m8,EN,sD⟩:=I8.loc;have og:(X.env.scope.kind==.class||(X.env.scope.kind==.module&&X.env.locals !=X.env.globals))=false:=by rw[I8.ok.kind];rfl
   refine wpAny_nameGoes_keeps sC EN og fun h9 v9 OY nQ=> ?_;have st:=Yj (M:=model X.prog X.w) (A:=X.A) (E:=fun _ _=>False) (X:=X) (i:=ie) I8 hN wc (.inl sC) (v:=.ag) (u:=.none) rfl (Q:=fun _ _=>True) (fun _ _=>trivial) (.inr sC);refine⟨gH.set ie none,H8,?_,q8⟩;have aI:ie<gH.length:=by rw[I8.len];exact(Zaa.mp wc).1
   obtain⟨oL,_,_,hoL,_⟩:=id EN;have iT:=I8.iT;refine⟨I8.ok,I8.os,I8.bare,⟨fun b o eb nb hb hx=> ?_,fun b o eb nb hb hx=> ?_,I8.base.free,fun b o eb hx=> ?_,I8.base.f9,I8.base.fN,I8.base.fv⟩,⟨_,OY,fun j y v' e1 e2 e3=> ?_⟩,fun y cc ec=> ?_,I8.free,I8.fO,fun p hp=> ?_,fun b ob eb=> ?_,by simpa using I8.len⟩
   ·exact(nQ.2 b (Zay (Zaw (Zal eb) I8.ok.above))).trans (I8.base.keep b o eb nb hb hx)
   ·obtain⟨sl,q⟩:=I8.base.slot b o eb nb hb hx;exact⟨sl,(nQ.2 b (Zay (Zaw (Zal eb) I8.ok.above))).trans q⟩
   ·obtain⟨o',q⟩:=I8.base.there b o eb hx;exact⟨o',(nQ.2 b (Zay (Zaw (Zal eb) I8.ok.above))).trans q⟩
   ·by_cases hj:j=ie
    ·subst hj;rw[Zef aI]at e2;cases e2
    ·rw[ZdQ (ZcL hj)]at e2;obtain⟨u',r',q⟩:=sD j y v' e1 e2 e3;refine⟨u',r',?_⟩;rcases q with ⟨kk,q⟩ |⟨kk,c',ec,z⟩
     ·refine .inl ⟨kk,?_⟩;have ne:y≠n:=fun z=>hj (WQ hN e1 (z▸wc));simp[ne,q]
     ·exact .inr ⟨kk,c',ec,z.sameBut nQ (iT y c' ec)⟩
   ·obtain⟨w',z⟩:=I8.cell y cc ec;exact⟨w',z.sameBut nQ (iT y cc ec)⟩
   ·obtain⟨e1,n1,ne1,Ng,d1⟩:=I8.pin p hp;exact⟨(nQ.2 p.1 ne1).trans e1,n1,ne1,Ng,d1⟩
   ·refine(I8.ar b ob eb).g8 (fun cc w' iO q=> (nQ.2 cc ?_).trans q) (fun _ q=>q) fun _ _ q=>q;rintro rfl;rcases iO with rfl |iO
    ·rw[I8.free]at eb;cases eb
    ·rw[I8.free]at iO;cases iO
def iS (c:Addr)(q:Str):HO:=.ext fun h=>h.CodeRec (.ref c) q
def pZ (f:Addr)(q:Str)(params:Arguments)(body:Expr)(scope:Scope)(cl:List (Str×Addr))(pm:Value)(c:Addr)(ct:Value):HO:=.ext fun h=>h.get? f=some (PySem.W.kla_obj "<lambda>" q params body scope cl pm c ct)
def CF (H:Hp)(f:Addr)(q:Str)(params:Arguments)(body:Expr)(scope:Scope)(cl:List (Str×Addr)):Prop:=∃pm c ct,H f=some (pZ f q params body scope cl pm c ct)/\H c=some (iS c q)
def aab (H:Hp)(q:Str)(ps:Array Value):Prop:=TriplesOk ps.toList/\∀pos cv,codeAmong pos ps.toList=some cv->∃c,cv=.ref c/\H c=some (iS c q)
def TabAt (H:Hp)(P:Addr)(q:Str):Prop:=∃ps,H P=some (.bM ps)/\aab H q ps
theorem JS {h h':Heap}{c:Addr}{q:Str}(x:h.CodeRec (.ref c) q)(k:∀o,h.get? c=some o->h'.get? c=some o):h'.CodeRec (.ref c) q:=by obtain⟨c2,oc,vs,tq,e,g1,g2,g3⟩:=x;cases e;exact⟨c,oc,vs,tq,rfl,k _ g1,g2,g3⟩
theorem VM {P:Program}{w:World}{H:Hp}{h:Heap}{c:Addr}{q:Str}(x:h.CodeRec (.ref c) q):bN P w H h c (iS c q):=by obtain⟨c2,oc,vs,tq,e,g1,g2,g3⟩:=id x;cases e;exact⟨x,⟨_,g1⟩,fun h1 h2 p k=>JS p k⟩
theorem Hj {P:Program}{w:World}{H:Hp}{h:Heap}{f:Addr}{q:Str}{params:Arguments}{body:Expr}{scope:Scope}{cl:List (Str×Addr)}{pm:Value}{c:Addr}{ct:Value}(x:h.get? f=some (PySem.W.kla_obj "<lambda>" q params body scope cl pm c ct)):
  bN P w H h f (pZ f q params body scope cl pm c ct):=⟨x,⟨_,x⟩,fun h1 h2 p k=>k _ p⟩
theorem Ul {pos p2:Pos}{c cv:Value} :∀(l:List Value),TriplesOk l->codeAmong p2 (l++[rawInt pos.line,rawInt pos.col,c])=some cv->codeAmong p2 l=some cv∨cv=c
 | [],_,h=>by
  have h':(if (pos.line:Int)==(p2.line:Int)&&(pos.col:Int)==(p2.col:Int) then some c else codeAmong p2 [])=some cv:=h;split at h'
  ·exact .inr (Za3 h').symm
  ·cases h'
 | .int a t:: .int b u::x::r,ht,h=>by
  have h':(if a==p2.line&&b==p2.col then some x else codeAmong p2 (r++[rawInt pos.line,rawInt pos.col,c]))=some cv:=h;show(if a==p2.line&&b==p2.col then some x else codeAmong p2 r)=some cv∨cv=c;split at h'
  ·rename_i hq;rw[ZaG hq];exact .inl h'
  ·rename_i hq;rw[ZaD hq];exact Ul r ht h'
theorem JD {pos:Pos}{c:Value} :∀(l:List Value),TriplesOk l->TriplesOk (l++[rawInt pos.line,rawInt pos.col,c])
 | [],_=>trivial
 | .int _ _:: .int _ _::_::r,h=>JD r h
structure IG (X:Cx)(c P:Addr):Prop where
 code:X.env.code=.ref c
 hd:PySem.W.CodeHd X.base c P
 bm:∃bm ob,X.mg "__builtins__" =some (.ref bm)/\bm≠builtinsNs/\X.base.get? bm=some ob/\ob.cls=.type "module" /\ob.dict=some builtinsNs/\ob.data=.plain
def K0 (X:Cx)(P:Addr)(params:Arguments)(body:Expr)(scope:Scope):TE:=fun σ H Q=>TabAt H P (X.env.qual++ "<lambda>")/\∀f H',aV P H H'->H f=none->TabAt H' P (X.env.qual++ "<lambda>")->CF H' f (X.env.qual++ "<lambda>") params body scope (eG scope X.env)->Q (.ref f) H'
theorem TB {X:Cx}{c P:Addr}{params:Arguments}{body:Expr}{scope:Scope}{pos:Pos}(L:IG X c P)(Bg:defaultsOf params X.env=([],[]))(cU:∀y∈scope.names,y.2=.free->X.env.kindOf y.1=some .cell∨X.env.kindOf y.1=some .free):
  PE X (.Lambda params body scope pos) (K0 X P params body scope):=by
 intro pins s σ H Q I h;obtain⟨⟨ps,hP,hT,hC⟩,q⟩:=h;have oP:s.heap.get? P=some (PySem.W.tabObj ps):=I.ar P _ hP;have il:=Ys (scope:=scope) (env:=X.env) fun y hy e=>I.ok.has _ (cU y hy e);have wA:s.heap.Ns mainGlobals X.mg:=I.mod.glob.keeps I.bk;obtain⟨bm,ob,b1,b2,b3,b4,b5,b6⟩:=L.bm;have Pr:mainGlobals≠P:=fun z=>by obtain⟨o,es,ep,e,d,_⟩:=wA;rw[z,oP]at e;cases e;cases d
 have oh:bm≠P:=fun z=>by have e:=I.bk _ _ b3;rw[z,oP]at e;cases e;cases b4
 have P2:bm≠mainGlobals:=fun z=>by obtain⟨o,es,ep,e,d,_⟩:=wA;have e2:=I.bk _ _ b3;rw[z,e]at e2;cases e2;rw[d]at b6;cases b6
 have BA:s.heap.BuiltinsAt X.mg P:=⟨bm,ob,b1,b2,P2,oh,I.bk _ _ b3,b4,b5,b6⟩;refine PySem.W.kla_eval Bg ?_;cases hf:codeAmong pos ps.toList with
 |some cv=>
  obtain⟨c',rfl,bX⟩:=hC pos cv hf;refine PySem.W.kla_makeFunctionHit il I.ok.glob wA L.code (L.hd.keeps I.bk) oP hT hf BA fun oF h' tk hk hsz=> ?_;have nf:H h'.objs.size=none:=I.ar.fresh hsz;have s1:ak H (upd H h'.objs.size (pZ h'.objs.size (X.env.qual++ "<lambda>") params body scope (eG scope X.env) ((X.mg "__name__").getD .none) c' oF)):=fun b o hb=>by rw[Zi (Zd hb nf)];exact hb
  refine⟨.ref h'.objs.size,_,I.laid (t':=tk) (a:=h'.objs.size) (fun b u e=>gc _ (hk b u e)) hsz (Hj (Zau _ rfl)),rfl,?_⟩;exact q _ _ (fun b o hb _=>s1 b o hb) nf ⟨ps,s1 _ _ hP,hT,fun p2 BO z=>by obtain⟨c2,e2,h2⟩:=hC p2 BO z;exact⟨c2,e2,s1 _ _ h2⟩⟩ ⟨_,c',oF,Zc,s1 _ _ bX⟩
 |none=>
  refine PySem.W.kla_makeFunction il I.ok.glob wA L.code (L.hd.keeps I.bk) oP hT hf Pr BA fun c' oF h' tk hx qk aI OJ r6=> ?_;have NF:∀b o,s.heap.get? b=some o->b<c':=fun b o e=>Zaw (Zal e) qk;have ltH:∀b o,H b=some o->b<c':=fun b o e=>Zaw (I.ar.lt e) qk;have nc:H c'=none:=I.ar.fresh qk;have nf:H h'.objs.size=none:=I.ar.fresh (ZaL qk (Zev aI));have MB:P≠c':=Zd hP nc;have DN:P≠h'.objs.size:=Zd hP nf;have cnf:c'≠h'.objs.size:=Zay aI;generalize Fd:h'.objs.size=f at nf DN cnf;generalize AN:ps++ #[rawInt pos.line,rawInt pos.col,Value.ref c']=mV at r6;generalize A1:pZ f (X.env.qual++ "<lambda>") params body scope (eG scope X.env) ((X.mg "__name__").getD .none) c' oF=lo;have keep:∀b o,b≠P->s.heap.get? b=some o->(h'.push (PySem.W.kla_obj "<lambda>" (X.env.qual++ "<lambda>") params body scope (eG scope X.env) ((X.mg "__name__").getD .none) c' oF)).get? b=some o:=fun b o hb e=>gc _ (hx b o hb e);have dE:∀b o,H b=some o->b≠P->upd (upd (upd H P (.bM mV)) c' (iS c' (X.env.qual++ "<lambda>"))) f lo b=some o:=fun b o hb bW=>by rw[Zi (Zd hb nf),Zi (Zd hb nc),Zi bW];exact hb
  have BW:upd (upd (upd H P (.bM mV)) c' (iS c' (X.env.qual++ "<lambda>"))) f lo P=some (.bM mV):=by rw[Zi DN,Zi MB,Zc]
  have atC:upd (upd (upd H P (.bM mV)) c' (iS c' (X.env.qual++ "<lambda>"))) f lo c'=some (iS c' (X.env.qual++ "<lambda>")):=by rw[Zi cnf,Zc]
  have Gn:upd (upd (upd H P (.bM mV)) c' (iS c' (X.env.qual++ "<lambda>"))) f lo f=some lo:=Zc;have J:Inv X pins σ (upd (upd (upd H P (.bM mV)) c' (iS c' (X.env.qual++ "<lambda>"))) f lo) {s with heap:=h'.push (PySem.W.kla_obj "<lambda>" (X.env.qual++ "<lambda>") params body scope (eG scope X.env) ((X.mg "__name__").getD .none) c' oF),toks:=tk} :=by
   refine I.un (t':=tk) ⟨fun b o e n _ _=>keep b o (fun z=>by rw[z,hP]at n;cases n) e,fun b o e n _ _=> ⟨o.slots,keep b o (fun z=>by rw[z,hP]at n;cases n) e⟩,fun b o e n _=> ?_,fun b o e _=> ?_,fun b xs e=>dE b _ e (fun z=>by rw[z,hP]at e;cases e),fun b o u e=>dE b _ e (fun z=>by rw[z,hP]at e;cases e),fun b qs e=> ?_⟩ ?_
   ·have hl:=NF b o e;rw[Zi (by rw[<-Fd];exact Zay (Nat.lt_trans hl aI)),Zi (Zay hl),Zi (fun z=>by rw[z,hP]at n;cases n)];exact n
   ·by_cases hb:b=P
    ·rw[hb];exact⟨_,gc _ r6⟩
    ·exact⟨o,keep b o hb e⟩
   ·by_cases hb:b=P
    ·rw[hb,hP]at e;cases e;exact⟨_,by rw[hb,BW,AN]⟩
    ·exact⟨#[],by rw[dE b _ e hb];simp⟩
   ·intro b o hb;by_cases h1:b=f
    ·rw[h1,Gn]at hb;cases hb;rw[h1,<-A1];refine Hj ?_;rw[<-Fd];exact Zau _ rfl
    ·by_cases h2:b=c'
     ·rw[h2,atC]at hb;cases hb;rw[h2];exact VM (JS OJ fun o e=>gc _ e)
     ·by_cases h3:b=P
      ·rw[h3,BW]at hb;cases hb;rw[h3];exact gc _ r6
      ·have dP:H b=some o:=by rw[Zi h1,Zi h2,Zi h3]at hb;exact hb
       refine(I.ar b o dP).g8 (fun z u hz e=>keep z u ?_ e) (fun z e=> ?_) fun z xs e=> ?_
       ·rcases hz with hz |hz
        ·rw[hz];exact h3
        ·intro fc;rw[fc,hP]at hz;cases hz
       ·exact dE z _ e fun fc=>by rw[fc,hP]at e;cases e
       ·exact dE z _ e fun fc=>by rw[fc,hP]at e;cases e
  refine⟨.ref f,_,J,rfl,?_⟩;refine q f _ (fun b o hb bW=>dE b o hb bW) nf ⟨mV,BW,?_,fun p2 BO z=> ?_⟩ ⟨_,c',oF,by rw[Gn,<-A1],atC⟩
  ·rw[<-AN,Array.toList_append];exact JD _ hT
  ·rw[<-AN,Array.toList_append]at z;rcases Ul _ hT z with z |z
   ·obtain⟨c2,e2,h2⟩:=hC p2 BO z;exact⟨c2,e2,dE _ _ h2 fun fc=>by rw[fc,hP]at h2;cases h2⟩
   ·exact⟨c',z,atC⟩
theorem MG {X:Cx}{E:XK}(Oc:∀e s',wpAny (model X.prog X.w) X.A (leaving X.env e) (fun _ eU=>bc X.prog X.w X.A.handled X.outer X.kG X.bY E e eU) (fun e' eU=>bc X.prog X.w X.A.handled X.outer X.kG X.bY E e' eU) s'->X.xe e s')
  (fH:X.stack=X.env::X.outer) (cU:X.env.frame=some X.env.locals) (hex:X.ex=[]):Passes (bc X.prog X.w) X E:=by
 intro pins σ H1 s1 ev s2 I h;obtain⟨e,C,H',rfl,F,hE⟩:=h;obtain⟨B,a0,c,fl,sN,bG,dS⟩:=F.wH;have un:=F.un;rw[fH]at fl bG un;have ib:Un (aU X.outer) [] X.kG H1 X.bY.heap s1.heap:=by have:=I.base;rw[hex]at this;exact this
 have tD:X.A.frames=some (X.env::X.outer):=by rw[<-fH];exact I.ok.frames
 refine Oc _ _ (El (L:=X.env.locals) tD cU fl fun h' ow up=> ?_);refine⟨e,C,H',rfl,⟨F.os.trans I.os,F.bare,Wz (base:=X.base) (L:=X.env.locals) ib un cU I.ok.above I.ok.dg I.ok.gB bG fl.1.1 ow.1.1 up,YY F.ar dS fl.1.1 ow.1.1,B,a0,c,ow,sN,fun b o hb hn=> ?_,dS⟩,hE⟩;obtain⟨o1,e1⟩:=ib.there b o hb (by simp);refine bG b o1 e1 fun hm=> ?_;have jt:b∈(X.env::X.outer).filterMap (·.frame):=hm;rw[Zdi (f:=fun(x:Env)=>x.frame) (a:=X.env) (b:=X.env.locals) cU]at jt;rcases Zaf.mp jt with q |q
 ·rw[q]at hb;exact absurd (Zaw (Zal hb) I.ok.above) (Zba _)
 ·exact hn q
def tQ (P:Program)(w:World)(K:ZgE)(mg:Str->Option Value)(base:Heap)(N:List Str)(q:Str)(scope:Scope)(f:Addr)(cd:Value)(cl:List (Str×Addr))(A:Around)(outer:List Env)(s:Shared)(H:Hp)(E:XK):Cx where
 prog:=P
 w:=w
 K:=K
 mg:=mg
 base:=base
 A:=A.deeper (PySem.W.envX q scope s.heap.objs.size f cd cl)
 N:=N
 bY:=s
 kG:=H
 env:=PySem.W.envX q scope s.heap.objs.size f cd cl
 outer:=outer
 stack:=PySem.W.envX q scope s.heap.objs.size f cd cl::outer
 ex:=[]
 calm:=true
 fn:=fun _=>false
 pn:=[]
 xe:=fun e s'=>wpAny (model P w) (A.deeper (PySem.W.envX q scope s.heap.objs.size f cd cl)) (leaving (PySem.W.envX q scope s.heap.objs.size f cd cl) e) (fun _ eU=>bc P w A.handled outer H s E e eU) (fun e' eU=>bc P w A.handled outer H s E e' eU) s'
structure Two (base:Heap)(scope:Scope)(cl:List (Str×Addr))(x y:Str)(vx vy:V):Prop where
 kx:scope.names.lookup x=some .free
 ky:scope.names.lookup y=some .free
 only:∀z,scope.names.lookup z=some .cell∨scope.names.lookup z=some .free->z=x∨z=y
 ne:x≠y
 cx:∃c u,cl.lookup x=some c/\base.IsCell c (some u)/\RelV vx u
 cy:∃c u,cl.lookup y=some c/\base.IsCell c (some u)/\RelV vy u
 mem:∀z c,cl.lookup z=some c->z=x∨z=y
 inj:∀c,cl.lookup x=some c->cl.lookup y=some c->False
theorem JQ {h b1 b2:Heap} :∀{l:List Env},h.FunFrames b1 l->(∀b∈aU l,b2.get? b=none)->h.FunFrames b2 l
 | [],_,_=>trivial
 |env::r,⟨hk,⟨L,o,hf,_,ho,hd⟩,hr⟩,hn=> ⟨hk,⟨L,o,hf,hn L (Zck.mpr ⟨env,.head _,hf⟩),ho,hd⟩,JQ hr fun b hb=>hn b (by obtain⟨e,he,q⟩:=Zck.mp hb;exact Zck.mpr ⟨e,.tail _ he,q⟩)⟩
theorem Inv.rebase {X:Cx}{pins:List (Addr×Obj)}{σ:St}{H:Hp}{s:Shared}(I:Inv X pins σ H s)(hd:bL s.heap X.A.handled)(hf:∀a∈jS X.A.handled,H a=none/\a∉aU X.stack):
  ∃gY,X.base.StaysIn gY/\mi X.prog X.w X.K X.mg gY X.A X.stack s H/\∀b o,s.heap.get? b=some o->H b=none->b∉aU X.stack->gY.get? b=some o:=by
 have bG:∀b o,s.heap.get? b=some o->H b=none->b∉aU X.stack->(PySem.W.hideAll (iN s.heap H) (aU X.stack)).get? b=some o:=fun b o e n hf=>ZeM _ (Im e n) hf;have st:X.base.StaysIn (PySem.W.hideAll (iN s.heap H) (aU X.stack)):=fun b o e=>bG b o (I.bs b o e).1 (I.bs b o e).2 fun hm=>by have:=(I.stack.mem hm).1;rw[e]at this;cases this
 refine⟨_,st,⟨I.ok.frames,⟨I.mod.kA.keeps st,I.mod.glob.keeps st,?_,I.mod.nolimit.keeps st⟩,fun b o e=>Hn (Zd4 _ e),?_,JQ I.stack fun b hb=>PySem.W.hideAll_none _ hb,I.oU,I.ar,I.bare,hd.at fun a m o q=>bG a o q (hf a m).1 (hf a m).2⟩,bG⟩
 ·obtain⟨mb,h1,h2⟩:=I.mod.blt;exact⟨mb,h1.keeps st,h2⟩
 ·rw[PySem.W.hideAll_size,UR];exact Zaq _
inductive Lit where
 |sc (v:V)
 |tup (xs:List V)
 |lst (xs:List V)
 |wO
end L2
namespace L2
open PySem PySem.Spec PyProof.Rows SeqAt
theorem JF {α β:Type}{F:α->β->Prop} :∀{lB:List α}{lA:List β}{i:Nat}{x:α},Paired F lB lA->lB[i]? =some x->∃y,lA[i]? =some y/\F x y
 |_,_,_,_,.nil,h=>by simp at h
 |_,_,0,_,.cons r _,h=>by simp at h;subst h;exact⟨_,rfl,r⟩
 |_,_,i+1,_,.cons _ t,h=>by obtain⟨y,e,q⟩:=JF t (i:=i) (by simpa using h);exact⟨y,by simpa using e,q⟩
section
variable {X:Cx}
def IW (K:ZgE)(H:Hp)(x y:V):Prop:=(∃i:Int,x=.int i/\y=.int i)∨∃(a b:Addr) (ns:List Int),x=.ref a/\y=.ref b/\ao K H a (ns.map V.int)/\ao K H b (ns.map V.int)
theorem Ta {s:Shared}{ns:List Int}{us vs:List Value}(A:Around)(r1:Vals (ns.map V.int) us)(r2:Vals (ns.map V.int) vs):∀j (h1:j<us.toArray.size) (h2:j<vs.toArray.size),EqAt A s us.toArray[j] vs.toArray[j] true:=fun j h1 h2=>by
 have l1:=r1.length;have hj:j<ns.length:=by simp at h1 l1;omega
 have e:(ns.map V.int)[j]? =some (V.int ns[j]):=by simp[hj]
 obtain⟨u,hu,ru⟩:=r1.get e;obtain⟨v,hv,rv⟩:=r2.get e;obtain⟨t1,rfl⟩:=ru;obtain⟨t2,rfl⟩:=rv;have e1:us.toArray[j]=Value.int ns[j] t1:=by simpa using (Zaa.mp hu).2
 have e2:vs.toArray[j]=Value.int ns[j] t2:=by simpa using (Zaa.mp hv).2
 rw[e1,e2];have z:=EqAt.int_int (A:=A) (s:=s) ns[j] t1 ns[j] t2;simpa using z
theorem RQ {pins:List (Addr×Obj)}{σ:St}{H:Hp}{s:Shared}{x y:V}{u v:Value}(A:Around)(hu:A.units<cLine)(I:Inv X pins σ H s)(h:IW X.K H x y)(ru:RelV x u)(rv:RelV y v):EqAt A s u v true:=by
 rcases h with ⟨i,rfl,rfl⟩ |⟨a,b,ns,rfl,rfl,ha,hb⟩
 ·obtain⟨t1,rfl⟩:=ru;obtain⟨t2,rfl⟩:=rv;have z:=EqAt.int_int (A:=A) (s:=s) i t1 i t2;simpa using z
 ·cases ru;cases rv;by_cases Bn:a=b
  ·subst Bn;exact EqAt.same _
  ·obtain⟨us,r1,p1,_⟩:=I.list ha;obtain⟨vs,r2,p2,_⟩:=I.list hb;have hsz:us.toArray.size=vs.toArray.size:=by have:=r1.length;have:=r2.length;simp at *;omega
   have z:=RcAt.lists (e:=fun _=>true) p1.isList p2.isList hsz hu (Ta A.in1 r1 r2);have e:(List.range us.toArray.size).all (fun _=>true)=true:=by simp
   rw[e]at z;exact EqAt.of_refs Bn z
theorem UQ {ns:List Int}{us:List Value}(r:Vals (ns.map V.int) us)(j:Nat)(h:j<us.length):∃t,us[j]=.int (ns.getD j 0) t:=by have hl:=r.length;rw[Zae]at hl;have hj:j<ns.length:=.o;obtain⟨u,hu,t,ru⟩:=r.get (i:=j) (x:=.int ns[j]) (by rw[Zbi,Zax hj];rfl);rw[Zax h]at hu;cases hu;exact⟨t,by rw[ru];simp[hj]⟩
def K3 (ta tb tc td te:TE):TE:=fun σ H Q=>ta σ H fun v1 H1=> ∃x1,v1=.str x1/\(Str.empty++x1).length<=sizeLine/\tb σ H1 fun v2 H2=> ∃n:Int,v2=.int n/\n.natAbs.log2<1920/\(Str.empty++x1++(Str.ofString (toString n))).length<=sizeLine/\
 tc σ H2 fun v3 H3=> ∃x3,v3=.str x3/\(Str.empty++x1++(Str.ofString (toString n))++x3).length<=sizeLine/\td σ H3 fun v4 H4=> ∃m:Int,v4=.int m/\m.natAbs.log2<1920/\(Str.empty++x1++(Str.ofString (toString n))++x3++(Str.ofString (toString m))).length<=sizeLine/\
 te σ H4 fun v5 H5=> ∃x5,v5=.str x5/\(Str.empty++x1++(Str.ofString (toString n))++x3++(Str.ofString (toString m))++x5).length<=sizeLine/\∀z,Q (.str z) H5
theorem Ic {a b c d e:Expr}{ta tb tc td te:TE}{p p' pos:Pos}(ha:PE X a ta)(hb:PE X b tb)(hc:PE X c tc)(hd:PE X d td)(he:PE X e te):PE X (.JoinedStr [a,.FormattedValue b (-1) none p,c,.FormattedValue d (-1) none p',e] pos) (K3 ta tb tc td te):=by intro pins s σ H Q I h;refine JoinedStr_many (ZcM (ZaI (ha pins s σ H _ I h) (fun u s1 h1=> ?_) fun _ _ y=>y));obtain⟨v,H1,I1,r1,x,rfl,hz,h2⟩:=h1;obtain⟨t,rfl⟩:=r1;refine⟨hz,ZcM (ZdT (ZaI (hb pins s1 σ H1 _ I1 h2) (fun u s2 h3=> ?_) fun _ _ y=>y))⟩;obtain⟨v,H2,I2,r2,n,rfl,hn,fc,h4⟩:=h3;obtain⟨t2,rfl⟩:=r2;refine ZdM hn ⟨fc,?_⟩;have I2':=I2.tok (s2.toks+1);refine ZcM (ZaI (hc pins _ σ H2 _ (I2.tok _) h4) (fun u s3 h5=> ?_) fun _ _ y=>y);obtain⟨v,H3,I3,r3,x3,rfl,AD,h6⟩:=h5;obtain⟨t3,rfl⟩:=r3;refine⟨AD,ZcM (ZdT (ZaI (hd pins s3 σ H3 _ I3 h6) (fun u s4 h7=> ?_) fun _ _ y=>y))⟩;obtain⟨v,H4,I4,r4,m,rfl,hm,AB,h8⟩:=h7;obtain⟨t4,rfl⟩:=r4;refine ZdM hm ⟨AB,?_⟩;refine ZcM (ZaI (he pins _ σ H4 _ (I4.tok _) h8) (fun u s5 h9=> ?_) fun _ _ y=>y);obtain⟨v,H5,I5,r5,x5,rfl,rX,q⟩:=h9;obtain⟨t5,rfl⟩:=r5;refine⟨rX,joinParts_nil ?_ rX⟩;exact⟨.str _,H5,I5.tok _,⟨_,rfl⟩,q _⟩
theorem Ho (hu:X.A.units<cLine):aZ X (compareOp .Eq) (fun x y H Q=> ∃(a b:Addr) (ns ms:List Int),x=.ref a/\y=.ref b/\aq X.K H a (ns.map V.int)/\aq X.K H b (ms.map V.int)/\Q (.bl (decide (ns=ms))) H):=by
 intro pins s σ H x y u v Q I rx ry h;obtain⟨a,b,ns,ms,rfl,rfl,ha,hb,q⟩:=h;cases rx;cases ry;obtain⟨us,r1,p1,_⟩:=I.tuple ha;obtain⟨vs,r2,p2,_⟩:=I.tuple hb;have l1:=r1.length;have l2:=r2.length;rw[Zae]at l1 l2;refine eq_tupleAt (e:=fun j=>ns.getD j 0==ms.getD j 0) p1 p2 hu (fun j h1 h2=> ?_) ?_
 ·obtain⟨t1,e1⟩:=UQ r1 j (by simpa using h1);obtain⟨t2,e2⟩:=UQ r2 j (by simpa using h2);rw[show us.toArray[j]=us[j]'(by simpa using h1) by simp,show vs.toArray[j]=vs[j]'(by simpa using h2) by simp,e1,e2];exact Zcw _ _ _ _
 ·have e:((List.range (min us.toArray.size vs.toArray.size)).all (fun j=>ns.getD j 0==ms.getD j 0)&&us.toArray.size==vs.toArray.size)=decide (ns=ms):=by
   rw[Zdg,ZaJ,Zbm,Za5,Zco,Zas,Zas];constructor
   ·rintro⟨h,hl⟩;refine List.ext_getElem .o fun i h1 h2=> ?_;have:=h i (by rw[ZbC];omega);simpa[h1,h2] using this
   ·rintro rfl;exact⟨fun j _=>by simp,.o⟩
  rw[e];exact⟨.bl _,H,I,rfl,q⟩
end
structure Cells (base:Heap)(scope:Scope)(cl:List (Str×Addr))(N:List Str)(vs:List V):Prop where
 len:vs.length=N.length
 only:∀z,scope.names.lookup z=some .cell∨scope.names.lookup z=some .free->z∈N
 at_:∀(i:Nat) x v,N[i]? =some x->vs[i]? =some v->scope.names.lookup x=some .free/\∃c u,cl.lookup x=some c/\base.IsCell c (some u)/\RelV v u
 mem:∀z c,cl.lookup z=some c->z∈N
 inj:∀x y c,cl.lookup x=some c->cl.lookup y=some c->x=y
theorem Tf {P:Program}{w:World}{K:ZgE}{mg:Str->Option Value}{base:Heap}{f:Addr}{q:Str}{params:Arguments}{body:Expr}{scope:Scope}{cl:List (Str×Addr)}{pm:Value}{c:Addr}{ct:Value}{k:Nat}{N:List Str}{ws:List V}{sp:Sp}
    (T:Cells base scope cl N ws) (hk:scope.kind=.function) (PU:scope.isCoroutine=false) (Pq:scope.isGenerator=false) (lQ:∀z∈scope.names,z.2≠.cell)
    (dc:∀vs H Q E,sp vs H Q E->vs=[]/\H f=some (pZ f q params body scope cl pm c ct)/\H c=some (iS c q))
    (hb:∀(A:Around) (outer:List Env) (s:Shared) (H:Hp) (Q:VK) (E:XK),bf k (A.deeper (PySem.W.envX q scope s.heap.objs.size f (.ref c) cl))->sp [] H Q E->
      ∃t,PE (tQ P w K mg base N q scope f (.ref c) cl A outer s H E) body t/\t (ws.map some) H Q):
    aw P w K mg base (bc P w) (k+1) f (PySem.W.kla_fn "<lambda>" q params body scope cl pm (.ref c) ct) [] sp:=by
  refine⟨fun vs H Q E h=>by rw[(dc vs H Q E h).1];rfl,fun A outer s H args us vs Q E hr e0 Bm rv h=> ?_⟩;obtain⟨rfl,hf,hc⟩:=dc _ _ _ _ h;have of:s.heap.get? f=some (PySem.W.kla_obj "<lambda>" q params body scope cl pm c ct):=(e0.ar f _ hf).1;have oc:s.heap.CodeRec (.ref c) q:=(e0.ar c _ hc).1;have lim:s.heap.NoLimit:=e0.mod.nolimit.keeps fun b o e=> (e0.bs b o e).1;refine PySem.W.kla_callFunE hr.depth of rfl PU Pq rfl oc (Bm _ _ _ _ ?_);refine ZeG lQ (fun z hz=>by cases rv;exact absurd hz (by simp)) (fun h1 sj OF=> ?_) hk;have k1:∀b o,s.heap.get? b=some o->h1.get? b=some o:=fun b o e=>OF.extBut b o (Zay (Zal e)) (gc _ e);refine⟨lim.keeps k1,?_⟩;show codeAny _ A (.expr body (PySem.W.envX q scope s.heap.objs.size f (.ref c) cl)) _ _;obtain⟨t,ht,hq⟩:=hb A outer s H Q E (hr.deeper _) h;have BR:∀{a:Addr}{v:Option Value},base.IsCell a v->h1.IsCell a v/\H a=none:=fun {a v} ⟨o,ho,hd⟩=> ⟨⟨o,k1 _ _ (e0.bs _ _ ho).1,hd⟩,(e0.bs _ _ ho).2⟩;have Gm:∀z,z∈N->∃c u,cl.lookup z=some c/\base.IsCell c (some u):=fun z hz=>by
    obtain⟨i,hi,e⟩:=ZeR hz;have de:i<ws.length:=by rw[T.len];exact hi
    obtain⟨_,c,u,h1,h2,_⟩:=T.at_ i z ws[i] (by rw[<-e];exact Zax hi) (Zax de);exact⟨c,u,h1,h2⟩
  have cells:∀z a,cl.lookup z=some a->∃v,base.IsCell a v:=fun z a hz=>by obtain⟨c,u,h1,h2⟩:=Gm z (T.mem z a hz);rw[hz]at h1;cases h1;exact⟨_,h2⟩
  have I:Inv (tQ P w K mg base N q scope f (.ref c) cl A outer s H E) [] (ws.map some) H {s with heap:=h1,toks:=s.toks+(([]:List Str).zip us).length} :=by
    refine⟨⟨e0.mod,hk,rfl,rfl,Zaq _,fun a b cc h2 h3=> ?_,fun a ha=> ?_,fun a cc hn=>Bool.noConfusion hn,fun _=>e0.hd,Around.frames_deeper e0.frames,.inr ⟨rfl,rfl⟩,fun b z=>absurd (show b∈([]:List Addr) from z) (by simp),e0.bs,e0.iz,fun b _ _ z=>absurd (show b∈([]:List Addr) from z) (by simp),fun b z=>absurd (show b∈([]:List Addr) from z) (by simp),e0.dg,e0.gB⟩,
      rfl,e0.bare,Un.kept k1,⟨_,sj,fun i z v h2 h3 h4=> ?_⟩,fun z a hz=> ?_,e0.ar.fresh (Zaq _),fun z a hz=> ?_,fun p hp=>absurd (show p∈([]:List (Addr×Obj)) from hp) (by simp),e0.ar.kept k1,(by rw[Zae];exact T.len)⟩
    · have h2:cl.lookup a=some cc:=h2;have h3:cl.lookup b=some cc:=h3;exact T.inj _ _ _ h2 h3
    · obtain⟨c,_,h1,_⟩:=Gm a (T.only a ha);exact⟨c,h1⟩
    · have FA:(ws.map some)[i]? =some (some v):=h3;rw[Zbi]at FA;obtain⟨v',e',QM⟩:=Za2.mp FA;cases QM;obtain⟨kx,c,u,h5,h6,h7⟩:=T.at_ i z v h2 e';exact⟨u,h7,.inr ⟨.inr kx,c,h5,(BR h6).1⟩⟩
    · obtain⟨v,b⟩:=cells z a hz;exact⟨v,(BR b).1⟩
    · obtain⟨v,b⟩:=cells z a hz;exact(BR b).2
  refine PySem.W.kla_codeExpr (ZaI (ht [] _ _ H _ I hq) (fun u s' hs=> ?_) fun e s' hs=>hs);obtain⟨v,H',J,r,z⟩:=hs;exact⟨v,H',J.os,J.bare,J.base,J.ar,r,z⟩
end L2
namespace L2
open PySem PySem.Spec PyProof.Rows
section
variable {prog:Program}{w:World}{A:Around}{E:Value->Shared->Prop}{s:Shared}
theorem JP {t sl:Addr}{items:Array Value}{vl vu:Value}{lo hi:Option Int}{Q:Value->Shared->Prop}(ht:IsTup s.heap t items)(hs:s.heap.IsSliceOf sl vl vu .none)(pl:IsPart vl lo)(pu:IsPart vu hi)
  (hw:HT.aJ items.size 0 lo=0/\HT.aJ items.size items.size hi=items.size) (h:Q (.ref t) s):wpAny (model prog w) A (getItem (.ref t) (.ref sl)) Q E s:=by
 obtain⟨os,nV,wq,sH⟩:=id hs;have Ko:s.TypeIs (.ref sl) "slice" :=⟨os,nV,wq⟩;unfold getItem
 try with_reducible refine ZaU ?_
 first |refine eg (Zao ?_) |skip
 refine eg (wpAny_sequenceKey ht.typeIs .d (eg (Zcf (name:=Str.ofString "__getitem__") ht.typeIs ZbE (ZcI ZbE ht.typeIs entry_tuple_getitem ?_ (args_tuple_getitem _ _)))));refine(show wpAny _ _ (Builtin.Tuple.tupleItemsOf (.ref t) >>=_) _ _ s from eg (tupleItemsOf_ ht (eg (wpAny_typeOf Ko ?_))));rw[ZaG .d];refine eg (HT.Dp hs pl pu ?_);rw[hw.1,hw.2];refine(show wpAny _ _ (if ((((0:Nat):Int)==0&&(1:Int)==1&&(items.size-0)==items.size)=true) then _ else _) _ _ s from ?_);rw[ZaG (by simp)];unfold Builtin.Tuple.tupleIsExact;refine eg ?_
 wp_walk using wpAny_typeOf ht.typeIs
 exact⟨_,rfl,Zao h⟩
end
section
variable {X:Cx}
def rp (K:ZgE):V->Option Int->Option Int->Hp->VK->Prop:=fun x lo hi H Q=> ∃a xs,x=.ref a/\H a=some (.tup xs)/\∀(c:Addr) H',ak H H'->H' c=some (.tup (dh xs lo hi))->Q (.ref c) H'
theorem YI:qH X (rp X.K):=by
 intro pins s σ H x v vl vu lo hi sl Q I rx hs pl pu h;obtain⟨a,xs,rfl,ha,q⟩:=h;have hx:aq X.K H a xs:=aq.of ha;by_cases hw:HT.aJ xs.length 0 lo=0/\HT.aJ xs.length xs.length hi=xs.length
 ·cases rx;obtain⟨ae,r,ht,hz⟩:=I.tuple hx;have hlen:ae.toArray.size=xs.length:=by rw[Zas];exact r.length.symm
  refine⟨"tuple",_,ZbE.lookup,ht.typeIs,?_⟩;refine JP ht hs pl pu (by rw[hlen];exact hw) ⟨.ref a,H,I,rfl,q a H (ak.refl _) ?_⟩;rw[ha];unfold dh;rw[hw.1,hw.2,Zeq,ZfP,ZaH]
 ·exact B6 pins s σ H (.ref a) v vl vu lo hi sl Q I rx hs pl pu ⟨a,xs,rfl,hx,hw,fun p hp=>q p _ (fun b u hb=>by rw[Zi (Zd hb hp)];exact hb) Zc⟩
end
theorem J7:fillsNumberSlot (.type "tuple") "mul" =pure false:=
 PySem.fillsNumberSlot_seq (id:= "tuple.__mul__") (r:=some (.builtin "tuple.__rmul__")) Zdw.lookup (by decide+kernel) PySem.F.slot_tuple_rmul.lookup (by decide+kernel)
theorem Zab:seqRepeat? (.type "tuple")=pure (some (.builtin "tuple.__mul__")):=by unfold seqRepeat?;rw[PySem.seqSlot_of (T:= "tuple") (name:= "__mul__") (id:= "tuple.__mul__") Zdw.lookup (by decide+kernel),PySem.seqSlot_of (T:= "tuple") (name:= "__rmul__") (id:= "tuple.__rmul__") PySem.F.slot_tuple_rmul.lookup (by decide+kernel)];rfl
theorem WG (a:Int)(t:Tok)(l:Addr)(items:Array Value)(n:Nat)(d:Option Addr)(sl:Array (Option Value)):
  Meets (Builtin.«int.__rmul__» ⟨[.int a t,.ref l],[]⟩) (fun _ R s=>s.heap.get? l=some {cls:=.type "tuple",dict:=d,data:=.seq items n,slots:=sl}/\R (.ok (.ret Value.notImplemented)) s):=
 .of_wp fun prog w A R s h=>by obtain⟨hp,g,d,tk,os⟩:=s;obtain⟨hl,h⟩:=h;wp_walk;exact⟨_,rfl,h⟩
theorem Ur (l:Addr)(items:Array Value)(n:Nat)(d:Option Addr)(sl:Array (Option Value))(u:Tok):
  Meets (Builtin.«tuple.__mul__» ⟨[.ref l,.int 1 u],[]⟩) (fun _ R s=>s.heap.get? l=some {cls:=.type "tuple",dict:=d,data:=.seq items n,slots:=sl}/\R (.ok (.ret (.ref l))) s):=
 .of_wp fun prog w A R s h=>by
  obtain⟨hp,g,d,tk,os⟩:=s;obtain⟨hl,h⟩:=h
  wp_walk;exact⟨_,rfl,h⟩
theorem WR (l:Addr)(items:Array Value)(n:Nat)(d:Option Addr)(sl:Array (Option Value))(x:Int)(u:Tok)(h0:items.isEmpty=false)(h1:(x==1)=false)(h2:1<=x)(hs:items.size*x.toNat<=1000)(hx:x<=1000)(hz:(List.foldl (fun x1 x2=>x1++x2) #[] (List.replicate x.toNat items)).size<=sizeLine):
  Meets (Builtin.«tuple.__mul__» ⟨[.ref l,.int x u],[]⟩) (fun _ R s=>s.heap.get? l=some {cls:=.type "tuple",dict:=d,data:=.seq items n,slots:=sl}/\R (.ok (.ret (Value.ref s.heap.objs.size))) {s with heap:=s.heap.push {cls:=Value.type "tuple",data:=Data.seq (List.foldl (fun x1 x2=>x1++x2) #[] (List.replicate x.toNat items))},toks:=s.toks}):=
 .of_wp fun prog w A R s h=>by
  obtain⟨hp,g,d,tk,os⟩:=s;obtain⟨hl,h⟩:=h;have a1:decide (x< -(2^63))=false:=Zav .o;have a2:decide (x>=2^63)=false:=Zav .o;have a3:decide (x<=0)=false:=Zav .o;have hn:(items.size:Int)*x<=1000:=by
   have e:x=(x.toNat:Int):=.o;rw[e]
   exact_mod_cast hs
  have a4:¬((items.size:Int)*x> (2^63-1)/8):=.o;have a5:Builtin.Tuple.tupleTooMany ((items.size:Int)*x)=false:=by unfold Builtin.Tuple.tupleTooMany;have e:=Zaz;simp;omega
  wp_walk
  rw[ZaD (by rw[a1,a2];decide)];have ht:IsTup hp l items:=⟨_,hl,rfl,n,rfl⟩;refine eg (tupleItemsOf_ ht ?_);dsimp only;rw[ZaD (by rw[h0,h1];decide),ZaD (by rw[a3,h0];decide),ZaD a4,a5,ZaD Zaj]
  wp_walk;exact⟨_,rfl,h⟩
section
variable {X:Cx}
def Mj:R2:=fun x y H Q=> ∃a k xs,x=.ref a/\y=.int k/\H a=some (.tup xs)/\xs≠[]/\1<=k/\k<=1000/\xs.length*k.toNat<=1000/\∀(c:Addr) H',ak H H'->H' c=some (.tup (List.replicate k.toNat xs).flatten)->Q (.ref c) H'
theorem Hr:aZ X (binaryOp .Mult) Mj:=by
  intro pins s σ H x y v u Q I rx ry h;obtain⟨l,k,xs,rfl,rfl,hH,bW,h1,h2,hz,q⟩:=h;cases rx;obtain⟨t,rfl⟩:=ry;obtain⟨ae,r,pl,_⟩:=I.tuple (aq.of hH);have hl:=r.length;obtain⟨⟨cls,dd,data,sl⟩,ho,il,n,hd⟩:=id pl;simp only at il hd;subst il hd;have f0:∀m:Nat,List.foldl (fun x1 x2=>x1++x2) #[] (List.replicate m ae.toArray)=(List.replicate m ae).flatten.toArray:=fun m=>by have:=Wb ae m [];rw[ZeQ]at this;exact this
  have hsz:ae.toArray.size*k.toNat<=1000:=by rw[Zas,<-hl];exact hz
  have h0:ae.toArray.isEmpty=false:=by
    cases ae with
    |nil=>
     cases xs with
     |nil=>exact absurd rfl bW
     |cons a b=>cases hl
    |cons a b=>rfl
  refine Ze5 (T:= "tuple") (U:= "int") .d ⟨_,ho,rfl⟩ (fun s'=>ZfY s' k t) J7 PySem.F.fills_int_mul PySem.F.slot_int_rmul Zab PySem.F.slot_int_index.lookup
    (Zdh PySem.F.slot_int_rmul (ZfY s k t) PySem.F.entry_int_rmul (PySem.F.args_int_rmul_2 _ _) (WG k t l ae.toArray n dd sl)
      ⟨ho,rfl,⟨_,ho,rfl⟩,?_⟩)
  by_cases hk:k=1
  · subst hk;refine Zdh Zdw ⟨_,ho,rfl⟩ PySem.F.entry_tuple_mul (Zfg _ _) (Ur l ae.toArray n dd sl t) ⟨ho,⟨.ref l,H,I,rfl,q l H (ak.refl _) ?_⟩⟩;rw[hH];simp
  · refine Zdh Zdw ⟨_,ho,rfl⟩ PySem.F.entry_tuple_mul (Zfg _ _) (WR l ae.toArray n dd sl k t h0 (by simpa using hk) h1 hsz h2 ?_) ⟨ho,?_⟩
    · rw[f0,Zas,Cm,Zaz];rw[Zas,ZfN]at hsz;omega
    · rw[f0];refine⟨.ref s.heap.objs.size,upd H s.heap.objs.size (.tup (List.replicate k.toNat xs).flatten),?_,rfl,q _ _ (fun b o hb=>by rw[Zi (Zd hb I.fresh)];exact hb) Zc⟩;refine I.laid (t':=s.toks) (fun b o e=>gc _ e) (Zaq _) ⟨by rw[Cm,Zaz,ZfN];omega,_,r.rep k.toNat,?_⟩;exact⟨⟨_,Zau s.heap rfl,rfl,0,rfl⟩,_,Zau s.heap rfl,rfl⟩
end
end L2
namespace L2
open PySem PySem.Spec PyProof.Rows SeqAt
end L2
namespace U
open PySem L2 PyProof.Rows
def fk (K:ZgE)(H:Hp)(a:Addr)(ns:List Int):Prop:=(∃o,H a=some (.dA o (.lst (ns.map V.int))))∨∃(o:Obj) (ae:Array Value) (n:Nat),K.lookup a=some o/\o.cls=.type "list" /\o.dict=none/\o.data=.seq ae n/\ae.size<=sizeLine/\Vals (ns.map V.int) ae.toList
theorem fk.sq {K:ZgE}{H:Hp}{a:Addr}{ns:List Int}(h:fk K H a ns):ao K H a (ns.map V.int):=by
 rcases h with ⟨o,h⟩ |h
 ·exact .inl (.inr ⟨o,h⟩)
 ·exact .inr h
theorem fk.same {K:ZgE}{H H':Hp}{a:Addr}{ns:List Int}(h:fk K H a ns)(s:ak H H'):fk K H' a ns:=by
 rcases h with ⟨o,h⟩ |h
 ·exact .inl ⟨o,s _ _ h⟩
 ·exact .inr h
theorem fk.x {K:ZgE}{H H':Hp}{a p:Addr}{ns:List Int}{o:HO}(h:fk K H a ns)(s:aV p H H')(hp:H p=some o)(hn:∀ob u,o≠.dA ob u):fk K H' a ns:=by
 rcases h with ⟨ob,h⟩ |h
 ·exact .inl ⟨ob,s _ _ h fun z=>by rw[z,hp]at h;cases h;exact hn _ _ rfl⟩
 ·exact .inr h
end U
namespace U
open PySem L2 PyProof.Rows PySem.Spec
def uv (mg:Str->Option Value)(h:Heap):Prop:=∃bm ob,mg "__builtins__" =some (.ref bm)/\bm≠builtinsNs/\h.get? bm=some ob/\ob.cls=.type "module" /\ob.dict=some builtinsNs/\ob.data=.plain
theorem ZbR {P:Program}{w:World}{K:ZgE}{mg mb:Str->Option Value}{k:Nat}{fa a:Addr}{Pts:List Addr}{fd:FuncData}{x:Str}{sp:Sp}{aG:Shared}{vs:List Value}{ns:List Int}
  (KX:K.In aG.heap) (sj:aG.heap.Ns mainGlobals mg) (hb:aG.heap.Ns builtinsNs mb) (P1:∀x:Str,x≠ "__name__" ->mb x=bootBuiltins x) (O6:aG.heap.NoLimit) (hg:aG.gens= #[])
  (ha:aG.heap.get? a=some {cls:=.type "list",data:=.seq vs.toArray}) (hi:IntsAre vs ns) (hl:ns.length<=sizeLine) (hr:bf k callerA)
  (eE:∀Pt∈Pts,aG.heap.get? Pt=some (PySem.W.tabObj #[])) (Qk:∀Pt∈Pts,∃c,PySem.W.CodeHd aG.heap c Pt) (Qd:∀Pt∈Pts,K.lookup Pt=none) (Bl:uv mg aG.heap)
  (F:∀base:Heap,K.In base->base.Ns mainGlobals mg->uv mg base->aw P w K mg base aF k fa fd [x] sp) (P0:∀(s:Shared) (u:Value),BindsTo s fd ⟨[u],[]⟩ [(x,u)])
  (dc:∀H:Hp,fk K H a ns->(∀Pt∈Pts,H Pt=some (.bM #[]))->sp [.ref a] H (fun v _=>v=.bl true) fun _ _ _=>False):
  codeAny (model P w) callerA (.call (.ref fa) ⟨[.ref a],[]⟩) (fun r s'=>r=.ok (.ret (.bool true))/\OldK aG.heap s'.heap/\s'.os=aG.os/\AllBare s'.gens) aG:=by
 have rv:=Uz hi;have NM:=hi.length;have sU:∀{Pt:Addr},Pt∈Pts->aG.heap.get? Pt=some {cls:=.none,data:=.fields #[]} :=fun h=>eE _ h;have Fo:a∉Pts:=fun z=>by have h:=sU z;rw[ha]at h;cases h
 have core:∀H:Hp,(∀b,b∉Pts->H b=none∨∃o xs,H b=some (.dA o (.lst xs)))->fk K H a ns->(∀Pt∈Pts,H Pt=some (.bM #[]))->bC P w H aG.heap->(∀b,H b≠none->b=a∨b∈Pts)->(H a≠none->K.lookup a=none)->
   codeAny (model P w) callerA (.call (.ref fa) ⟨[.ref a],[]⟩) (fun r s'=>r=.ok (.ret (.bool true))/\OldK aG.heap s'.heap/\s'.os=aG.os/\AllBare s'.gens) aG:=by
  intro H hO hS hP ar hA hK;have BU:∀{b:Addr}{o:Obj},aG.heap.get? b=some o->H b=none->(iN aG.heap H).get? b=some o:=fun e n=>Im e n;have lu:∀{b:Addr}{o:Obj},aG.heap.get? b=some o->(∀vs n,o.data≠.seq vs n)->(∀ps,o.data≠.fields ps)->H b=none:=fun {b o} e d1 d2=>by
   cases q:H b with
   |none=>rfl
   |some u=>
    rcases hA b (by rw[q];simp) with e' |e'
    ·subst e';rw[ha]at e;cases e;exact absurd rfl (d1 _ _)
    ·rw[sU e']at e;cases e;exact absurd rfl (d2 _)
  have vD:∀{b:Addr}{m:Str->Option Value},aG.heap.Ns b m->(iN aG.heap H).Ns b m:=fun {b m} ⟨o,es,ep,e,d,r⟩=> ⟨o,es,ep,BU e (lu e (fun _ _ z=>by rw[d]at z;cases z) fun _ z=>by rw[d]at z;cases z),d,r⟩;have Fq:K.In (iN aG.heap H):=fun b o e=>BU (KX b o e) (by
   cases q:H b with
   |none=>rfl
   |some u=>
    rcases hA b (by rw[q];simp) with e' |e'
    ·subst e';rw[hK (by rw[q];simp)]at e;cases e
    ·rw[Qd _ e']at e;cases e)
  have hM:Mod K mg (iN aG.heap H):=⟨Fq,vD sj,⟨mb,vD hb,P1⟩,let ⟨mc,h1,h2⟩:=O6;⟨mc,vD h1,h2⟩⟩;have PZ:uv mg (iN aG.heap H):=let ⟨bm,ob,b1,b2,b3,b4,b5,b6⟩:=Bl;⟨bm,ob,b1,b2,BU b3 (lu b3 (fun _ _ z=>by rw[b6]at z;cases z) fun _ z=>by rw[b6]at z;cases z),b4,b5,b6⟩;have e0:mi P w K mg (iN aG.heap H) callerA [] aG H:=⟨rfl,hM,fun b o e=>Hn e,Nat.le_of_eq (UR _ _),trivial,fun b hb=>absurd (show b∈([]:List Addr) from hb) (by simp),ar,.of_eq hg,trivial⟩;refine Zcy ((F _ Fq (vD sj) PZ).run callerA [] aG H ⟨[.ref a],[]⟩ [.ref a] [.ref a] _ _ hr e0 (P0 aG (.ref a)) (.cons rfl .nil) (dc H hS hP)) fun r s' h=> ?_;cases r with
  |error e=>exact False.elim h
  |ok fl=>
   cases fl with
   |next=>exact False.elim h
   |brk=>exact False.elim h
   |cont=>exact False.elim h
   |ret u=>
    obtain⟨v,H',os,bare,un,EL,r',q⟩:=h;have q':v=.bl true:=q;subst q';obtain rfl:u=Value.bool true:=r';have old:∀b o,aG.heap.get? b=some o->asItWas aG.heap s'.heap b o:=fun b o e=>by
     cases q:H b with
     |none=>exact .inl (un.keep b o e q (by intro z;exact absurd (show b∈([]:List Addr) from z) (by simp)) (by simp))
     |some u=>
      by_cases oh:b∈Pts
      ·obtain⟨more,z⟩:=un.fv b _ (hP b oh);have e2:s'.heap.get? b=some {cls:=.none,data:=.fields (#[]++more)} :=EL b _ z;rw[sU oh]at e;cases e;obtain⟨c,hC⟩:=Qk b oh;exact .inr (.inl ⟨(hC.tab (eE b oh)).isCodeTable,rfl, #[],more,rfl,e2⟩)
      ·rcases hO b oh with z |⟨ob,xs,z⟩
       ·rw[q]at z;cases z
       ·have z2:=un.fN b ob _ z;obtain⟨e1,_⟩:=ar b _ z;obtain⟨e2,_⟩:=EL b _ z2;rw[e]at e1;cases e1;exact .inl e2
    exact⟨rfl,⟨old,fun b o e=>un.there b o e (by simp)⟩,os,bare⟩
 cases hk:K.lookup a with
 |some o=>
  have e:=KX a o hk;rw[ha]at e;cases e;refine core (fun b=>if b∈Pts then some (.bM #[]) else none) (fun b n=> .inl (ZaD n)) (.inr ⟨_,vs.toArray,_,hk,rfl,rfl,rfl,by rw[Zas,NM];exact hl,by simpa using rv⟩) (fun Pt h=>ZaG h) (fun b u z=> ?_) (fun b z=> ?_) fun z=>absurd (ZaD Fo) z
  ·by_cases hb:b∈Pts
   ·have z':=(ZaG hb).symm.trans z;cases z';exact sU hb
   ·have z':=(ZaD hb).symm.trans z;cases z'
  ·by_cases hb:b∈Pts
   ·exact .inr hb
   ·exact absurd (ZaD hb) z
 |none=>
  refine core (fun b=>if b∈Pts then some (.bM #[]) else if b=a then some (.dA {cls:=.type "list",data:=.seq vs.toArray} (.lst (ns.map V.int))) else none) (fun b n=> ?_) (.inl ⟨{cls:=.type "list",data:=.seq vs.toArray},(ZaD Fo).trans (ZaG rfl)⟩) (fun Pt h=>ZaG h) (fun b u z=> ?_) (fun b z=> ?_) fun _=>hk
  ·by_cases hb:b=a
   ·exact .inr ⟨_,_,(ZaD n).trans (ZaG hb)⟩
   ·exact .inl ((ZaD n).trans (ZaD hb))
  ·by_cases hP:b∈Pts
   ·have z':=(ZaG hP).symm.trans z;cases z';exact sU hP
   ·by_cases hb:b=a
    ·have z':=((ZaD hP).trans (ZaG hb)).symm.trans z;cases z';subst hb;exact⟨ha,by rw[Zae];exact hl,vs,_,rv,ha⟩
    ·have z':=((ZaD hP).trans (ZaD hb)).symm.trans z;cases z'
  ·by_cases hP:b∈Pts
   ·exact .inr hP
   ·by_cases hb:b=a
    ·exact .inl hb
    ·exact absurd ((ZaD hP).trans (ZaD hb)) z
theorem Kg {l:PySem.W.OpenLaw}{n k:Nat}{q:Program}{loose:List Str}{XP:(Str->Option Value)->Heap->Prop}{YP:World->Heap->Prop}{d:DefRec}{K:Params->ZgE}{sp:ZgE->Sp}{x:Str}{Pts:List Addr}
    (hn:l.most=some n) (kB:n<=sizeLine) (Bf:d.params.defaults=[]) (hr:bf k callerA)
    (hY:∀(w:World) (h:Heap),YP w h->(K w.params).In h) (P8:∀(w:World) (h:Heap),YP w h->∀Pt∈Pts,h.get? Pt=some (PySem.W.tabObj #[]))
    (hC:∀(w:World) (h:Heap),(K w.params).In h->∀Pt∈Pts,∃c,PySem.W.CodeHd h c Pt) (Qe:∀w:World,∀Pt∈Pts,(K w.params).lookup Pt=none)
    (F:∀(w:World) (mg:Str->Option Value) (fa:Addr) (h:Heap),(K w.params).In h->h.Ns mainGlobals mg->mg d.name=some (.ref fa)->
      ∃fd:FuncData,(∀(s:Shared) (u:Value),BindsTo s fd ⟨[u],[]⟩ [(x,u)])/\
       ∀base:Heap,(K w.params).In base->base.Ns mainGlobals mg->uv mg base->aw l.prog w (K w.params) mg base aF k fa fd [x] (sp (K w.params)))
    (dc:∀(K:ZgE) (H:Hp) (a:Addr) (ns:List Int),ns.length<=n->fk K H a ns->(∀Pt∈Pts,H Pt=some (.bM #[]))->sp K [.ref a] H (fun v _=>v=.bl true) fun _ _ _=>False):
    PySem.W.WalkO q loose XP YP l.row.toRowW d [] (fun f vs=>PySem.call f vs):=by
  refine Kf.RC hn Bf fun w bY aG mg mb fa o pm cd doc a vs ns G Y ho hd cV hmg AS hints hlen hg=> ?_;have KX:=hY w _ Y;obtain⟨fd,hb,hF⟩:=F w mg fa _ KX G.T.g hmg;exact ZbR KX G.T.g G.T.b G.T.builtins G.T.nolimit hg AS hints (ZaL hlen kB) hr (P8 w _ Y) (hC w _ KX) (Qe w) G.T.bmain hF hb (fun H hS hP=>dc (K w.params) H a ns hlen hS hP)
def aR (K:ZgE)(x:Str)(st:Stmt):Prop:=∃f fd,PySem.W.nsIn K mainGlobals x=some (some (.ref f))/\aE K x x st f fd
theorem aW {K:ZgE}{x:Str}{st:Stmt}{f:Addr}{oc:Value}{od an:Option Addr}{dZ:Array (Option Value)}{kV doc pm cdv ct:Value}(e1:PySem.W.nsIn K mainGlobals x=some (some (.ref f)))
  (e2:K.lookup f=some ⟨oc,od,.func (PySem.W.fnOf x x (dC st) (cE st) (ay st) .none kV doc pm an cdv ct),dZ⟩) (e3:PySem.W.codeIn K cdv x=true) (e4:PySem.W.keepIn K (.ref f)=true):aR K x st:=⟨f,_,e1,Ua e2 e3 e4⟩
section
variable {P:Program}{w:World}{K:ZgE}{mg:Str->Option Value}{base:Heap}
abbrev ml (x:Str)(st:Stmt)(ps:List Str):Prop:=∀(kV doc pm:Value) (an:Option Addr) (cdv ct:Value) (us:List Value),us.length=ps.length->bindArgs (PySem.W.fnOf x x (dC st) (cE st) (ay st) .none kV doc pm an cdv ct) ⟨us,[]⟩=pure (ps.zip us)
theorem aR.to {h:Heap}{x:Str}{st:Stmt}{ps:List Str}{k:Nat}{sp:Sp}(d:aR K x st)(KX:K.In h)(G:h.Ns mainGlobals mg)(hb:ml x st ps)(ok:∀f fd,aE K x x st f fd->aw P w K mg base aF k f fd ps sp):Def P w K mg base k x ps sp:=by obtain⟨f,fd,e,F⟩:=d;exact⟨f,fd,ok f fd F,Zbc KX G e,F.kp,F.binds hb⟩
theorem aR.kI {h:Heap}{x:Str}{st:Stmt}{ps:List Str}{k:Nat}{sp:Sp}(d:aR K x st)(KX:K.In h)(G:h.Ns mainGlobals mg)(hb:ml x st ps)(ok:∀f fd,aE K x x st f fd->aw P w K mg base (bc P w) k f fd ps sp):dW P w K mg base k x ps sp:=by obtain⟨f,fd,e,F⟩:=d;exact⟨f,fd,ok f fd F,Zbc KX G e,F.kp,F.binds hb⟩
def vE (K:ZgE)(x:Str):Bool:=match PySem.W.nsIn K mainGlobals x with |some none=>true |_=>false
theorem XH {h:Heap}{x:Str}(KX:K.In h)(G:h.Ns mainGlobals mg)(e:vE K x=true):mg x=none:=by
 unfold vE at e;split at e
 ·rename_i q;exact PySem.W.mg_none_of KX G q
 ·cases e
end
end U
namespace L2
open PySem PySem.Spec PyProof.Rows SeqAt
end L2
namespace L2
open PySem PySem.Spec PyProof.Rows
section
variable {X:Cx}{CX:fZ}{k:Nat}{f:Addr}{fd:FuncData}{ps:List Str}{ds:List Value}{cw:List V}{sp:Sp}{E:XK}{x:Str}{p pos:Pos}{e:Expr}{es:List Expr}{t:TA}
theorem ZbI {i:Nat}(F:aw X.prog X.w X.K X.mg X.base CX k f fd ps sp)(hr:bf k X.A)(hv:PE X (.Name x p) (gf i))(hk:PySem.W.keepIn X.K (.ref f)=true)(hb:Binds X.K fd ps ds)(hd:Vals cw ds)(hx:Passes CX X E)
  (ha:PA X (e::es) t) (he:starEach (e::es) X.env=(false,eval e X.env)::starEach es X.env:=by rfl) (cA:(backTo pos (starEach es X.env)).any (·.1)=false:=by rfl) (hc:X.calm=true:=by rfl):
  PE X (.Call (.Name x p) (e::es) [] pos) (fun σ H Q=>σ[i]? =some (some (.ref f))/\kJ sp cw E t σ H Q):=by
 intro pins s σ H Q I h;obtain⟨jl,h⟩:=h;refine ZbH (au (hv pins s σ H (fun v H1=>v=.ref f/\H1=H) I ⟨_,jl,rfl,rfl⟩) fun u s1 ⟨v,H1,I1,rv,e1,e2⟩=> ?_);subst e1 e2;cases rv;refine Zdz (h₀:=X.base) I1.ok.mod.kA hk (au (ha pos pins s1 σ H1 _ I1 h) fun us s2 ⟨vs,H2,I2,r,q⟩=> ⟨I2.bA,?_⟩) he cA;exact WD F hr hb hd hx I2 r q hc
end
theorem Uy:∀{ws:List Str}{ae:List Value},Vals (ws.map V.str) ae->∃l:List (Str×Tok),ae=strValues l/\l.map (·.1)=ws
 | [],_,.nil=> ⟨[],rfl,rfl⟩
 |w::ws,_,.cons h r=>by obtain⟨t,rfl⟩:=h;obtain⟨l,e1,e2⟩:=Uy r;refine⟨(w,t)::l,?_,by rw[ZaQ,e2]⟩;rw[e1];rfl
theorem UE:∀(l:List (Str×Tok)),Vals ((l.map (·.1)).map V.str) (strValues l)
 | []=> .nil
 |p::l=> .cons ⟨p.2,rfl⟩ (UE l)
section
variable {X:Cx}
theorem JI:uc X "str.join" (fun x xs H Q=> ∃(sep:Str) (p:Addr) (ws:List Str),x=.str sep/\xs=[.ref p]/\ao X.K H p (ws.map V.str)/\JoinOk sep ws=true/\Q (.str (Txt.join sep ws)) H):=by intro pins s σ H x xs v us Q I rx rv h;obtain⟨sep,p,ws,rfl,rfl,hp,ar,q⟩:=h;obtain⟨t,rfl⟩:=rx;obtain⟨u,rfl,ru⟩:=ZfD rv;cases ru;obtain⟨ae,ri,pl,_⟩:=I.list hp;obtain⟨l,e1,e2⟩:=Uy ri;subst e1;exact SC.join pl.isList e2 ar fun t' k=> ⟨.str _,H,I.tok _,⟨_,rfl⟩,q⟩
theorem Xx:uc X "str.split" (fun x xs H Q=> ∃z y:Str,x=.str z/\xs=[.str y]/\(y.length==0)=false/\z.length<=sizeLine/\(Builtin.Str.partsBetween z (Builtin.Str.occurrences z y 0 z.length (z.length+1)) y.length).length<=sizeLine/\
  ∀D,H D=none->Q (.ref D) (upd H D (.lst ((Txt.split z y).map V.str)))):=by
 intro pins s σ H x xs v us Q I rx rv h;obtain⟨z,y,rfl,rfl,hy,hz,hn,q⟩:=h;obtain⟨t,rfl⟩:=rx;obtain⟨u,rfl,t',rfl⟩:=ZfD rv;have fin:∀(l:List (Str×Tok)) (k:Nat),l.map (·.1)=Txt.split z y->l.length<=sizeLine->EP X pins σ Q (.ref s.heap.objs.size) {s with heap:=s.heap.push {cls:=.type "list",data:=.seq (strValues l).toArray},toks:=k} :=fun l k e hl=>by have hv:=UE l;rw[e]at hv;refine⟨.ref s.heap.objs.size,_,I.laid (t':=k) (a:=s.heap.objs.size) (o:=.lst ((Txt.split z y).map V.str)) (fun b o e=>gc _ e) (Zaq _) ⟨by rw[<-e,Zae,Zae];exact hl,strValues l,0,hv,Zau _ rfl⟩,rfl,q _ (I.ar.fresh (Zaq _))⟩
 cases c1:(decide (z.length<y.length)||decide (Builtin.Str.strKind z<Builtin.Str.strKind y)) with
 |true=>refine Zdh Zfz (Zgt s z t) Zfh (Ze2 _ _) (meets_str_split_cannot_occur z y t t' c1) ?_;exact fin [(z,t)] s.toks (by unfold Txt.split;rw[ZaG c1];rfl) bH
 |false=>
  cases c2:(Builtin.Str.occurrences z y 0 z.length (z.length+1)).isEmpty with
  |true=>refine Zdh Zfz (Zgt s z t) Zfh (Ze2 _ _) (meets_str_split_not_found z y t t' c1 hy c2) ?_;exact fin [(z,t)] s.toks (by unfold Txt.split;rw[ZaD (by rw[c1];decide),ZaG c2];rfl) bH
  |false=>
   refine Zdh Zfz (Zgt s z t) Zfh (Ze2 _ _) (meets_str_split_sep z y t t' c1 hy c2 hz hn) ?_;have e:Txt.split z y=Builtin.Str.partsBetween z (Builtin.Str.occurrences z y 0 z.length (z.length+1)) y.length:=by unfold Txt.split;rw[ZaD (by rw[c1];decide),ZaD (by rw[c2];decide)]
   have z1:=numbered_texts s.toks (Builtin.Str.partsBetween z (Builtin.Str.occurrences z y 0 z.length (z.length+1)) y.length);have:=fin (numbered s.toks (Builtin.Str.partsBetween z (Builtin.Str.occurrences z y 0 z.length (z.length+1)) y.length)) (s.toks+(Builtin.Str.partsBetween z (Builtin.Str.occurrences z y 0 z.length (z.length+1)) y.length).length) (z1.trans e.symm) (by have:=Zcr List.length z1;rw[Zae]at this;rw[this];exact hn);rw[<-strsFrom_eq]at this;exact this
end
theorem Zbr {prog:Program}{w:World}{A:Around}{I l:Addr}(bW:l≠I)(hI:I∉jS A.handled)(items:Array Value)(k:Nat)(hk:k<=items.size):
  WalksS prog w A I (I::l::jS A.handled) [I] (fun a b=>b=a) (items.size-k) (fun j v=>items[k+j]? =some v) (fun j s=>bL s.heap A.handled/\s.heap.IsListIter I l (k+j)/\s.heap.IsList l items) where
 sub:=fun b hb=>Zaf.mpr (.inl (Zar.mp hb))
 grefl:=fun _=>rfl
 gtrans:=fun _ _ _ p q=>q.trans p
 frame:=fun i s h' tk st _ kp=> ⟨st.1.at fun b hb o e=>kp b (.tail _ (.tail _ hb)) o e,st.2.1.at fun o e=>kp I (.head _) o e,st.2.2.at fun o e=>kp l (.tail _ (.head _)) o e⟩
 item:=fun i s Q E hi st hQ=>by have hx:items[k+i]? =some items[k+i]:=ZcF .o;refine ZcV st.2.1 st.2.2 hx fun h' A9 nR=> ?_;refine hQ _ {s with heap:=h'} hx ⟨st.1.at fun b hb o e=>nR.extBut b o (fun z=>hI (z▸hb)) e,A9,st.2.2.extBut nR.extBut bW⟩ ⟨fun b o hb e=>nR.extBut b o (fun z=>hb (Zar.mpr z)) e,rfl,rfl,rfl,Zaq _⟩
 done:=fun s Q E st hQ=>by refine JL st.1 st.2.1 st.2.2 (by rw[ZeX];omega) fun h' he=> ?_;exact hQ {s with heap:=h'} ⟨fun b o hb e=>he b o (fun z=>hb (Zar.mpr z)) e,rfl,rfl,rfl,Zaq _⟩
 self:=fun _ _ _ _ st hQ=>Zet st.2.1 hQ
theorem ZbS {items:List Value}{u:Value}{acc:Array Value}{n:Nat}(hn:n=(u::items).toArray.size-1)(h:ItemsOf (fun j v=> (u::items).toArray[1+j]? =some v) acc n):acc.toList=items:=by
 obtain⟨h1,h2⟩:=h;have hs:acc.size=items.length:=by rw[h1,hn];simp
 refine List.ext_getElem? fun j=> ?_;rw[ZdI];by_cases hj:j<acc.size
 ·have e:=h2 j acc[j] (ZcF hj);rw[ZcF hj,<-e,Nat.add_comm];simp
 ·rw[ZeX.mpr .o,List.getElem?_eq_none_iff.mpr .o]
theorem ZaB {prog:Program}{w:World}{A:Around}{E:Value->Shared->Prop}{s:Shared}{l:Addr}{u:Value}{rest:List Value}{Q:List Value->Shared->Prop}(hh:bL s.heap A.handled)(hl:s.heap.IsList l (u::rest).toArray)(hz:rest.length<=sizeLine)
  (hQ:∀(h':Heap) (tk:Nat),(∀b o,s.heap.get? b=some o->h'.get? b=some o)->Q [u,.ref h'.objs.size] {s with heap:=h'.push {cls:=.type "list",data:=.seq rest.toArray},toks:=tk}):
  wpAny (model prog w) A (unpackItems (.ref l) 2 (some 1)) Q E s:=by
 have aI:l≠s.heap.objs.size:=by obtain⟨o,ho,_⟩:=hl;exact Zay (Zal ho)
 unfold unpackItems;refine eg ?_;unfold notIterableAtAll;refine eg (ZeL hl.typeIs slot_list_iter.lookup (Zao ?_));simp only[Zbe,Zdd];refine eg (ZaU (Zde hl ?_));refine eg (ZaU ?_);show wpAny _ _ (pyNext (.ref s.heap.objs.size) >>=_) _ _ _;have cg:({s with heap:=s.heap.push {cls:=.type "list_iterator",data:=.fields #[.ref l,.int 0 0]} } :Shared).heap.IsList l (u::rest).toArray:=hl.push _;refine eg (ZcV (i:=0) (x:=u) ⟨_,Zau _ rfl,rfl,rfl⟩ cg rfl fun h1 EY fe=> ?_);refine eg (ZaU ?_);show wpAny _ _ (pure []) _ _ _;refine Zao (Zao ?_);rw[ZaD (by show ¬(1<1);decide)];have eB:=cg.extBut fe.extBut aI;have k1:∀b o,s.heap.get? b=some o->h1.get? b=some o:=fun b o e=>fe.extBut b o (Zay (Zal e)) (gc _ e);have W:=Zbr (prog:=prog) (w:=w) (A:=A.in1) aI (fun m=>by obtain⟨o,_,q,_⟩:=hh.mem m;exact Zba _ (Zal q)) (u::rest).toArray 1 (by simp);refine eg (ZaU (wpAny_collect_iter (T:= "list_iterator") (.inr (.inr (.inl rfl))) W (fun i s' st=>st.2.1.typeIs) ⟨hh.keeps k1,EY,eB⟩ ?_ (by simp) ?_ (by simpa using hz)))
 ·intro b hb;obtain⟨o1,g1,_⟩:=EY;obtain⟨o2,g2,_⟩:=eB;rcases Zaf.mp hb with rfl |hb
  ·exact Zal g1
  ·rcases Zaf.mp hb with rfl |hb
   ·exact Zal g2
   ·obtain⟨o,_,q,_⟩:=(hh.keeps k1).mem hb;exact Zal q
 intro s' acc hm qt;have ea:acc.toList=rest:=ZbS rfl qt;rw[ea];show wpAny _ _ (if rest.length<2-1-1 then _ else _) _ _ _;rw[ZaD .o];refine eg (Zfq ?_ (by rw[ZaW];omega));refine Zao ?_;have et:rest.take (rest.length-(2-1-1))=rest:=ZcW .o;have ed:rest.drop (rest.length-(2-1-1))=[]:=List.drop_of_length_le .o;rw[et,ed,Zbx];obtain⟨hp,g,d,tk,os⟩:=s';obtain⟨m1,m2,m3,m4,m5⟩:=hm;dsimp only at m1 m2 m3 m4;subst m2 m3 m4;have k2:∀b o,s.heap.get? b=some o->hp.get? b=some o:=fun b o e=>m1 b o (fun z=>Zay (Zal e) (Zar.mp z)) (k1 b o e);exact hQ hp tk k2
section
variable {X:Cx}{pos:Pos}
def Qr (K:ZgE)(g1 g2:TG):TG:=fun v σ H Q=> ∃(a:Addr) (x:V) (xs:List V),v=.ref a/\ao K H a (x::xs)/\∀L,H L=none->g1 x σ (upd H L (.lst xs)) fun jI H1=>g2 (.ref L) jI H1 Q
theorem VV {e1 e2:Expr}{g1 g2:TG}{k:Nat}{sp:Pos}(hc:X.calm=true)(h1:PG X e1 g1)(h2:PG X e2 g2)
  (hs:assignEach [e1,.Starred e2 sp] X.env=[(false,assign e1 X.env),(true,assign e2 X.env)]:=by rfl):PG X (.Tuple [e1,.Starred e2 sp] k pos) (Qr X.K g1 g2):=by
 intro pins s σ H v u Q I r hw;obtain⟨a,x,xs,e,hq,hw⟩:=hw;subst e;cases r;obtain⟨ae,rv,pl,hz⟩:=I.list hq;cases rv with
 |cons rx rr=>
  rename_i ux us;rw[assign_Tuple];refine eg (Zbg ?_);unfold unpack;rw[hs];refine eg (ZaU (ZaB (u:=ux) (rest:=us) (I.eC hc) pl.isList (by have:=rr.length;simp only[ZaE]at hz;omega) fun h' tk kp=> ?_));have I0:Inv X pins σ H {s with heap:=h',toks:=tk} :=I.kept kp;have I1:Inv X pins σ (upd H h'.objs.size (.lst xs)) {s with heap:=h'.push {cls:=.type "list",data:=.seq us.toArray},toks:=tk} :=
   I0.laid (t':=tk) (a:=h'.objs.size) (o:=.lst xs) (fun b o e=>gc _ e) (Zaq _) ⟨by simp only[ZaE]at hz;omega,us,0,rr,Zau _ rfl⟩
  show wpAny _ _ (assignInOrder [assign e1 X.env,assign e2 X.env] [ux,.ref h'.objs.size]) _ _ _;refine Zcu (au (h1 pins _ σ _ x ux _ I1 rx (hw _ (I0.ar.fresh (Zaq _)))) fun _ s1 ⟨jI,H1,J1,q1⟩=> ?_);exact Zcu (au (h2 pins s1 jI H1 (.ref h'.objs.size) _ Q J1 rfl q1) fun _ s2 ⟨bh,H2,J2,q2⟩=>Zel ⟨bh,H2,J2,q2⟩)
end
end L2
namespace L2.DC
open PySem PySem.Spec PyProof.Rows
def iw (ps:List (Key×V)):List V:=ps.flatMap fun p=> [kV p.1,p.2]
def ir (ps:List (Key×V)):List (Key×V):=ps.foldl (fun d p=>putK d p.1 p.2) []
theorem ZbV (ps:List (Key×V))(k:Key)(v:V):ir (ps++[(k,v)])=putK (ir ps) k v:=by unfold ir;rw[List.foldl_append];rfl
theorem FF (ps:List (Key×V))(k:Key)(v:V):iw (ps++[(k,v)])=iw ps++[kV k,v]:=by unfold iw;rw[ZcU];rfl
theorem FG (ps:List (Key×V)):(iw ps).length=2*ps.length:=by
 induction ps with
 |nil=>rfl
 |cons p ps ih=>have:iw (p::ps)=kV p.1::p.2::iw ps:=rfl;rw[this,ZaE,ZaE,ih,ZaE];omega
theorem Uc:∀(ps d:List (Key×V)),(ps.foldl (fun d p=>putK d p.1 p.2) d).length<=d.length+ps.length
 | [],d=>Zaq _
 |p::ps,d=>by have h1:=Uc ps (putK d p.1 p.2);have h2:=Jc d p.1 p.2;rw[ZdJ,ZaE];omega
theorem UT (ps:List (Key×V)):(ir ps).length<=ps.length:=by have:=Uc ps [];rw[Zd5,Nat.zero_add]at this;exact this
def uw (P:Program)(w:World)(h:Heap)(D:Addr)(ps:List (Key×V)):Prop:=(ir ps).length<=sizeLine/\(D==sysModules)=false/\∃vs,KV (ir ps) vs/\h.DictOf (dN P w) D vs
def AccAt (P:Program)(w:World)(h:Heap)(D:Addr)(ys:List V):Prop:=∃ps,ys=iw ps/\uw P w h D ps
theorem uw.keep {P:Program}{w:World}{h h':Heap}{D:Addr}{ps:List (Key×V)}(a:uw P w h D ps)(k:∀o,h.get? D=some o->h'.get? D=some o):uw P w h' D ps:=by obtain⟨z,b,vs,r,o,es,ep,e,c⟩:=a;exact⟨z,b,vs,r,o,es,ep,k _ e,c⟩
theorem AccAt.obj {P:Program}{w:World}{h:Heap}{D:Addr}{ys:List V}(a:AccAt P w h D ys):∃o,h.get? D=some o/\(∀v,o.data≠.cell v)/\∀h':Heap,h'.get? D=some o->AccAt P w h' D ys:=by obtain⟨ps,ey,z,b,vs,r,o,es,ep,e,c,d,f⟩:=a;refine⟨o,e,fun v q=> ?_,fun h' q=> ⟨ps,ey,z,b,vs,r,o,es,ep,q,c,d,f⟩⟩;rw[d]at q;cases q
theorem AccAt.keep {P:Program}{w:World}{h h':Heap}{D:Addr}{ys:List V}(a:AccAt P w h D ys)(k:∀o,h.get? D=some o->h'.get? D=some o):AccAt P w h' D ys:=by obtain⟨o,e,_,kp⟩:=a.obj;exact kp _ (k _ e)
def iX (Y:Cx)(D:Addr)(m:Sem PySem.Fin->Sem PySem.Fin)(t:TC):Prop:=
 ∀(pins:List (Addr×Obj)) (s:Shared) (σ:St) (H:Hp) (ys:List V) (Q:List V->St->Hp->Prop) (k:Sem PySem.Fin) (R:PySem.Fin->Shared->Prop),Inv Y pins σ H s->bb Y pins H D->AccAt Y.prog Y.w s.heap D ys->t ys σ H Q->
  (∀s' bp ah H',Inv Y pins ah H' s'->bb Y pins H' D->AccAt Y.prog Y.w s'.heap D bp->Q bp ah H'->wpAny (model Y.prog Y.w) Y.A k R (fun _ _=>False) s')->wpAny (model Y.prog Y.w) Y.A (m k) R (fun _ _=>False) s
section
variable {Y:Cx}{D:Addr}
def uD (tk tv:TE):TC:=fun ys σ H Q=>tk σ H fun x H1=>tv σ H1 fun v H2=> ∃k:Key,x=kV k/\ys.length<sizeLine/\Q (ys++[kV k,v]) σ H2
theorem AccAt.gm {P:Program}{w:World}{h:Heap}{ys:List V}(a:AccAt P w h D ys):∀b∈[D],∃o,h.get? b=some o/\∀v,o.data≠.cell v:=fun b hb=>by
 have e:b=D:=by simpa using hb
 subst e;obtain⟨o,e,nc,_⟩:=a.obj;exact⟨o,e,nc⟩
theorem AccAt.through {P:Program}{w:World}{h:Heap}{pins:List (Addr×Obj)}{ah:St}{H':Hp}{s':Shared}{ys:List V}(a:AccAt P w h D ys)(I:Inv Y (pins++gP [D] h) ah H' s'):AccAt P w s'.heap D ys/\H' D=none:=by obtain⟨o,e,_,kp⟩:=a.obj;have q:=I.pin (D,_) (Zap _ (Zap _ (ZJ (Zar.mpr rfl) e)));exact⟨kp _ q.1,q.2.1⟩
theorem cz {kx vx:Expr}{tk tv:TE}(hx:Y.xe=fun _ _=>False)(cj:PE Y kx tk)(gT:PE Y vx tv):
  iX Y D (fun k=> (do let kv <-eval kx Y.env;let vv <-holding [kv] (eval vx Y.env);standAt {kx.pos with endLine:=vx.pos.endLine,endCol:=vx.pos.endCol};holding [kv,vv] (dictSet D kv vv)) >>=fun _=>k) (uD tk tv):=by
 intro pins s σ H ys Q k R I f a h hk;refine eg (ZaI (Q:=fun _ s'=> ∃bp ah H',Inv Y pins ah H' s'/\bb Y pins H' D/\AccAt Y.prog Y.w s'.heap D bp/\Q bp ah H') ?_ (fun _ s' ⟨bp,ah,H',q1,q2,q3,q4⟩=>hk s' bp ah H' q1 q2 q3 q4) fun _ _ z=>z);have I':=I.pinned (fp:=[D]) (fun b hb=>by rw[Zar.mp hb];exact f) a.gm;refine eg (ZaI (cj _ s σ H _ I' h) (fun u s1 ⟨x,H1,I1,ru,q1⟩=> ?_) fun e s1 z=>by rw[hx]at z;exact z);refine eg (ZaU (ZaI (gT _ s1 σ H1 _ I1 q1) (fun u2 s2 ⟨v,H2,I2,rv,key,ex,hz,q⟩=> ?_) fun e s1 z=>by rw[hx]at z;exact z));subst ex;obtain⟨⟨ps,ey,z,b,vs,r,dd⟩,n1⟩:=a.through I2;have hl:=FG ps;have eB:=UT ps;rw[ey]at hz;refine eg (Zbg (ZaU (wpAny_dictSet_pairs (hsz:=by rw[<-r.length];exact z) (Wj ru) dd fun h' qB sb=> ?_)));obtain⟨f0,g1,g2,g3,g4,g5⟩:=(⟨n1,f.2⟩:bb Y pins H2 D);have I3:=I2.ft.turned (t':=s2.toks+1) (it:=D) (fun b o hb eb=> (sb.2 b hb).trans eb) f0 g1 g3 g4 g5;refine⟨ys++[kV key,v],σ,H2,I3,⟨f0,g1,g2,g3,g4,g5⟩,⟨ps++[(key,v)],by rw[ey,FF],?_,b,_,?_,qB⟩,q⟩
 ·have:=UT (ps++[(key,v)]);rw[Zam]at this;have h3:([(key,v)]:List (Key×V)).length=1:=rfl;omega
 ·rw[ZbV];exact r.put key rv
def inner (elt:Expr×Expr)(gens:List Comprehension)(scope:Scope)(pos:Pos)(d:Nat)(acc:Value)(env:Env)(k:Sem PySem.Fin):Sem PySem.Fin:=
 match gens[d+1]? with
 |some g'=>eval g'.iter env >>=fun x=>standAt g'.iter.pos >>=fun _=>foldedSetIterable g'.iter env x >>=fun x=>holding [x] (pyIter x) >>=fun jN=>runOwn (.compStart (.DictComp elt.1 elt.2 gens scope pos) (d+1) jN acc env) env >>=fun _=>k
 |none=> (do let kv <-eval elt.1 env;let vv <-holding [kv] (eval elt.2 env);match acc with | .ref d=> (do standAt {elt.1.pos with endLine:=elt.2.pos.endLine,endCol:=elt.2.pos.endCol};holding [kv,vv] (dictSet d kv vv)) |_=>unsupported "internal:dictcomp") >>=fun _=>k
theorem BQ (elt:Expr×Expr)(tg iter:Expr)(ifs:List Expr)(gens:List Comprehension)(scope:Scope)(pos:Pos)(d:Nat)(it acc:Value)(env:Env)(hg:gens[d]? =some ⟨tg,iter,ifs,0⟩)(h2:∀g',gens[d+1]? =some g'->g'.is_async=0):
  compTurn (.DictComp elt.1 elt.2 gens scope pos) d it acc env=(standAt iter.pos >>=fun _=>pyNext it >>=fun r=>match r with
   |none=>pure (.done .next)
   |some v=>letOwnedTupleGo tg it v >>=fun _=>assign tg env v >>=fun _=>xR ifs env >>=fun ok=>if ok=true then inner elt gens scope pos d acc env (again (.compLoop (.DictComp elt.1 elt.2 gens scope pos) d it acc env)) else again (.compLoop (.DictComp elt.1 elt.2 gens scope pos) d it acc env)):=by
 unfold compTurn inner;dsimp only;rw[hg];generalize hn:gens[d+1]? =o;cases o with
 |none=>rfl
 |some g'=>have e:=h2 g' hn;obtain⟨t',i',f',a'⟩:=g';have e':a'=0:=e;subst e';rfl
theorem wU {elt:Expr×Expr}{tg iter:Expr}{ifs:List Expr}{gens:List Comprehension}{scope:Scope}{pos:Pos}{d:Nat}{it:Addr}{fp:List Addr}{tn:Nat->Heap->Prop}{J:It}{g:TG}{tt:TT}{ti:TC}{pins:List (Addr×Obj)}{s:Shared}{σ:St}{H:Hp}{ys:List V}{Q:List V->St->Hp->Prop}
  (hx:Y.xe=fun _ _=>False) (hc:Y.calm=true) (hg:gens[d]? =some ⟨tg,iter,ifs,0⟩) (T:Turn Y.prog Y.w Y.K Y.A.handled tg J fp it tn) (hf:∀b∈fp,bb Y pins H b) (st:tn 0 s.heap) (hD:D∉fp)
  (h2:∀g',gens[d+1]? =some g'->g'.is_async=0) (pg:PG Y tg g) (pt:j8 Y ifs tt) (pi:iX Y D (inner elt gens scope pos d (.ref D) Y.env) ti)
  (I:Inv Y pins σ H s) (f:bb Y pins H D) (a:AccAt Y.prog Y.w s.heap D ys) (h:gZ g tt ti J ys σ H Q):
  codeAny (model Y.prog Y.w) Y.A (.compLoop (.DictComp elt.1 elt.2 gens scope pos) d (.ref it) (.ref D) Y.env) (fun r s'=>match r with
   | .ok _=> ∃bp ah H',Inv Y pins ah H' s'/\bb Y pins H' D/\AccAt Y.prog Y.w s'.heap D bp/\Q bp ah H'
   | .error _=>False) s:=by
 obtain⟨W,⟨m0,w0⟩,turn⟩:=h;have stat:∀{H':Hp},(∀b∈fp,H' b=none)->∀b∈fp,bb Y pins H' b:=fun hn b hb=> ⟨hn b hb,(hf b hb).2⟩;refine codeAny_loop rfl (fun n s'=> ∃i bp ah H',Inv Y pins ah H' s'/\bb Y pins H' D/\AccAt Y.prog Y.w s'.heap D bp/\tn i s'.heap/\(∀b∈fp,H' b=none)/\W i n bp ah H') (fun n s3 hI=> ?_) m0 ⟨0,ys,σ,H,I,f,a,st,fun b hb=> (hf b hb).1,w0⟩;obtain⟨i,i7,cK,H3,I3,f3,a3,dJ,qx,w3⟩:=hI;show wpAny _ Y.A ((compTurn (.DictComp elt.1 elt.2 gens scope pos) d (.ref it) (.ref D) Y.env).onRaise (fun x=>do noteFrame x Y.env;theTreesLotGoes x)) _ _ s3;refine wpAny_noted (ZaI (E:=fun _ _=>False) ?_ (fun _ _ q=>q) fun _ _ z=>z.elim);rw[BQ elt tg iter ifs gens scope pos d (.ref it) (.ref D) Y.env hg h2];refine eg (Zbg (eg ?_));have aD:∀{h h':Heap},(∀b o,b∉fp->h.get? b=some o->h'.get? b=some o)->∀{zs},AccAt Y.prog Y.w h D zs->AccAt Y.prog Y.w h' D zs:=fun k _ q=>q.keep fun o e=>k D o hD e;have uf:=I3.pinned (fp:=[D]) (fun b hb=>by rw[Zar.mp hb];exact f3) a3.gm;have q0:∀b∈fp,bb Y (pins++gP [D] s3.heap) H3 b:=fun b hb=>by
  obtain⟨g0,g1,g2,g3,g4,g5⟩:=stat qx b hb;refine⟨g0,g1,g2,g3,g4,fun p hp=> ?_⟩;rcases Zbf.mp hp with z |z
  ·exact g5 p (Zcj _ z)
  ·rcases Zbf.mp z with z |z
   ·exact g5 p (Zap _ z)
   ·intro q;have e:p.1=D:=by simpa using (YW z).1
    exact hD (by rw[<-e,q];exact hb)
 rcases turn i n i7 cK H3 w3 with ⟨stop,qn⟩ |⟨go,N,hN,step⟩
 ·refine ZaI (T.done Y rfl rfl rfl hc rfl i _ s3 cK H3 (fun _ _=>False) uf q0 dJ stop) (fun r s4 ⟨hr,I4⟩=> ?_) fun _ _ z=>z;subst hr;obtain⟨a4,n4⟩:=a3.through I4;exact Zao ⟨i7,cK,H3,I4.ft,f3,a4,qn⟩
 ·refine ZaI (T.item Y rfl rfl rfl hc rfl i _ s3 cK H3 (fun _ _=>False) uf q0 dJ go) (fun r s4 ⟨u,hr,h4⟩=> ?_) fun _ _ z=>z;subst hr;refine eg (ZaI h4 (fun _ s5 ⟨x,H5,I5,r5,y5,jb,tw⟩=> ?_) fun _ _ z=>z);obtain⟨a5,n5⟩:=a3.through I5;have f5:bb Y pins H5 D:=⟨n5,f3.2⟩;have AU:∀b∈D::fp,∃o,s5.heap.get? b=some o/\∀v,o.data≠.cell v:=fun b hb=>by
   rcases Zaf.mp hb with e |hb
   ·exact a5.gm b (by simp[e])
   ·exact T.obj _ _ jb b hb
  have ue:=I5.ft.pinned (fp:=D::fp) (fun b hb=>by
   rcases Zaf.mp hb with e |hb
   ·rw[e];exact f5
   ·exact stat tw b hb) AU
  refine eg (ZaI (pg _ s5 cK H5 x u _ ue r5 (step x H5 y5)) (fun _ s6 ⟨kd,H6,I6,q6⟩=> ?_) fun _ _ z=>by rw[hx]at z;exact z);refine eg (ZaI (pt _ s6 kd H6 _ I6 q6) (fun b s7 ⟨H7,I7,q7⟩=> ?_) fun _ _ z=>by rw[hx]at z;exact z);have rB:∀{cJ:St}{H7:Hp}{s7:Shared},Inv Y (pins++gP (D::fp) s5.heap) cJ H7 s7->AccAt Y.prog Y.w s7.heap D i7/\H7 D=none:=fun {cJ H7 s7} J=>by obtain⟨o,e,_,kp⟩:=a5.obj;have q:=J.pin (D,_) (Zap _ (Zap _ (ZJ Zai e)));exact⟨kp _ q.1,q.2.1⟩
  have rA:∀{cJ:St}{H7:Hp}{s7:Shared},Inv Y (pins++gP (D::fp) s5.heap) cJ H7 s7->tn (i+1) s7.heap/\∀b∈fp,H7 b=none:=fun {cJ H7 s7} J=>by refine⟨T.keep _ _ _ jb fun b hb o e=> (J.pin (b,o) (Zap _ (Zap _ (ZJ (Zad _ hb) e)))).1,fun b hb=> ?_⟩;obtain⟨o,e,dd⟩:=T.obj _ _ jb b hb;exact(J.pin (b,o) (Zap _ (Zap _ (ZJ (Zad _ hb) e)))).2.1
  cases b with
  |false=>simp only[Zbe,Zdd]at q7 |-;obtain⟨m',hm,w7⟩:=hN _ _ _ q7;obtain⟨a7,n7⟩:=rB I7;obtain⟨t7,r7⟩:=rA I7;exact Zao ⟨rfl,m',hm,i+1,i7,kd,H7,I7.ft,⟨n7,f3.2⟩,a7,t7,r7,w7⟩
  |true=>
   simp only[Zem]at q7 |-;obtain⟨a7,n7⟩:=rB I7;obtain⟨t7,r7⟩:=rA I7;have CK:=I7.ft.pinned (fp:=fp) (stat r7) (T.obj _ _ t7);have f7:bb Y (pins++gP fp s7.heap) H7 D:=by
    obtain⟨g0,g1,g2,g3,g4,g5⟩:=f3;refine⟨n7,g1,g2,g3,g4,fun p hp=> ?_⟩;rcases Zbf.mp hp with z |z
    ·exact g5 p (Zcj _ z)
    ·rcases Zbf.mp z with z |z
     ·exact g5 p (Zap _ z)
     ·intro q;exact hD (by rw[<-q];exact(YW z).1)
   refine pi _ s7 kd H7 i7 N _ _ CK f7 a7 q7 fun s8 xB gH H8 I8 f8 a8 q8=> ?_;obtain⟨m',hm,w8⟩:=hN _ _ _ q8;refine Zao ⟨rfl,m',hm,i+1,xB,gH,H8,I8.ft,⟨f8.1,f3.2⟩,a8,T.keep _ _ _ t7 fun b hb o e=> (I8.pin (b,o) (Zap _ (Zap _ (ZJ hb e)))).1,fun b hb=> ?_,w8⟩;obtain⟨o,e,dd⟩:=T.obj _ _ t7 b hb;exact(I8.pin (b,o) (Zap _ (Zap _ (ZJ hb e)))).2.1
theorem wR {elt:Expr×Expr}{tg iter:Expr}{ifs:List Expr}{gens:List Comprehension}{scope:Scope}{pos:Pos}{d:Nat}{it:Addr}{R:Result->Shared->Prop}{s:Shared}{A:Around}{prog:Program}{w:World}{env:Env}{acc:Value}{fp:List Addr}{tn:Nat->Heap->Prop}{J:It}{K:ZgE}
  (hg:gens[d]? =some ⟨tg,iter,ifs,0⟩) {hd:Option Value} (T:Turn prog w K hd tg J fp it tn) {i:Nat} (st:tn i s.heap) (h:codeAny (model prog w) A (.compLoop (.DictComp elt.1 elt.2 gens scope pos) d (.ref it) acc env) R s):
  codeAny (model prog w) A (.compStart (.DictComp elt.1 elt.2 gens scope pos) d (.ref it) acc env) R s:=by
 refine ZfJ ?_;show wpAny _ _ ((compStart (.DictComp elt.1 elt.2 gens scope pos) d (.ref it) acc env).onRaise (fun x=>do noteFrame x env;standAt theWindowsPlace)) _ _ s;refine wpAny_notedAt ?_;have n8:(clausesOf (.DictComp elt.1 elt.2 gens scope pos))[d]? =some ⟨tg,iter,ifs,0⟩:=hg;unfold compStart;rw[n8];show wpAny _ _ (ask >>=_) _ _ s;refine eg (wpAny_askSetting (wpAny_ite ?_));split
 ·first
   |exact eg (Zao (Zao (And.intro rfl h)))
   |exact Zao (And.intro rfl h)
 ·refine eg (Zdu ?_);show wpAny _ _ (standAt iter.pos >>=_) _ _ s;exact eg (Zbg (eg (T.self A i s _ _ st (Zao (And.intro rfl h)))))
end
section
variable {X:Cx}{pins:List (Addr×Obj)}{σ:St}{H H':Hp}{s s':Shared}
theorem wY {N':List Str}{scope:Scope}{C D:Addr}{fp:List Addr}{ah:St}{ps:List (Key×V)}{pl:List (Addr×Obj)}{h':Heap}(I:Inv X pins σ H s)(hf:∀b∈fp,bb X pins H b)(hC:s.heap.objs.size<=C)(hD:s.heap.objs.size<=D)(gX:D≠C)
  (J:Inv (aK X N' scope C s H fp) pl ah H' s') (n:H' D=none) (a:uw X.prog X.w s'.heap D ps) (sb:Heap.SameBut C s'.heap h'):Inv X pins σ (upd H' D (.dK (ir ps))) {s' with heap:=h'} :=by
 have eJ:∀b o,s.heap.get? b=some o->b≠C:=fun b o e=>Zay (Zaw (Zal e) hC);have Af:∀b o,s.heap.get? b=some o->b≠D:=fun b o e=>Zay (Zaw (Zal e) hD);have nk:∀b o,H b=some o->b≠D:=fun b o e=>Zay (Zaw (I.ar.lt e) hD);have fC:H' C=none:=J.free;have u:Un (aU X.stack) fp H H' s.heap s'.heap:=J.base;refine I.wW (s':= {s' with heap:=h'}) (ch:=fp) J.os ⟨fun b o e nb hb hx=> (sb.2 b (eJ b o e)).trans (u.keep b o e nb hb hx),fun b o e nb hb hx=> ?_,fun b o e nb hx=>by rw[Zi (Af b o e)];exact u.free b o e nb hx,fun b o e hx=> ?_,
  fun b xs e=>by rw[Zi (nk b _ e)];exact u.f9 b xs e,fun b o xs e=>by rw[Zi (nk b _ e)];exact u.fN b o xs e,fun b ps e=>by rw[Zi (nk b _ e)];exact u.fv b ps e⟩ (fun b v e=> ?_) J.bare fun b hb=> ?_
 ·obtain⟨sl,q⟩:=u.slot b o e nb hb hx;exact⟨sl,(sb.2 b (eJ b o e)).trans q⟩
 ·obtain⟨o',q⟩:=u.there b o e hx;exact⟨o',(sb.2 b (eJ b o e)).trans q⟩
 ·by_cases hb:b=D
  ·subst hb;rw[Zc]at e;cases e;exact a.keep fun o q=> (sb.2 b gX).trans q
  ·rw[Zi hb]at e;refine(J.ar b v e).g8 (fun c w hc q=> (sb.2 c ?_).trans q) (fun c q=>by rw[Zi (Zd q n)];exact q) fun c xs q=>by rw[Zi (Zd q n)];exact q
   rcases hc with z |z
   ·rw[z];exact Zd e fC
   ·exact Zd z fC
 ·obtain⟨f0,f1,f2,f3,f4,f5⟩:=hf b hb;exact⟨f3,f1,f4,f5⟩
theorem wV {elt:Expr×Expr}{tg iter:Expr}{ifs:List Expr}{rest:List Comprehension}{scope:Scope}{pos:Pos}{N':List Str}{ts:Nat}{bw:List Nat}{it:Addr}{fp:List Addr}{tn:Nat->Heap->Prop}{J:It}{g:TG}{tt:TT}{ti:TC}{Q:List V->Hp->Prop}{E:Value->Shared->Prop}{RR:Value->Addr->Result->Shared->Prop}
  (S:xA X N' ts bw scope) (hc:X.calm=true) (I:Inv X pins σ H s) (T:Turn X.prog X.w X.K X.A.handled tg J fp it tn) (st:tn 0 s.heap) (hf:∀b∈fp,bb X pins H b)
  (h2:∀g',(Comprehension.mk tg iter ifs 0::rest)[0+1]? =some g'->g'.is_async=0)
  (pg:∀C,PG (aK X N' scope C s H fp) tg g) (pt:∀C,j8 (aK X N' scope C s H fp) ifs tt)
  (pi:∀C D,iX (aK X N' scope C s H fp) D (inner elt (⟨tg,iter,ifs,0⟩::rest) scope pos 0 (.ref D) (aK X N' scope C s H fp).env) ti)
  (h:gZ g tt ti J [] (jE ts bw σ) H fun ys _ H2=>Q ys H2)
  (Bq:∀C D s' ah H' ys fl,s.heap.objs.size<=C->s.heap.objs.size<=D->D≠C->Inv (aK X N' scope C s H fp) [] ah H' s'->H' D=none->AccAt X.prog X.w s'.heap D ys->Q ys H'->RR (.ref D) C (.ok fl) s'):
  wpAny (model X.prog X.w) X.A newDict (fun acc kK=>wpAny (model X.prog X.w) X.A (newFunctionEnv scope X.env.globals (eG scope X.env) [] X.env.qual none .none (some X.env)) (fun tV xZ=>
   codeAny (model X.prog X.w) X.A (.compStart (.DictComp elt.1 elt.2 (⟨tg,iter,ifs,0⟩::rest) scope pos) 0 (.ref it) acc {tV with scope:=relabel scope X.env}) (RR acc tV.locals) xZ) E kK) E s:=by
 refine ZbB (ZeG S.gm (by intro y hy;simp at hy) (fun bt nW jP=> ?_) S.kind);dsimp only at nW jP |-;generalize jz:s.heap.push {cls:=.type "dict",data:=.dict #[]} =h0 at nW jP |-;have hC:h0.objs.size=s.heap.objs.size+1:=by rw[<-jz,Zds]
 have gX:s.heap.objs.size≠h0.objs.size:=by rw[hC];exact Zay (ZcZ _)
 have oj:s.heap.objs.size<=h0.objs.size:=by rw[hC];exact ZcJ _
 have eJ:∀b o,s.heap.get? b=some o->b≠h0.objs.size:=fun b o e=>Zay (Zaw (Zal e) oj);have old:∀b o,s.heap.get? b=some o->bt.get? b=some o:=fun b o e=>jP.extBut b o (eJ b o e) (gc _ (jz▸gc _ e));have qt:bt.get? s.heap.objs.size=some {cls:=.type "dict",data:=.dict #[]} :=jP.extBut _ _ gX (gc _ (jz▸Zau _ rfl));have ho:∀b∈fp,∃o,s.heap.get? b=some o:=fun b hb=>let ⟨o,e,_⟩:=T.obj _ _ st b hb;⟨o,e⟩;have I1:Inv (aK X N' scope h0.objs.size s H fp) [] (jE ts bw σ) H {s with heap:=bt,toks:=s.toks+([]:List (Str×Value)).length} :=Hf S I hf ho oj nW old;have fresh:=I.ar.fresh (a:=s.heap.objs.size) (Zaq _);have By:∀b∈fp,bb (aK X N' scope h0.objs.size s H fp) [] H b:=fun b hb=>by obtain⟨f0,f1,f2,f3,f4,f5⟩:=hf b hb;refine⟨f0,(I1.ok.jY b hb).1,I1.ok.jB b hb,.inl hb,(I1.ok.jY b hb).2,fun p hp=>absurd (show p∈([]:List (Addr×Obj)) from hp) (by simp)⟩
 have fD:bb (aK X N' scope h0.objs.size s H fp) [] H s.heap.objs.size:=by
  refine⟨fresh,gX,fun z=> ?_,.inr (Zaq _),fun x c e z=> ?_,fun p hp=>absurd (show p∈([]:List (Addr×Obj)) from hp) (by simp)⟩
  ·obtain⟨_,o,bV,_⟩:=I.stack.mem z;exact absurd (Zal bV) (Zba _)
  ·obtain⟨e1,e2⟩:=YH e;obtain⟨c',bX⟩:=I.ok.has x (S.free _ e2 rfl);obtain⟨v,q⟩:=I.cell x c' bX;rw[bX]at e1;have e3:c=c':=e1;have l:=q.lt;rw[<-e3,z]at l;exact absurd l (Zba _)
 have aD:AccAt X.prog X.w bt s.heap.objs.size []:=⟨[],rfl,ZaP _,by have:=I.big;exact Zcc.mpr (ZeY this),[],.nil,(Heap.DictOf.new s.heap).at fun o e=>jP.extBut _ _ gX (gc _ (jz▸e))⟩;have Bs:s.heap.objs.size∉fp:=fun z=>by obtain⟨o,e⟩:=ho _ z;exact absurd (Zal e) (Zba _)
 have cG:tn 0 bt:=T.keep _ _ _ st fun b _ o e=>old b o e;have run:=wR (elt:=elt) (gens:=⟨tg,iter,ifs,0⟩::rest) (scope:=scope) (pos:=pos) (d:=0) rfl T cG
  (wU (Y:=aK X N' scope h0.objs.size s H fp) (D:=s.heap.objs.size) (Q:=fun ys _ H2=>Q ys H2) (elt:=elt) (gens:=⟨tg,iter,ifs,0⟩::rest) (scope:=scope) (pos:=pos) (d:=0) rfl hc rfl T By cG Bs h2 (pg _) (pt _) (pi _ _) I1 fD aD h)
 refine Zcy run fun r s' hr=> ?_;cases r with
 |error e=>exact hr.elim
 |ok fl=>obtain⟨bp,ah,H',q1,q2,q3,q4⟩:=hr;exact Bq _ _ s' ah H' bp fl oj (Zaq _) gX q1 q2.1 q3 q4
end
def Le (wi:TI)(ts:Nat)(bw:List Nat)(g:TG)(tt:TT)(ti:TC):TE:=fun σ H Q=>wi σ H fun J H1=>gZ g tt ti J [] (jE ts bw σ) H1 fun ys _ H2=> ∀ps,ys=iw ps->∀p,H2 p=none->Q (.ref p) (upd H2 p (.dK (ir ps)))
section
variable {X:Cx}{elt:Expr×Expr}{tg iter:Expr}{ifs:List Expr}{rest:List Comprehension}{scope:Scope}{pos:Pos}{wi:TI}{g:TG}{tt:TT}{ti:TC}
theorem Mv (N':List Str)(ts:Nat)(bw:List Nat){i:Nat}{x:Str}{px ra:Pos}(hN:X.N.Nodup)(jw:X.N[i]? =some x)(hx:Loc X.env.scope x)(hi:PI X tg iter wi)(pg:∀C s H fp,PG (aK X N' scope C s H fp) tg g)(pt:∀C s H fp,j8 (aK X N' scope C s H fp) ifs tt)
  (pi:∀C s H fp D,iX (aK X N' scope C s H fp) D (inner elt (⟨tg,iter,ifs,0⟩::rest) scope pos 0 (.ref D) (aK X N' scope C s H fp).env) ti)
  (sd:swapsWith (.DictComp elt.1 elt.2 (⟨tg,iter,ifs,0⟩::rest) scope pos) (some (.Name x px)) ra.line X.env=pure true:=by rfl)
  (ok:tU X.env.scope scope X.N N' ts bw=true:=by rfl) (hc:X.calm=true:=by rfl) (h2:∀g',(Comprehension.mk tg iter ifs 0::rest)[0+1]? =some g'->g'.is_async=0:=by(intro g' h;cases h<;>rfl))
  (hs:∀x,foldedSetIterable iter X.env x=pure x:=by intro _;rfl) (fK:X.fn x=true∨X.env.scope.names.lookup x=some .local:=by first |exact .inl rfl |exact .inr rfl |assumption):
  PS X (.Assign [.Name x px] (.DictComp elt.1 elt.2 (⟨tg,iter,ifs,0⟩::rest) scope pos) ra) (qW (Le wi ts bw g tt ti) (bQ i)):=by
 intro pins s σ H D I h;have S:=Uh ok;rw[exec_Assign_Name_used _ _ _ _ sd];refine eg (Zbg (eg ?_));show wpAny _ X.A (do let _ <-comprehension (.DictComp elt.1 elt.2 (⟨tg,iter,ifs,0⟩::rest) scope pos) scope X.env _ newDict false (eval iter X.env) (some (assign (.Name x px) X.env))) _ _ s;refine eg (ZaI (ZdZ (use:=some (assign (.Name x px) X.env)) (Q:=fun _ s'=> ∃ah H',Inv X pins ah H' s'/\D.nx ah H') rfl hs (Ys fun y hy e=>I.ok.has _ (S.free y hy e)) S.kind S.names
  (au (hi pins s σ H _ I h) fun v s1 h1=>au h1 fun jN s2 om=> ?_)) (fun _ s' hq=>Zao (Zao hq)) fun _ _ e=>e)
 obtain⟨it,fp,tn,J,H2,e,I2,T,bZ,f2,q2⟩:=om;subst e;refine wV (RR:=fun acc C=>compPost (model X.prog X.w) X.A X.xe (some (assign (.Name x px) X.env)) _ acc C) S hc I2 T bZ f2 h2 (fun C=>pg C _ _ _) (fun C=>pt C _ _ _) (fun C D=>pi C _ _ _ D) q2 ?_;intro C B s' ah H' ys fl hC hB sV J' n a q;obtain⟨m,hn,_⟩:=J'.loc;obtain⟨ps,ey,a⟩:=a;have IX:Inv X pins σ (upd H' B (.dK (ir ps))) s':=wY I2 f2 hC hB sV J' n a (Zff C s'.heap);have fC:=I2.lY (H':=upd H' B (.dK (ir ps))) (b:=C) hC (by rw[Zi (ZcL sV)];exact J'.free);obtain⟨f0,f1,BC,f3,f4,f5⟩:=fC;show wpAny _ X.A (assign (.Name x px) X.env (.ref B)) _ _ s';refine Zfd (JZ (v:=.ref B) (u:=.ref B) IX hN jw hx rfl (fun eU CL ⟨c,sb,iO⟩=> ?_) fK);have Bt:C≠c:=by
  rcases iO with z |z
  ·rw[z];exact f1
  ·exact(f4 x c z).symm
 refine⟨m,Heap.Ns.sameBut hn sb Bt,fun h' yJ=> ?_⟩;refine⟨σ.set i (some (.ref B)),_,CL.turned (t':=eU.toks) (it:=C) (fun b o hb e=> (yJ.2 b hb).trans e) f0 f1 f3 f4 f5,q ps ey B n⟩
end
end L2.DC
namespace L2
open PySem PySem.Spec PyProof.Rows
section
variable {X:Cx}
def K4 (tb tc td te:TE):TE:=fun σ H Q=>tb σ H fun v2 H2=> ∃n:Int,v2=.int n/\n.natAbs.log2<1920/\(Str.empty++(Str.ofString (toString n))).length<=sizeLine/\
 tc σ H2 fun v3 H3=> ∃x3,v3=.str x3/\(Str.empty++(Str.ofString (toString n))++x3).length<=sizeLine/\td σ H3 fun v4 H4=> ∃m:Int,v4=.int m/\m.natAbs.log2<1920/\(Str.empty++(Str.ofString (toString n))++x3++(Str.ofString (toString m))).length<=sizeLine/\
 te σ H4 fun v5 H5=> ∃x5,v5=.str x5/\(Str.empty++(Str.ofString (toString n))++x3++(Str.ofString (toString m))++x5).length<=sizeLine/\Q (.str (Str.empty++(Str.ofString (toString n))++x3++(Str.ofString (toString m))++x5)) H5
theorem Xn {b c d e:Expr}{tb tc td te:TE}{p p' pos:Pos}(hb:PE X b tb)(hc:PE X c tc)(hd:PE X d td)(he:PE X e te):PE X (.JoinedStr [.FormattedValue b (-1) none p,c,.FormattedValue d (-1) none p',e] pos) (K4 tb tc td te):=by intro pins s σ H Q I h;refine JoinedStr_many (ZcM (ZdT (au (hb pins s σ H _ I h) fun u s2 h3=> ?_)));obtain⟨v,H2,I2,r2,n,rfl,hn,fc,h4⟩:=h3;obtain⟨t2,rfl⟩:=r2;refine ZdM hn ⟨fc,?_⟩;refine ZcM (au (hc pins _ σ H2 _ (I2.tok _) h4) fun u s3 h5=> ?_);obtain⟨v,H3,I3,r3,x3,rfl,AD,h6⟩:=h5;obtain⟨t3,rfl⟩:=r3;refine⟨AD,ZcM (ZdT (au (hd pins s3 σ H3 _ I3 h6) fun u s4 h7=> ?_))⟩;obtain⟨v,H4,I4,r4,m,rfl,hm,AB,h8⟩:=h7;obtain⟨t4,rfl⟩:=r4;refine ZdM hm ⟨AB,?_⟩;refine ZcM (au (he pins _ σ H4 _ (I4.tok _) h8) fun u s5 h9=> ?_);obtain⟨v,H5,I5,r5,x5,rfl,rX,q⟩:=h9;obtain⟨t5,rfl⟩:=r5;refine⟨rX,joinParts_nil ?_ rX⟩;exact⟨.str _,H5,I5.tok _,⟨_,rfl⟩,q⟩
end
end L2
namespace L2
open PySem PySem.StrLaws
def eF (c:Nat):List Nat->List (List Nat)
 | []=> [[]]
 |d::l=>if d=c then []::eF c l else match eF c l with
  |p::r=> (d::p)::r
  | []=> [[d]]
theorem Wl {c:Nat} :∀{l:List Nat},c∉l->eF c l=[l]
 | [],_=>rfl
 |d::l,h=>by have h1:d≠c:=fun z=>h (by rw[z];exact Zai);unfold eF;rw[ZaD h1,Wl fun z=>h (Zad _ z)]
theorem Ug {c:Nat}{r:List Nat} :∀{l:List Nat},c∉l->eF c (l++c::r)=l::eF c r
 | [],_=>by show eF c (c::r)=_;rw[eF,ZaG rfl]
 |d::l,h=>by have h1:d≠c:=fun z=>h (by rw[z];exact Zai);show eF c (d::(l++c::r))=_;rw[eF,ZaD h1,Ug fun z=>h (Zad _ z)]
def eX (x y:Str)(hi i:Nat):Bool:=decide (i+1<=hi)&&Builtin.Str.subAt x y i
theorem Ww {x y:Str}(hw:y.length=1)(hi limit:Nat):∀(k lo:Nat) (st:Array Nat×Nat),st.2<=lo->st.1.size+k<=limit->(forIn (List.range' lo k) st (occBody x y hi limit)).run.fst.toList=st.1.toList++(List.range' lo k).filter (eX x y hi)
 |0,lo,st,_,_=>by show(st.1.toList)=st.1.toList++[];rw[Zbx]
 |k+1,lo,st,h1,h2=>by
  rw[Zfx,List.forIn_cons,ZcA];unfold occBody;by_cases c:lo+y.length<=hi/\Builtin.Str.subAt x y lo=true
  ·rw[ZaG ⟨⟨⟨.o,h1⟩,c.1⟩,c.2⟩];have hp:eX x y hi lo=true:=by unfold eX;rw[c.2,ZaA (by omega:lo+1<=hi)];rfl
   rw[hp,ZaG rfl];have:=Ww (x:=x) hw hi limit k (lo+1) (st.1.push lo,lo+y.length) (by show lo+y.length<=lo+1;omega) (by show(st.1.push lo).size+k<=limit;rw[Array.size_push];omega);refine this.trans ?_;show(st.1.push lo).toList++_=_;rw[Array.toList_push,Zb7];rfl
  ·rw[ZaD fun z=>c ⟨z.1.2,z.2⟩];have hp:eX x y hi lo=false:=by
    unfold eX;rw[Bool.and_eq_false_iff];by_cases c1:lo+1<=hi
    ·refine .inr ?_;cases hs:Builtin.Str.subAt x y lo with
     |false=>rfl
     |true=>exact absurd ⟨.o,hs⟩ c
    ·exact .inl (Zav c1)
   rw[hp,ZaD Zaj];exact Ww hw hi limit k (lo+1) (st.1,st.2) (by show st.2<=lo+1;omega) (by show st.1.size+k<=limit;omega)
theorem YS (x:Str)(i j:Nat):(Builtin.Str.strSub x i j).cps.toList=(x.cps.toList.drop i).take (j-i):=by show(x.cps.extract i j).toList=_;rw[Array.toList_extract,Ze6]
theorem VC {x:Str}{c i:Nat}(h:i<x.length):Builtin.Str.subAt x ⟨#[c]⟩ i=true↔x.cps.toList[i]? =some c:=by
 have hl:i<x.cps.toList.length:=by rw[Zbq];exact h
 have e:(x.cps.extract i (i+1)).toList=[x.cps.toList[i]]:=by rw[Array.toList_extract,Ze6,Nat.add_sub_cancel_left,Zb8 hl];rfl
 show(x.cps.extract i (i+1)== #[c])=true↔_;rw[Zco,Zax hl];constructor
 ·intro z;rw[z]at e;have:c=x.cps.toList[i]:=List.cons.inj e|>.1;rw[<-this]
 ·intro z;have z':=Za3 z;rw[z']at e;exact Zfy.mp e
theorem ZbJ (x:Str){a:Nat}(h:a<x.length):∀(r:List Nat),(∀i∈r,a+1<=i/\i<=x.length)->∃p q,(partsFrom x 1 (a+1) r).map (·.cps.toList)=p::q/\(partsFrom x 1 a r).map (·.cps.toList)=(x.cps.toList[a]'(by rw[Zbq];exact h)::p)::q:=by
 have hl:a<x.cps.toList.length:=by rw[Zbq];exact h
 have hd:∀j,a+1<=j->(x.cps.toList.drop a).take (j-a)=x.cps.toList[a]::(x.cps.toList.drop (a+1)).take (j-(a+1)):=fun j hj=>by rw[Zb8 hl,show j-a=(j-(a+1))+1 by omega,List.take_succ_cons]
 intro r hr;cases r with
 |nil=>refine⟨_,[],rfl,?_⟩;show [(Builtin.Str.strSub x a x.length).cps.toList]=[_::(Builtin.Str.strSub x (a+1) x.length).cps.toList];rw[YS,YS,hd _ .o]
 |cons c r=>refine⟨_,_,rfl,?_⟩;show(Builtin.Str.strSub x a c).cps.toList::_=(_::(Builtin.Str.strSub x (a+1) c).cps.toList)::_;rw[YS,YS,hd _ (hr c Zai).1]
theorem UK (x:Str)(c:Nat):∀(k a:Nat),a+k=x.length->(partsFrom x 1 a ((List.range' a (k+1)).filter (eX x ⟨#[c]⟩ x.length))).map (·.cps.toList)=eF c (x.cps.toList.drop a)
 |0,a,h=>by
  have e:(List.range' a (0+1)).filter (eX x ⟨#[c]⟩ x.length)=[]:=by
   show [a].filter _=[];have:eX x ⟨#[c]⟩ x.length a=false:=by unfold eX;rw[Zav .o];rfl
   rw[ZcA,this];rfl
  rw[e];show [(Builtin.Str.strSub x a x.length).cps.toList]=_;rw[YS,List.drop_of_length_le (by rw[Zbq];show x.length<=a;omega),List.take_nil];rfl
 |k+1,a,h=>by
  have ha:a<x.length:=.o;have hl:a<x.cps.toList.length:=by rw[Zbq];exact ha
  have ih:=UK x c k (a+1) .o;rw[Zfx,ZcA,Zb8 hl];have so:=VC (x:=x) (c:=c) ha;rw[Zax hl]at so;by_cases hc:x.cps.toList[a]=c
  ·have hp:eX x ⟨#[c]⟩ x.length a=true:=by unfold eX;rw[so.mpr (Zcr some hc),ZaA (by omega:a+1<=x.length)];rfl
   rw[hp,ZaG rfl,eF,ZaG hc,<-ih];show(Builtin.Str.strSub x a a).cps.toList::_=_;rw[YS,Nat.sub_self];rfl
  ·have hp:eX x ⟨#[c]⟩ x.length a=false:=by
    unfold eX;rw[Bool.and_eq_false_iff];refine .inr ?_;cases hs:Builtin.Str.subAt x ⟨#[c]⟩ a with
    |false=>rfl
    |true=>exact absurd (Za3 (so.mp hs)) hc
   rw[hp,ZaD Zaj,eF,ZaD hc,<-ih];obtain⟨p,q,e1,e2⟩:=ZbJ x ha ((List.range' (a+1) (k+1)).filter (eX x ⟨#[c]⟩ x.length)) fun i hi=>by obtain⟨h1,h2⟩:=ZaK.mp hi;have:=Zfi.mp h1;omega
   rw[e1,e2]
theorem Vj (x:Str):1<=Builtin.Str.strKind x:=by
 unfold Builtin.Str.strKind;split
 ·exact Zaq _
 ·split<;>omega
theorem Js {z:Str}{c:Nat}(hc:c<256):(Txt.split z ⟨#[c]⟩).map (·.cps.toList)=eF c z.cps.toList:=by
 have hw:(⟨#[c]⟩:Str).length=1:=rfl;have hk:Builtin.Str.strKind ⟨#[c]⟩=1:=by unfold Builtin.Str.strKind;rw[ZaG (by simp[hc])]
 have pc:=UK z c z.length 0 .o;rw[Zeq]at pc;have oc:Builtin.Str.occurrences z ⟨#[c]⟩ 0 z.length (z.length+1)=(List.range' 0 (z.length+1)).filter (eX z ⟨#[c]⟩ z.length):=by rw[occ_eq,ZfP,Ww hw z.length (z.length+1) (z.length+1) 0 (#[],0) (Zaq _) (by show 0+(z.length+1)<=_;omega)];rfl
 have whole:(⟨z.cps.extract 0 z.length⟩:Str)=z:=sub_whole z;unfold Txt.split;split
 ·rename_i h;rw[ZfS,Za5,Za5,hw,hk]at h;have:=Vj z;have hz:z.length=0:=.o;have he:z.cps.toList=[]:=List.eq_nil_of_length_eq_zero (by rw[Zbq];exact hz);show [z.cps.toList]=_;rw[he];rfl
 ·split
  ·rename_i h;rw[oc]at h;rw[List.isEmpty_iff.mp h]at pc;refine Eq.trans ?_ pc;show [z.cps.toList]=[(Builtin.Str.strSub z 0 z.length).cps.toList];rw[show Builtin.Str.strSub z 0 z.length=z from whole]
  ·rw[partsBetween_eq,oc,hw];exact pc
theorem VA {a b:Str}(h:a.cps.toList=b.cps.toList):a=b:=by obtain⟨a⟩:=a;obtain⟨b⟩:=b;exact Zcr _ (Zfy.mp h)
theorem Wg:∀{as bs:List Str},as.map (·.cps.toList)=bs.map (·.cps.toList)->as=bs
 | [],[],_=>rfl
 | [],_::_,h=>by cases h
 |_::_,[],h=>by cases h
 |a::as,b::bs,h=>by injection h with h1 h2;rw[VA h1,Wg h2]
theorem Zbw {c:Nat}(hc:c<256):∀(ws:List Str) (h:Str),(∀w∈h::ws,c∉w.cps.toList)->Txt.split (Str.join ⟨#[c]⟩ (h::ws)) ⟨#[c]⟩=h::ws:=fun ws h hf=>by
 refine Wg ?_;rw[Js hc];have key:∀(ws:List Str) (h:Str),(∀w∈h::ws,c∉w.cps.toList)->eF c (Str.join ⟨#[c]⟩ (h::ws)).cps.toList=(h::ws).map (·.cps.toList):=fun ws=>by
  induction ws with
  |nil=>intro h hf;exact Wl (hf h Zai)
  |cons w ws ih=>
   intro h hf;have e:(Str.join ⟨#[c]⟩ (h::w::ws)).cps.toList=h.cps.toList++c::(Str.join ⟨#[c]⟩ (w::ws)).cps.toList:=by show(h++⟨#[c]⟩++Str.join ⟨#[c]⟩ (w::ws)).cps.toList=_;show(h.cps++ #[c]++(Str.join ⟨#[c]⟩ (w::ws)).cps).toList=_;simp
   rw[e,Ug (hf h Zai),ih w fun u hu=>hf u (Zad _ hu)];rfl
 exact key ws h hf
end L2
namespace L2
open PySem PySem.Spec PyProof.Rows
section
variable {X:Cx}
def Mi:R2:=fun x y H Q=> ∃a b:Str,x=.str a/\y=.str b/\a.length+b.length<=sizeLine/\Q (.str (a++b)) H
theorem Z9:aZ X (binaryOp .Add) Mi:=by intro pins s σ H x y v u Q I rx ry h;obtain⟨a,b,rfl,rfl,hz,q⟩:=h;obtain⟨t,rfl⟩:=rx;obtain⟨t',rfl⟩:=ry;exact SB.add (fun t' k=> ⟨.str _,H,I.tok _,⟨_,rfl⟩,q⟩) hz
theorem XU {f:Expr}{as:List Expr}{ks:List Keyword}{p:Pos}{es:List Expr}{env:Env} :starEach (.Call f as ks p::es) env=(false,eval (.Call f as ks p) env)::starEach es env:=rfl
theorem V1 {a b:Expr}{op:Operator}{p:Pos}{es:List Expr}{env:Env} :starEach (.BinOp a op b p::es) env=(false,eval (.BinOp a op b p) env)::starEach es env:=rfl
theorem ZT {f:Expr}{as:List Expr}{ks:List Keyword}{p:Pos}{es:List Expr}{te:TE}{t:TA}(h:PE X (.Call f as ks p) te)(hr:PA X es t):PA X (.Call f as ks p::es) (cq te t):=Za h hr XU
theorem xg {a b:Expr}{op:Operator}{p:Pos}{es:List Expr}{te:TE}{t:TA}(h:PE X (.BinOp a op b p) te)(hr:PA X es t):PA X (.BinOp a op b p::es) (cq te t):=Za h hr V1
end
abbrev xu (w:World)(e:DictEntry)(kv:Key×V):Prop:=lC kv.1 e.key=true/\e.hash=As w kv.1/\RelV kv.2 e.val
inductive iY (K:ZgE) (w:World) (a:Addr) (ai:List (Key×V)):Prop
 |mk (o:Obj) (es:Array DictEntry) (ep:Nat) (hk:K.lookup a=some o) (hx:o.ExactDict) (hd:o.data=.dict es ep) (hs:(a==sysModules)=false) (hp:Paired (xu w) es.toList ai) (nd:(ai.map (·.1)).Nodup)
theorem Iq {P:Program}{w:World} :∀{es:List DictEntry}{ai:List (Key×V)},Paired (xu w) es ai->∃vs,KV ai vs/\Pairs (dN P w) es vs/\vs.map (·.1)=ai.map (·.1)
 |_,_,.nil=> ⟨[],.nil,.nil,rfl⟩
 |e::_,kv::_,.cons h r=>by obtain⟨vs,h1,h2,h3⟩:=Iq (P:=P) r;exact⟨(kv.1,e.val)::vs,.cons ⟨rfl,h.2.2⟩ h1,.cons h.1 rfl h2,by rw[ZaQ,ZaQ,h3]⟩
theorem GD {w:World} :∀{es:List DictEntry}{ai:List (Key×V)},Paired (xu w) es ai->∀e∈es,∃k,lC k e.key=true/\e.hash=As w k
 |_,_,.cons h r,e,m=>by
  rcases Zaf.mp m with rfl |m
  ·exact⟨_,h.1,h.2.1⟩
  ·exact GD r e m
theorem iY.at {K:ZgE}{w:World}{a:Addr}{ai:List (Key×V)}(d:iY K w a ai){h:Heap}(hi:K.In h)(P:Program):(a==sysModules)=false/\(∃ob,h.get? a=some ob/\ob.dict=none)/\∃vs,KV ai vs/\h.DictOf (dN P w) a vs:=by obtain⟨o,es,ep,hk,hx,hd,hs,hp,nd⟩:=d;obtain⟨vs,h1,h2,h3⟩:=Iq (P:=P) hp;refine⟨hs,⟨o,hi _ _ hk,hx.2.1⟩,vs,h1,o,es,ep,hi _ _ hk,hx,hd,fun e he=> ?_,h2,by rw[h3];exact nd⟩;exact GD hp e (by simpa using he)
section
variable {X:Cx}{o e i:Expr}{apos bB pos:Pos}{td ty:TE}
inductive Mo (K:ZgE) (w:World) (x y:V) (H:Hp) (Q:VK):Prop
 |mk (a:Addr) (ai:List (Key×V)) (k:Key) (ex:x=kV k) (ey:y=.ref a) (d:iY K w a ai) (q:Q (.bl (bD ai k).isSome) H)
theorem Ts:aZ X (compareOp .In) (Mo X.K X.w):=by intro pins s σ H x y v u Q I rx ry h;obtain⟨a,ai,k,rfl,rfl,d,q⟩:=h;cases ry;obtain⟨hs,_,vs,rel,dd⟩:=d.at I.bA X.prog;refine wpAny_in_of (Wj rx) hs dd.mapOf ?_;exact⟨.bl (bD ai k).isSome,H,I.tok _,by rw[(rel.val k).vQ];rfl,q⟩
inductive GK (K:ZgE) (w:World) (y:V) (Q:VK) (x:V) (H:Hp):Prop
 |mk (a:Addr) (ai:List (Key×V)) (k:Key) (v:V) (ex:x=.ref a) (ey:y=kV k) (d:iY K w a ai) (l:bD ai k=some v) (q:Q v H)
def Lc (K:ZgE)(w:World)(td ty:TE):TE:=fun σ H Q=>td σ H fun x H1=>ty σ H1 fun y H2=>GK K w y Q x H2
theorem Ib (ho:PE X o td)(hi:PE X i ty)(hs:IE i):PE X (.Subscript o i pos) (Lc X.K X.w td ty):=by intro pins s σ H Q I h;refine VB PySem.F.slot_dict_getitem.lookup hs (au (ho pins s σ H _ I h) fun u s1 ⟨x,H1,I1,rx,q1⟩=>au (hi pins s1 σ H1 _ I1 q1) fun iv s2 ⟨y,H2,I2,ry,a,ai,k,v,ex,ey,d,l,q2⟩=> ?_);subst ex ey;obtain rfl:u=Value.ref a:=rx;obtain⟨_,_,vs,rel,dd⟩:=d.at I2.bA X.prog;obtain⟨w',hw,gL⟩:=fm.some_of (v:=v) (o:=valueAt vs k) (by rw[<-l];exact rel.val k);exact⟨dd.typeIs,wpAny_getItem_of (Wj ry) dd.mapOf hw ⟨v,H2,I2.tok _,gL,q2⟩⟩
inductive GK1 (K:ZgE) (w:World) (ty:TE) (σ:St) (Q:VK) (x:V) (H:Hp):Prop
 |mk (a:Addr) (ai:List (Key×V)) (ex:x=.ref a) (d:iY K w a ai) (q:ty σ H fun y H2=> ∃k,y=kV k/\Q ((bD ai k).getD .ag) H2)
def Lb (K:ZgE)(w:World)(td ty:TE):TE:=fun σ H Q=>td σ H (GK1 K w ty σ Q)
theorem XQ (ho:PE X o td)(he:PE X e ty)(m:M1 X o "get" apos e bB):PE X (.Call (.Attribute o "get" apos) [e] [] bB) (Lb X.K X.w td ty):=by intro pins s σ H Q I h;refine wpAny_Call_method m.base m.aT m.line PySem.F.plainAttrs_dict Zc8 PySem.F.type_dict_get (au (ho pins s σ H _ I h) fun u s1 ⟨x,H1,I1,rx,a,ai,ex,d,q1⟩=> ?_);subst ex;obtain rfl:u=Value.ref a:=rx;obtain⟨_,t2,vs,_,dd⟩:=d.at I1.bA X.prog;refine⟨dd.typeIs,fun b q=>by cases q;exact t2,?_⟩;rw[m.trees];refine Zdv rfl (ZdS (Ze0 (au (he pins s1 σ H1 _ I1 q1) fun iv s2 ⟨y,H2,I2,ry,k,ey,q2⟩=>Zfe ?_)));subst ey;obtain⟨hs,_,vs,rel,dd⟩:=d.at I2.bA X.prog;refine call_meetsIn Zc8 dd.typeIs Zeh (Zd8 _ _) (meets_dict_get (dN X.prog X.w) a (Wj ry) hs) ⟨_,dd.mapOf,?_⟩;exact⟨_,H2,I2.tok _,(rel.val k).getD (d:=.ag) rfl,q2⟩
end
section
variable {prog:Program}{w:World}{A:Around}{E:Value->Shared->Prop}
theorem UY {it l:Addr}{items:Array Value}(bW:l≠it):∀(n i:Nat) (s:Shared) (Q:List Value->Shared->Prop),s.heap.IsListIter it l i->s.heap.IsList l items->i+n<=items.size->
  (∀h':Heap,h'.IsListIter it l (i+n)->Heap.SameBut it s.heap h'->Q ((items.toList.drop i).take n) {s with heap:=h'})->wpAny (model prog w) A (draw (.ref it) n) Q E s
 |0,i,s,Q,hit,_,_,hQ=>by show wpAny _ _ (pure []) Q E s;exact Zao (by simpa using hQ s.heap hit (Zff ..))
 |n+1,i,s,Q,hit,ht,hle,hQ=>by
  have aI:i<items.size:=.o;show wpAny _ _ (pyNext (.ref it) >>=_) Q E s;refine eg (ZcV hit ht (x:=items[i]) (by simp[aI]) fun bt qj gq=> ?_);refine eg (ZaU (UY bW n (i+1) _ _ qj (ht.extBut gq.extBut bW) .o fun hX Pl OB=>Zao ?_));have hd:items.toList.drop i=items[i]::items.toList.drop (i+1):=by simp[Zb8,aI]
  have:=hQ hX (by rw[show i+(n+1)=i+1+n by omega];exact Pl) (gq.trans OB);rw[hd,List.take_succ_cons]at this;exact this
theorem JX {s:Shared}{l:Addr}{items:Array Value}{Q:List Value->Shared->Prop}(hh:bL s.heap A.handled)(ht:s.heap.IsList l items)
  (hQ:∀h',Heap.ExtBut s.heap.objs.size s.heap h'->Q items.toList {s with heap:=h'}):wpAny (model prog w) A (unpackItems (.ref l) items.size none) Q E s:=by
 have aI:l≠s.heap.objs.size:=by obtain⟨o,ho,_⟩:=ht;exact Zay (Zal ho)
 unfold unpackItems;refine eg ?_
 ·unfold notIterableAtAll;refine eg (ZeL ht.typeIs slot_list_iter.lookup ?_);refine Zao ?_;simp only[Zbe,Zdd];refine eg (ZaU (Zde ht ?_));refine eg (ZaU (UY aI items.size 0 _ _ ⟨_,Zau _ rfl,rfl,rfl⟩ (ht.push _) .o fun bt qj gq=> ?_));have jy:List.take items.size (List.drop 0 items.toList)=items.toList:=by rw[Zeq];exact ZcW (by simp)
  rw[jy];rw[ZaD (by simp)];have Ou:bt.IsList l items:=(ht.push _).extBut gq.extBut aI;rw[Nat.zero_add]at qj;refine eg (ZaU (JL (hh.keeps fun b o q=>gq.extBut b o (Zay (Zal q)) (gc _ q)) qj Ou (by simp) fun hX ql=> ?_));simp only[Option.isSome_none,Zbe,Zdd];refine Zao (hQ hX fun b o hb e=>ql b o hb (gq.extBut b o hb (gc _ e)))
end
section
variable {X:Cx}{pos:Pos}
inductive Qp (K:ZgE) (n:Nat) (t:kE) (v:V) (σ:St) (H:Hp) (Q:St->Hp->Prop):Prop
 |mk (a:Addr) (xs:List V) (ev:v=.ref a) (h:ao K H a xs) (en:xs.length=n) (q:t xs σ H Q)
theorem Ht {es:List Expr}{k:Nat}{t:kE}{n:Nat}(hc:X.calm=true)(h:tZ X es t)
  (hn:(assignEach es X.env).length=n:=by rfl) (fH:(assignEach es X.env).findIdx? (·.1)=none:=by rfl):PG X (.Tuple es k pos) (Qp X.K n t):=by
 intro pins s σ H v u Q I r hw;obtain⟨a,xs,e1,hq,hl,hw⟩:=hw;subst e1;cases r;obtain⟨ae,rv,pl,hz⟩:=I.list hq;rw[assign_Tuple];refine eg (Zbg ?_);unfold unpack;have hlen:(assignEach es X.env).length=ae.toArray.size:=by rw[hn,<-hl,rv.length];simp
 rw[hlen,fH];refine eg (ZaU (JX (I.eC hc) pl.isList fun h' hx=> ?_));have I1:Inv X pins σ H {s with heap:=h'} :=I.kept (t':=s.toks) fun b o e=>hx b o (Zay (Zal e)) e;exact h pins _ σ H xs _ Q I1 (by simpa using rv) hw
end
theorem aw.any {P:Program}{w:World}{K:ZgE}{mg:Str->Option Value}{base:Heap}{CX:fZ}{k:Nat}{f:Addr}{fd:FuncData}{ps:List Str}{sp:Sp}(F:aw P w K mg base aF k f fd ps sp):aw P w K mg base CX k f fd ps sp:=
 ⟨F.len,fun A outer s H args us vs Q E hr he hb hv hs=>Zcy (F.run A outer s H args us vs Q E hr he hb hv hs) fun r s' h=>by
  cases r with
  |error e=>exact False.elim h
  |ok fl=>cases fl<;>exact h⟩
section
variable {X:Cx}{CX:fZ}{E:XK}{x:Str}{p pos:Pos}{e:Expr}{es:List Expr}{t:TA}
def IA (X:Cx)(CX:fZ)(f:Addr)(sp:Sp):Prop:=∃(k:Nat) (fd:FuncData) (ps:List Str),aw X.prog X.w X.K X.mg X.base CX k f fd ps sp/\bf k X.A/\PySem.W.keepIn X.K (.ref f)=true/\Binds X.K fd ps []
inductive Lg (X:Cx) (CX:fZ) (i:Nat) (E:XK) (t:TA) (σ:St) (H:Hp) (Q:VK):Prop
 |mk (f:Addr) (sp:Sp) (e:σ[i]? =some (some (.ref f))) (F:IA X CX f sp) (q:kJ sp [] E t σ H Q)
theorem Ia {i:Nat}(hv:PE X (.Name x p) (gf i))(hx:Passes CX X E)(ha:PA X (e::es) t)(he:starEach (e::es) X.env=(false,eval e X.env)::starEach es X.env:=by rfl)(cA:(backTo pos (starEach es X.env)).any (·.1)=false:=by rfl)(hc:X.calm=true:=by rfl):
  PE X (.Call (.Name x p) (e::es) [] pos) (Lg X CX i E t):=by
 intro pins s σ H Q I h;obtain⟨f,sp,jl,⟨k,fd,ps,F,hr,hk,hb⟩,h⟩:=h;exact ZbI F hr hv hk hb .nil hx ha he cA hc pins s σ H Q I ⟨jl,h⟩
end
abbrev Cx.jr (X:Cx)(e:Addr)(o:Obj):Cx:= {X with A:=X.A.mark (some (.ref e)),calm:=false,xe:=fun _ _=>False,pn:=(e,o)::X.pn}
def ua (o:Obj):Prop:=∃C vs,o.cls=.ref C/\o.data=.fields vs/\vs[2]? =some .none
def IQ (X:Cx):Prop:=∀pins σ H s,Inv X pins σ H s->bL s.heap X.A.handled/\∀a∈jS X.A.handled,H a=none/\a∉aU X.stack
theorem S8 {X:Cx}{e:Addr}{o:Obj}(ok:ua o):IQ (X.jr e o):=fun pins σ H s I=>by
 obtain⟨C,vs,h1,h2,h3⟩:=ok;obtain⟨p1,p2,p3,p4,_⟩:=I.pin (e,o) (.head _);refine⟨⟨e,o,vs,C,rfl,p1,h1,h2,h3⟩,fun a m=> ?_⟩;cases m with
 |head=>
  refine⟨p2,fun z=> ?_⟩;rcases Zaf.mp (I.qZ e z) with q |q
  ·exact p3 q
  ·exact p4 q
 |tail _ m=>cases m
theorem bf.mark {k:Nat}{A:Around}(r:bf k A)(h:k<100)(e:Value):bf k (A.mark (some e)):=⟨fun z=>absurd (Zaw h z) (Zba _),r.dp,r.un,r.gd⟩
section
variable {X:Cx}{pins:List (Addr×Obj)}{σ:St}{H H':Hp}{s s':Shared}
theorem Inv.jr {e:Addr}{o:Obj}(I:Inv X pins σ H s)(p:s.heap.get? e=some o/\H e=none/\e≠X.env.locals/\e∉X.fs/\∀v,o.data≠.cell v):Inv (X.jr e o) pins σ H s:=
 ⟨⟨I.ok.mod,I.ok.kind,I.ok.glob,I.ok.blt,I.ok.above,I.ok.inj,I.ok.has,I.ok.jZ,fun h=>Bool.noConfusion h,I.ok.frames,I.ok.kL,I.ok.jY,I.ok.bs,I.ok.iz,I.ok.kz,I.ok.jB,I.ok.dg,I.ok.gB⟩,I.os,I.bare,I.base,I.loc,I.cell,I.free,I.fO,fun q hq=>by
  rcases Zaf.mp hq with rfl |hq
  ·exact p
  ·exact I.pin q hq,I.ar,I.len⟩
theorem Inv.uz {e:Addr}{o:Obj}(I:Inv (X.jr e o) pins σ H s)(hd:X.calm=true->bL X.base X.A.handled):Inv X pins σ H s:=
 ⟨⟨I.ok.mod,I.ok.kind,I.ok.glob,I.ok.blt,I.ok.above,I.ok.inj,I.ok.has,I.ok.jZ,hd,I.ok.frames,I.ok.kL,I.ok.jY,I.ok.bs,I.ok.iz,I.ok.kz,I.ok.jB,I.ok.dg,I.ok.gB⟩,I.os,I.bare,I.base,I.loc,I.cell,I.free,I.fO,fun q hq=>I.pin q (Zad _ hq),I.ar,I.len⟩
theorem Inv.Gi {e C:Addr}{B h':Heap}{o:Obj}(I:Inv X pins σ H s)(un:Un (aU X.stack) [] H H' s.heap s'.heap)(os:s'.os=s.os)(bare:AllBare s'.gens)(ar:bC X.prog X.w H' s'.heap)
  (bG:∀b o,s.heap.get? b=some o->b∉aU X.stack->∃u,B.get? b=some u) (dS:∀b o,H' b=some o->∃u,B.get? b=some u) (be:B.get? e=none) (k1:B.StaysIn s'.heap) (k2:B.StaysIn h') (up:s'.heap.UpToSlots h')
  (he:h'.get? e=some o) (hd:∃vs,o.data=.fields vs):Inv X pins σ H' {s' with heap:=h'}/\h'.get? e=some o/\H' e=none/\e≠X.env.locals/\e∉X.fs/\∀v,o.data≠.cell v:=by
 have n0:H' e=none:=by
  cases q:H' e with
  |none=>rfl
  |some u=>obtain⟨u',hu⟩:=dS e u q;rw[be]at hu;cases hu
 have jJ:∀b o,s.heap.get? b=some o->b∈aU X.stack->∃sl,h'.get? b=some {o with slots:=sl} :=fun b o hb hm=>by obtain⟨_,o',bV,nf⟩:=I.stack.mem hm;rw[hb]at bV;cases bV;obtain⟨mC,e1⟩:=un.slot b o hb (I.oU b hm) hm (by simp);obtain⟨fw,e2⟩:=up b _ e1 nf;exact⟨fw,e2⟩
 have vF:∀b u,s.heap.get? b=some u->e≠b:=fun b u hb z=>by
  rw[<-z]at hb;by_cases hm:e∈aU X.stack
  ·obtain⟨_,o',bV,nf⟩:=I.stack.mem hm;rw[hb]at bV;cases bV;obtain⟨sl,q⟩:=jJ e u hb hm;rw[he]at q;cases q;obtain⟨vs,hv⟩:=hd;exact nf vs hv
  ·obtain⟨u',hu⟩:=bG e u hb hm;rw[be]at hu;cases hu
 have rR:∀b o u,s'.heap.get? b=some o->B.get? b=some u->h'.get? b=some o:=fun b o u hb hu=>by have e1:=k1 b u hu;rw[hb]at e1;cases e1;exact k2 b _ hu
 refine⟨I.wW (s':= {s' with heap:=h'}) (ch:=[]) os ⟨fun b u hb hn hf _=> ?_,fun b u hb hn hm _=>jJ b u hb hm,fun b u hb hn h=>un.free b u hb hn h,fun b u hb _=> ?_,un.f9,un.fN,un.fv⟩ (YY ar dS k1 k2) bare (fun b hb=>absurd hb (by simp)),he,n0,?_,?_,fun v z=> ?_⟩
 ·have e1:=un.keep b u hb hn hf (by simp);obtain⟨u',hu⟩:=bG b u hb hf;exact rR b u u' e1 hu
 ·by_cases hm:b∈aU X.stack
  ·obtain⟨sl,q⟩:=jJ b u hb hm;exact⟨_,q⟩
  ·obtain⟨u',hu⟩:=bG b u hb hm;exact⟨u',k2 b u' hu⟩
 ·obtain⟨m,⟨o1,_,_,qg,_⟩,_⟩:=I.loc;exact vF _ _ qg
 ·intro hm;obtain⟨_,o1,qg,_⟩:=I.ok.dg.mem hm;obtain⟨o2,iL⟩:=I.base.there e o1 qg (fun z=>I.ok.jB _ z hm);exact vF _ _ iL rfl
 ·obtain⟨vs,hv⟩:=hd;rw[hv]at z;cases z
end
def KG (X:Cx)(ix iy:Nat)(C:Addr)(m:Str)(cS:Addr)(sp:Sp)(ts:TS):TS:=fun D σ H=> ∃a dx fs y,σ[ix]? =some (some (.ref a))/\σ[iy]? =some (some y)/\H a=some (.ins C dx fs)/\fs.lookup m=none/\
 sp [.ref a,y] H D.rt fun ev c H'=> ∃e C',ev=.ref e/\c=some C'/\PySem.W.exmOne X.K (.ref C') (.ref cS)=some true/\ts D σ H'
theorem Vs {X:Cx}{ix iy k:Nat}{x y m S:Str}{C cS f:Addr}{fd:FuncData}{sp:Sp}{ps:List Str}{b0:Stmt}{qY:List Stmt}{ts:TS}{p1 p2 p3 p4 p5 p6 p7 p8:Pos}{pl:Sem Bool}(sJ:X.calm=true)(OW:X.A.handled=none)(fH:X.stack=X.env::X.outer)(cU:X.env.frame=some X.env.locals)
    (jw:X.N[ix]? =some x) (Oh:oH X.env.scope x) (Pk:X.N[iy]? =some y) (Og:oH X.env.scope y) (c:iF X.K C) (hm:Meth X.K C m f) (F:aw X.prog X.w X.K X.mg X.base (bc X.prog X.w) k f fd ps sp) (hr:bf k X.A) (hb:Binds X.K fd ps [])
    (hS:X.mg S=some (.ref cS)) (Bc:Gl X S) (AK:∀e o,ua o->dG (X.jr e o) (b0::qY) ts)
    (PL:(x==("__debug__" :Str))=false:=by decide) (PJ:(x==("__classdict__" :Str))=false:=by decide) (PH:(y==("__debug__" :Str))=false:=by decide) (PF:(y==("__classdict__" :Str))=false:=by decide) (Bh:(S==("__debug__" :Str))=false:=by decide)
    (OE:starEach [.Name y p3] X.env=(false,eval (.Name y p3) X.env)::starEach [] X.env:=by rfl)
    (ht:eval (.Call (.Attribute (.Name x p1) m p2) [.Name y p3] [] p4) X.env=(do
      let ov <-eval (.Name x p1) X.env
      standAt p2.atName
      let (f,first) <-holding [ov] (getMethod ov m pl)
      callWith p4 f first (backTo p4 (starEach [.Name y p3] X.env)) (backToKw p4 (keywordEach [] X.env))):=by rfl):
    PS X (.Try [.Return (some (.Call (.Attribute (.Name x p1) m p2) [.Name y p3] [] p4)) p5] [.ExceptHandler (some (.Name S p6)) none (b0::qY) p7] [] [] p8) (KG X ix iy C m cS sp ts):=by
  intro pins s σ H D I h;obtain⟨a,dx,fs,yv,N8,N7,ha,hl,dc⟩:=h;refine wpAny_Try_except ?_;refine Zez (wpAny_Return_some ?_);refine Zew (pl:=pl) ?_ ht;have nm:=J3 (X:=X.fq (fun _ _=>False)) (i:=ix) (x:=x) (pos:=p1) jw Oh PL PJ pins s σ H (fun v H2=>v=.ref a/\H2=H) (I.fq _) ⟨_,N8,rfl,rfl⟩;refine ZaI nm (fun u s1 h1=> ?_) (fun _ _ z=>z.elim);obtain⟨v,H1,I1,r1,rfl,rfl⟩:=h1;have I1:=I1.i9;obtain rfl:u=Value.ref a:=r1;refine Jz I1 ha c hm hl ?_;have pa:PA (X.fq (fun _ _=>False)) [.Name y p3] _:=Za (J3 (i:=iy) (x:=y) (pos:=p3) Pk Og PH PF) Zb;have qa:=pa p4 pins s1 σ H1 (fun vs H2=>vs=[yv]/\H2=H1) (I1.fq _) ⟨yv,N7,rfl,rfl⟩;refine Zdz (first:=[.ref a]) (h₀:=X.base) I.ok.mod.kA hm.kp (ZaI qa (fun us s2 h2=> ?_) fun _ _ z=>z.elim) OE rfl;obtain⟨vs,H2,I2,r2,rfl,rfl⟩:=h2;have I2:=I2.i9;refine⟨I2.bA,?_⟩;have r3:Vals [.ref a,yv] (.ref a::us):=.cons rfl r2;have iM:(Value.ref a::us).length=ps.length:=by rw[<-r3.length];exact F.len _ _ _ _ dc
  refine Zfc (Zcy (F.run X.A X.stack s2 H2 ⟨.ref a::us,[]⟩ (.ref a::us) [.ref a,yv] _ _ hr (I2.wK sJ) (by have:=hb s2 (.ref a::us) I2.bA (by rw[Zbx];exact iM);rw[Zbx]at this;exact this) r3 dc) fun r s3 hq=> ?_);cases r with
  |ok fl=>
   cases fl with
   |ret u=>obtain⟨v,H',J,rv,z⟩:=I2.after hq;exact⟨v,σ,H',J,rv,z⟩
   |next=>exact hq.elim
   |brk=>exact hq.elim
   |cont=>exact hq.elim
  |error ev=>
   obtain⟨e,C',H3,rfl,FL,e',C'',q1,q2,hx,hk⟩:=hq;cases q1;cases q2;obtain⟨B,a0,c0,fl,sN,bG,dS⟩:=FL.wH;have:=sN OW;subst this;rw[fH]at fl;show wpAny (model X.prog X.w) X.A (noteFrame (.ref e) X.env) _ X.xe s3;have tD:X.A.frames=some (X.env::X.outer):=by rw[<-fH];exact I.ok.frames
   refine Eh (L:=X.env.locals) tD cU fl fun h4 ⟨⟨m1,m2,m3,m4⟩,mc⟩ qR=> ?_;refine vJ m1 m2 m3 m4 mc fun h5 tF qP=> ?_;obtain⟨⟨n1,n2,n3,n4⟩,nc⟩:=tF;obtain⟨o5,Kj,_,_,_,tj,wD,Bx,_⟩:=id n4;have c5:=I2.Gi (h':=h5) (C:=C') FL.un FL.os FL.bare FL.ar bG dS fl.1.2.1 fl.1.1 n1 (qR.trans qP) tj ⟨_,Bx⟩;have I5:=c5.1.jr c5.2;refine wpAny_handleBy_cons (codeAny_handlers_test ?_) (by intro q;cases q);refine YL (X:=X.jr e o5) I5 Bc hS ?_ Bh;have LX:=PySem.W.exm_one (M:=model X.prog X.w) (c:=.ref cS) (e:=e) I5.bA (JB tj wD.1) hx;refine LX.at ?_;refine codeAny_handlers_suite ?_;refine vJ (s:= {s3 with heap:=h5}) n1 n2 n3 n4.at nc fun h6 wI xF=> ?_;obtain⟨⟨k1,k2,k3,k4⟩,kc⟩:=wI;obtain⟨o6,Ki,_,_,_,wC,Bw,Bv,_⟩:=id k4;have c6:=I2.Gi (h':=h6) (C:=C') FL.un FL.os FL.bare FL.ar bG dS fl.1.2.1 fl.1.1 k1 ((qR.trans qP).trans xF) wC ⟨_,Bv⟩;have I6:=c6.1.jr c6.2;have rD:ua o6:=by obtain⟨o7,Kh,z1,z2,z3⟩:=kc;rw[wC]at z1;cases z1;exact⟨C',Kh,Bw.1,z2,z3⟩
   refine ZaI (AK e o6 rD pins _ _ _ _ I6 hk) (fun Bz s8 h8=> ?_) fun _ _ z=>z.elim;have ff:=fun z=>I.ok.hd z;cases Bz with
   |ret u=>obtain⟨v8,gH,H8,I8,q8⟩:=h8;exact⟨v8,gH,H8,I8.uz ff,q8⟩
   |brk=>obtain⟨gH,H8,I8,q8⟩:=h8;exact⟨gH,H8,I8.uz ff,q8⟩
   |cont=>obtain⟨gH,H8,I8,q8⟩:=h8;exact⟨gH,H8,I8.uz ff,q8⟩
   |next=>obtain⟨gH,H8,I8,q8⟩:=h8;exact⟨gH,H8,I8.uz ff,q8⟩
end L2
namespace L2
open PySem PySem.Spec PyProof.Rows SeqAt
section
variable {X:Cx}
def xr (K:ZgE)(H:Hp)(x y:V):Prop:=(∃z:Str,x=.str z/\y=.str z)∨IW K H x y
theorem RT {pins:List (Addr×Obj)}{σ:St}{H:Hp}{s:Shared}{x y:V}{u v:Value}(A:Around)(hu:A.units<cLine)(I:Inv X pins σ H s)(h:xr X.K H x y)(ru:RelV x u)(rv:RelV y v):EqAt A s u v true:=by
 rcases h with ⟨z,rfl,rfl⟩ |h
 ·obtain⟨t1,rfl⟩:=ru;obtain⟨t2,rfl⟩:=rv;have q:=EqAt.str_str (A:=A) (s:=s) z t1 z t2;simpa using q
 ·exact RQ A hu I h ru rv
def DI (K:ZgE)(r:Bool):R2:=fun x y H Q=> ∃(a b:Addr) (xs ys:List V),x=.ref a/\y=.ref b/\ao K H a xs/\ao K H b ys/\Paired (xr K H) xs ys/\Q (.bl r) H
theorem Hw {pins:List (Addr×Obj)}{σ:St}{H:Hp}{s:Shared}{xs ys:List V}{us vs:List Value}(A:Around)(hu:A.units<cLine)(I:Inv X pins σ H s)(pr:Paired (xr X.K H) xs ys)(r1:Vals xs us)(r2:Vals ys vs):∀j (h1:j<us.toArray.size) (h2:j<vs.toArray.size),EqAt A s us.toArray[j] vs.toArray[j] true:=fun j h1 h2=>by
 have l1:=r1.length;have hj:j<xs.length:=by simp at h1;omega
 obtain⟨y,hy,e⟩:=JF pr (Zax hj);obtain⟨u,jO,ru⟩:=r1.get (Zax hj);obtain⟨v,gT,rv⟩:=r2.get hy;have e1:us.toArray[j]=u:=by simpa using (Zaa.mp jO).2
 have e2:vs.toArray[j]=v:=by simpa using (Zaa.mp gT).2
 rw[e1,e2];exact RT A hu I e ru rv
theorem GW (hu:X.A.units+1<cLine):aZ X (compareOp .Eq) (DI X.K true):=by
 intro pins s σ H x y u v Q I rx ry h;obtain⟨a,b,xs,ys,rfl,rfl,ha,hb,pr,q⟩:=h;cases rx;cases ry;obtain⟨us,r1,p1,_⟩:=I.list ha;obtain⟨vs,r2,p2,_⟩:=I.list hb;have hsz:us.toArray.size=vs.toArray.size:=by have:=r1.length;have:=r2.length;have:=Za6 pr;simp at *;omega
 refine eq_listAt (e:=fun _=>true) p1.isList p2.isList hsz (Zfb hu) (Hw X.A.in1 hu I pr r1 r2) ?_;have e:(List.range us.toArray.size).all (fun _=>true)=true:=by simp
 rw[e];exact⟨.bl true,H,I,rfl,q⟩
theorem Tt (hu:X.A.units+1<cLine):aZ X (compareOp .NotEq) (DI X.K false):=by
 intro pins s σ H x y u v Q I rx ry h;obtain⟨a,b,xs,ys,rfl,rfl,ha,hb,pr,q⟩:=h;cases rx;cases ry;obtain⟨us,r1,p1,_⟩:=I.list ha;obtain⟨vs,r2,p2,_⟩:=I.list hb;have hsz:us.toArray.size=vs.toArray.size:=by have:=r1.length;have:=r2.length;have:=Za6 pr;simp at *;omega
 refine RcNeAt.lists (e:=fun _=>true) p1.isList p2.isList hsz (Zfb hu) (Hw X.A.in1 hu I pr r1 r2) _ _ _ _ ?_;have e:(List.range us.toArray.size).all (fun _=>true)=true:=by simp
 rw[e];exact⟨.bl false,H,I,rfl,q⟩
end
end L2
namespace PyProof.Rows.eO
open PySem
structure Ord (r:Keyed->Keyed->Bool):Prop where
 qF:∀x y,r x y=true->r y x=false
 lh:∀x y z,r y x=false->r z y=false->r z x=false
theorem Ord.nN {r:Keyed->Keyed->Bool}(o:Ord r)(x:Keyed):r x x=false:=by
 cases h:r x x with
 |false=>rfl
 |true=>have:=o.qF x x h;rw[h]at this;cases this
section
variable {prog:Program}{w:World}{A:Around}{E:Value->Shared->Prop}{s:Shared}{κ:SortKind}{a₀:Array Keyed}{r:Keyed->Keyed->Bool}
def uu (prog:Program)(w:World)(A:Around)(E:Value->Shared->Prop)(s:Shared)(κ:SortKind)(a₀:Array Keyed)(r:Keyed->Keyed->Bool):Prop:=
 ∀(x y:Keyed) (st:SortSt) (Q:Option Bool->SortSt->Prop),x∈a₀.toList->y∈a₀.toList->kindOf st=κ->Q (some (r x y)) st->wpS (model prog w) A E s (lt' x y) Q st
theorem HR {arr:Array Keyed}{i:Nat}{x:Keyed}{Q:Keyed->SortSt->Prop}{st:SortSt}(hx:arr[i]? =some x)(h:Q x st):wpS (model prog w) A E s (elem' arr i) Q st:=by rw[elem'_eq,hx];exact Zcx h
theorem Wq {σ α:Type}{c:Prop}[Decidable c]{t e:StateT σ Sem α}{Q:α->σ->Prop}{st:σ}(h1:c->wpS (model prog w) A E s t Q st)(h2:¬c->wpS (model prog w) A E s e Q st):wpS (model prog w) A E s (if c then t else e) Q st:=by
 by_cases h:c
 ·rw[ZaG h];exact h1 h
 ·rw[ZaD h];exact h2 h
theorem VH {σ α:Type}{x y:Nat}{t e:StateT σ Sem α}{Q:α->σ->Prop}{st:σ}(h1:x=y->wpS (model prog w) A E s t Q st)(h2:¬x=y->wpS (model prog w) A E s e Q st):wpS (model prog w) A E s (if (x==y)=true then t else e) Q st:=
 Wq (fun h=>h1 (Zco.mp h)) (fun h=>h2 fun z=>h (Zco.mpr z))
theorem TU {σ α:Type}{b:Bool}{t e:StateT σ Sem α}{Q:α->σ->Prop}{st:σ}(h1:b=true->wpS (model prog w) A E s t Q st)(h2:b=false->wpS (model prog w) A E s e Q st):wpS (model prog w) A E s (if b=true then t else e) Q st:=
 Wq h1 (fun h=>h2 (Bool.eq_false_iff.mpr h))
theorem GV {σ α:Type}{c:Prop}[Decidable c]{j:Unit->StateT σ Sem α}{t:StateT σ Sem α}{Q:α->σ->Prop}{st:σ}(P:σ->Prop)(h:∀av,P av->wpS (model prog w) A E s (j ()) Q av)
  (h1:c->(∀av,P av->wpS (model prog w) A E s (j ()) Q av)->wpS (model prog w) A E s t Q st) (h2:¬c->P st):wpS (model prog w) A E s (if c then t else j ()) Q st:=
 Wq (fun z=>h1 z h) (fun z=>h _ (h2 z))
end
abbrev Pw (r:Keyed->Keyed->Bool)(l:List Keyed):Prop:=l.Pairwise fun x y=>r y x=false
def Good (r:Keyed->Keyed->Bool)(a b res:Array Keyed):Prop:=res.toList.Perm (a.toList++b.toList)/\Pw r res.toList
structure JW (r:Keyed->Keyed->Bool)(a b out:Array Keyed)(ia ib:Nat):Prop where
 perm:(out.toList++(a.toList.drop ia++b.toList.drop ib)).Perm (a.toList++b.toList)
 Lr:Pw r out.toList
 RB:∀x∈out.toList,∀y∈a.toList.drop ia++b.toList.drop ib,r y x=false
structure MCx (r:Keyed->Keyed->Bool)(a b:Array Keyed):Prop where
 o:Ord r
 sa:Pw r a.toList
 sb:Pw r b.toList
theorem SN {xs:Array Keyed}{i:Nat}{x:Keyed}(h:xs[i]? =some x):xs.toList[i]? =some x:=by rw[ZdI];exact h
theorem Yo {xs:Array Keyed}{i:Nat}(h:i<xs.size):∃x,xs[i]? =some x:=⟨xs[i],getElem?_pos xs i h⟩
theorem Ti {xs:Array Keyed}{i:Nat}{x:Keyed}(h:xs[i]? =some x):x∈xs.toList:=ZaC (SN h)
structure JH (r:Keyed->Keyed->Bool)(a b out:Array Keyed)(na nb:Nat):Prop where
 la:na<=a.size
 lb:nb<=b.size
 perm:((a.toList.take na++b.toList.take nb)++out.toList.reverse).Perm (a.toList++b.toList)
 Lr:Pw r out.toList.reverse
 RB:∀y∈a.toList.take na++b.toList.take nb,∀x∈out.toList,r x y=false
def SI (r:Keyed->Keyed->Bool)(xs:Array Keyed)(lo hi:Nat):Prop:=∀i j x y,lo<=i->i<=j->j<hi->xs[i]? =some x->xs[j]? =some y->r y x=false
def NI (r:Keyed->Keyed->Bool)(xs:Array Keyed)(lo hi:Nat):Prop:=∀i j x y,lo<=i->i<=j->j<hi->xs[i]? =some x->xs[j]? =some y->r x y=false
def EQ (r:Keyed->Keyed->Bool)(xs:Array Keyed)(lo hi:Nat):Prop:=∀i j x y,lo<=i->i<hi->lo<=j->j<hi->xs[i]? =some x->xs[j]? =some y->r x y=false
section
variable {r:Keyed->Keyed->Bool}{xs:Array Keyed}{lo hi:Nat}
theorem SI.one (o:Ord r):SI r xs lo (lo+1):=fun i j x y h1 h2 h3 hx hy=>by obtain rfl:i=j:=.o;rw[hx]at hy;cases hy;exact o.nN _
theorem NI.one (o:Ord r):NI r xs lo (lo+1):=fun i j x y h1 h2 h3 hx hy=>by obtain rfl:i=j:=.o;rw[hx]at hy;cases hy;exact o.nN _
theorem EQ.one (o:Ord r):EQ r xs lo (lo+1):=fun i j x y h1 h2 h3 h4 hx hy=>by obtain rfl:i=j:=.o;rw[hx]at hy;cases hy;exact o.nN _
theorem SI.snoc (o:Ord r)(h:SI r xs lo hi){p q:Keyed}(hl:lo<hi)(hp:xs[hi-1]? =some p)(hq:xs[hi]? =some q)(hr:r q p=false):SI r xs lo (hi+1):=fun i j x y h1 h2 h3 hx hy=>by
 by_cases hj:j<hi
 ·exact h i j x y h1 h2 hj hx hy
 ·obtain rfl:j=hi:=.o;rw[hq]at hy;cases hy;by_cases de:i=j
  ·subst de;rw[hq]at hx;cases hx;exact o.nN _
  ·exact o.lh x p q (h i (j-1) x p h1 .o .o hx hp) hr
theorem NI.snoc (o:Ord r)(h:NI r xs lo hi){p q:Keyed}(hl:lo<hi)(hp:xs[hi-1]? =some p)(hq:xs[hi]? =some q)(hr:r p q=false):NI r xs lo (hi+1):=fun i j x y h1 h2 h3 hx hy=>by
 by_cases hj:j<hi
 ·exact h i j x y h1 h2 hj hx hy
 ·obtain rfl:j=hi:=.o;rw[hq]at hy;cases hy;by_cases de:i=j
  ·subst de;rw[hq]at hx;cases hx;exact o.nN _
  ·exact o.lh q p x hr (h i (j-1) x p h1 .o .o hx hp)
theorem EQ.snoc (o:Ord r)(h:EQ r xs lo hi){p q:Keyed}(hl:lo<hi)(hp:xs[hi-1]? =some p)(hq:xs[hi]? =some q)(hr:r p q=false)(jn:r q p=false):EQ r xs lo (hi+1):=fun i j x y h1 h2 h3 h4 hx hy=>by
 have one:∀i x,lo<=i->i<hi->xs[i]? =some x->r x q=false/\r q x=false:=fun i x h1 h2 hx=>
  ⟨o.lh q p x hr (h i (hi-1) x p h1 h2 .o .o hx hp),o.lh x p q (h (hi-1) i p x .o .o h1 h2 hp hx) jn⟩
 by_cases hj:j<hi
 ·by_cases de:i<hi
  ·exact h i j x y h1 de h3 hj hx hy
  ·obtain rfl:i=hi:=.o;rw[hq]at hx;cases hx;exact(one j y h3 hj hy).2
 ·obtain rfl:j=hi:=.o;rw[hq]at hy;cases hy;by_cases de:i<j
  ·exact(one i x h1 de hx).1
  ·obtain rfl:i=j:=.o;rw[hq]at hx;cases hx;exact o.nN _
abbrev dw (xs:Array Keyed)(i j:Nat):Array Keyed:=mirror xs i j ((j-i)/2)
theorem WS (hh:hi<=xs.size)(k:Nat):(dw xs lo hi)[k]? =if lo<=k/\k<hi then xs[lo+hi-1-k]? else xs[k]? :=getElem?_mirror_all hh k
theorem SI.dw (h:SI r xs lo hi)(hh:hi<=xs.size):NI r (dw xs lo hi) lo hi:=fun i j x y h1 h2 h3 hx hy=>by rw[WS hh,ZaG ⟨.o,.o⟩]at hx hy;exact h _ _ y x .o .o .o hy hx
theorem NI.dw (h:NI r xs lo hi)(hh:hi<=xs.size):SI r (dw xs lo hi) lo hi:=fun i j x y h1 h2 h3 hx hy=>by rw[WS hh,ZaG ⟨.o,.o⟩]at hx hy;exact h _ _ y x .o .o .o hy hx
theorem NI.Ed {m:Nat}(h:NI r xs lo hi)(e:EQ r xs m hi)(hm:lo<=m)(hh:hi<=xs.size):NI r (PyProof.Rows.eO.dw xs m hi) lo hi:=fun i j x y h1 h2 h3 hx hy=>by
 rw[WS hh]at hx hy;by_cases hj:m<=j
 ·rw[ZaG ⟨hj,h3⟩]at hy;by_cases de:m<=i
  ·rw[ZaG ⟨de,.o⟩]at hx;exact e _ _ x y .o .o .o .o hx hy
  ·rw[ZaD .o]at hx;exact h i _ x y h1 .o .o hx hy
 ·rw[ZaD .o]at hx hy;exact h i j x y h1 h2 h3 hx hy
theorem HY {m:Nat}(hh:hi<=xs.size)(hm:m<hi){p:Keyed}(hp:(dw xs m hi)[hi-1]? =some p):xs[m]? =some p:=by rw[WS hh,ZaG ⟨.o,.o⟩,show m+hi-1-(hi-1)=m by omega]at hp;exact hp
theorem Cp (hh:hi<=xs.size){k:Nat}(h:k<lo∨hi<=k):(dw xs lo hi)[k]? =xs[k]? :=by rw[WS hh,ZaD .o]
end
structure CB (a₀:Array Keyed)(κ:SortKind)(lo:Nat)(st av:SortSt):Prop where
 kind:kindOf av=κ
 pend:pendingOf av=pendingOf st
 fail:failedOf av=failedOf st
 perm:(arrOf av).Perm a₀
 pre:∀k,k<lo->(arrOf av)[k]? =(arrOf st)[k]?
theorem CB.size {a₀:Array Keyed}{κ:SortKind}{lo:Nat}{st av:SortSt}(h:CB a₀ κ lo st av):(arrOf av).size=a₀.size:=h.perm.size_eq
theorem CB.mem {a₀:Array Keyed}{κ:SortKind}{lo:Nat}{st av:SortSt}(h:CB a₀ κ lo st av){i:Nat}{x:Keyed}(hx:(arrOf av)[i]? =some x):x∈a₀.toList:=(ZdO.mp h.perm).mem_iff.mp (Ti hx)
theorem CB.rev {a₀:Array Keyed}{κ:SortKind}{lo m hi:Nat}{st av:SortSt}(h:CB a₀ κ lo st av)(hm:lo<=m)(hh:hi<=a₀.size):CB a₀ κ lo st (setArr av (dw (arrOf av) m hi)):=
 ⟨h.kind,h.pend,h.fail,(mirror_perm _ _ _ _).trans h.perm,fun k hk=>by show(dw (arrOf av) m hi)[k]? =_;rw[Cp (by rw[h.size];exact hh) (.inl .o)];exact h.pre k hk⟩
section
variable {prog:Program}{w:World}{A:Around}{E:Value->Shared->Prop}{s:Shared}{κ:SortKind}{a₀:Array Keyed}{r:Keyed->Keyed->Bool}
theorem Jj {st av:SortSt}{lo i j:Nat}{x y:Keyed}{Q:Option Bool->SortSt->Prop}(hc:uu prog w A E s κ a₀ r)(B:CB a₀ κ lo st av)(hx:(arrOf av)[i]? =some x)(hy:(arrOf av)[j]? =some y)(h:Q (some (r x y)) av):wpS (model prog w) A E s (ltAt' i j) Q av:=by rw[ltAt'_eq];exact ZbW (wpS_get (ZbW (HR hx (ZbW (HR hy (hc _ _ _ _ (B.mem hx) (B.mem hy) B.kind h))))))
theorem JC {st:SortSt}{i j:Nat}{Q:Unit->SortSt->Prop}(h:Q () (setArr st (dw (arrOf st) i j))):wpS (model prog w) A E s (reverseSlice' i j) Q st:=by rw[reverseSlice'_eq];exact wpS_modify h
theorem EQ.Aa {xs:Array Keyed}{lo hi:Nat}(o:Ord r)(h:hi=lo+1):EQ r xs lo hi:=by subst h;exact EQ.one o
theorem Uo {st:SortSt}{lo eY:Nat}{Q:Option Nat->SortSt->Prop}(o:Ord r)(hc:uu prog w A E s κ a₀ r)(B0:CB a₀ κ lo st st)(h1:1<=eY)(hz:lo+eY<=a₀.size)
  (h:∀n av,CB a₀ κ lo st av->1<=n->n<=eY->SI r (arrOf av) lo (lo+n)->Q (some n) av):wpS (model prog w) A E s (countRun' lo eY) Q st:=by
 rw[countRun'_eq]
 try dsimp -zeta only
 have z0:=B0.size;refine ZbW (wpS_mono (Zd0 (I:=fun y c av=>av=st/\c=(none,y)/\SI r (arrOf st) lo (lo+y))
  (Q:=fun c av=>av=st/\∃n,c=(none,n)/\1<=n/\n<=eY/\SI r (arrOf st) lo (lo+n)/\(n=eY∨∃p q,(arrOf st)[lo+n-1]? =some p/\(arrOf st)[lo+n]? =some q/\r q p=true)) ?_ ?_ ⟨rfl,rfl,SI.one o⟩) ?_)
 ·rintro y c av AE vS ⟨rfl,rfl,S⟩;dsimp only;obtain⟨p,hp⟩:=Yo (xs:=arrOf av) (i:=lo+y-1) .o;obtain⟨q,hq⟩:=Yo (xs:=arrOf av) (i:=lo+y) .o;refine ZbW (Jj hc B0 hq hp ?_);cases hr:r q p with
  |true=>exact Zcx ⟨rfl,y,rfl,AE,.o,S,.inr ⟨p,q,hp,hq,hr⟩⟩
  |false=>exact Zcx ⟨rfl,rfl,S.snoc (hi:=lo+y) o .o hp hq hr⟩
 ·rintro c av ⟨rfl,rfl,S⟩;have e9:max 1 eY=eY:=Zdq h1;rw[e9]at S;exact⟨rfl,eY,by rw[e9],h1,Zaq _,S,.inl rfl⟩
 rintro c av ⟨rfl,n,rfl,n1,n2,S,hn⟩;refine VH (fun AV=>Zcx (h n av B0 n1 n2 S)) (fun AV=> ?_);rcases hn with hn |⟨p,q,hp,hq,hr⟩
 ·exact absurd hn AV
 replace n2:n<eY:=Nat.lt_of_le_of_ne n2 AV;dsimp -zeta only
 extract_lets -underBinder jp
 refine GV (j:=jp) (fun stx=>CB a₀ κ lo av stx/\NI r (arrOf stx) lo (lo+(n+1))) ?_ (fun OZ hj=> ?_) (fun OZ=> ?_)
 ·rintro cG ⟨B1,N1⟩;dsimp -zeta only[jp];clear jp S hp hq hr;refine ZbW (wpS_lift (Zdu ⟨rfl,?_⟩));refine ZbW (wpS_mono (Zd0 (I:=fun y c stx=>CB a₀ κ lo av stx/\∃dr,c=(none,y,dr)/\NI r (arrOf stx) lo (lo+y)/\dr+1<=y/\EQ r (arrOf stx) (lo+y-(dr+1)) (lo+y))
   (Q:=fun c stx=>CB a₀ κ lo av stx/\∃m dr,c=(none,m,dr)/\n+1<=m/\m<=eY/\NI r (arrOf stx) lo (lo+m)/\dr+1<=m/\EQ r (arrOf stx) (lo+m-(dr+1)) (lo+m)) ?_ ?_ ⟨B1,0,rfl,N1,.o,EQ.Aa o .o⟩) ?_)
  ·rintro y c bZ AE vS ⟨B2,dr,rfl,N2,g1,e2⟩;dsimp only;have z2:=B2.size;obtain⟨p2,gw⟩:=Yo (xs:=arrOf bZ) (i:=lo+y-1) .o;obtain⟨q2,fJ⟩:=Yo (xs:=arrOf bZ) (i:=lo+y) .o;refine ZbW (Jj hc B2 fJ gw ?_);cases jn:r q2 p2 with
   |true=>
    dsimp only;rw[ZaG rfl];by_cases vX:dr>0
    ·rw[ZaG vX];refine ZbW (JC ?_);have B3:=B2.rev (m:=lo+y-(dr+1)) (hi:=lo+y) .o .o;have N3:NI r (dw (arrOf bZ) (lo+y-(dr+1)) (lo+y)) lo (lo+y):=N2.Ed e2 .o .o;obtain⟨p3,jq⟩:=Yo (xs:=dw (arrOf bZ) (lo+y-(dr+1)) (lo+y)) (i:=lo+y-1) (by rw[mirror_size];omega);have OQ:=HY .o .o jq;have ON:(dw (arrOf bZ) (lo+y-(dr+1)) (lo+y))[lo+y]? =some q2:=by rw[Cp .o (.inr (Zaq _))];exact fJ
     have h3:r p3 q2=false:=o.lh q2 p2 p3 (o.qF _ _ jn) (e2 _ _ p3 p2 (Zaq _) .o .o .o OQ gw);exact Zcx ⟨B3,0,rfl,N3.snoc (hi:=lo+y) o .o jq ON h3,.o,EQ.Aa o .o⟩
    ·rw[ZaD vX];exact Zcx ⟨B2,0,rfl,N2.snoc (hi:=lo+y) o .o gw fJ (o.qF _ _ jn),.o,EQ.Aa o .o⟩
   |false=>
    dsimp only;rw[ZaD Zaj];refine ZbW (Jj hc B2 gw fJ ?_);cases EG:r p2 q2 with
    |true=>exact Zcx ⟨B2,y,dr,rfl,.o,.o,N2,g1,e2⟩
    |false=>refine Zcx ⟨B2,dr+1,rfl,N2.snoc (hi:=lo+y) o .o gw fJ EG,.o,?_⟩;have:=e2.snoc (hi:=lo+y) o .o gw fJ EG jn;rw[show lo+(y+1)-(dr+1+1)=lo+y-(dr+1) by omega];exact this
  ·rintro c bZ ⟨B2,dr,rfl,N2,g1,e2⟩;have e9:max (n+1) eY=eY:=Zdq .o;rw[e9]at N2 g1 e2;exact⟨B2,eY,dr,by rw[e9],.o,.o,N2,g1,e2⟩
  rintro c dJ ⟨B3,m,dr,rfl,m1,m2,N3,g3,e3⟩;have z3:=B3.size
  extract_lets -underBinder r1 s1 t1 u1
  dsimp -zeta only[r1,s1,t1,u1]
  extract_lets -underBinder jp
  refine GV (j:=jp) (fun stx=>CB a₀ κ lo av stx/\NI r (arrOf stx) lo (lo+m)) ?_ (fun vX hj=> ?_) (fun vX=> ⟨B3,N3⟩)
  ·rintro mz ⟨B4,N4⟩;clear B3 N3 e3 z3;dsimp -zeta only[jp];clear jp;refine ZbW (JC ?_);have B9:=B4.rev (m:=lo) (hi:=lo+m) (Zaq _) .o;have S9:SI r (arrOf (setArr mz (dw (arrOf mz) lo (lo+m)))) lo (lo+m):=NI.dw N4 (by rw[B4.size];omega);generalize setArr mz (dw (arrOf mz) lo (lo+m))=Dn at B9 S9;have z9:=B9.size;refine ZbW (Zd0 (I:=fun y c stx=>stx=Dn/\c=(none,y)/\SI r (arrOf Dn) lo (lo+y)) ?_ ?_ ⟨rfl,rfl,S9⟩)
   ·rintro y c stx AE vS ⟨rfl,rfl,S⟩;dsimp only;obtain⟨p9,EI⟩:=Yo (xs:=arrOf stx) (i:=lo+y-1) .o;obtain⟨q9,EH⟩:=Yo (xs:=arrOf stx) (i:=lo+y) .o;refine ZbW (Jj hc B9 EH EI ?_);cases OK:r q9 p9 with
    |true=>exact Zcx (Zcx (h y stx B9 .o .o S))
    |false=>exact Zcx ⟨rfl,rfl,S.snoc (hi:=lo+y) o .o EI EH OK⟩
   ·rintro c stx ⟨rfl,rfl,S⟩;rw[Zdq .o]at S;have e9:max m eY=eY:=Zdq .o;dsimp only;rw[e9];exact Zcx (h eY stx B9 .o .o S)
  ·clear_value jp
   exact ZbW (JC (hj _ ⟨B3.rev (m:=lo+m-(dr+1)) (hi:=lo+m) .o .o,N3.Ed e3 .o .o⟩))
 ·clear_value jp
  obtain⟨f,hf⟩:=Yo (xs:=arrOf av) (i:=lo) .o;refine ZbW (Jj hc B0 hf hp ?_);refine TU (fun EF=>Zcx (h n av B0 n1 (Zev n2) S)) (fun EF=>ZbW (JC (hj _ ⟨B0.rev (m:=lo) (hi:=lo+n) (Zaq _) .o,?_⟩)));have N1:NI r (dw (arrOf av) lo (lo+n)) lo (lo+n):=S.dw .o;obtain⟨p1,nU⟩:=Yo (xs:=dw (arrOf av) lo (lo+n)) (i:=lo+n-1) (by rw[mirror_size];omega);have EJ:=HY .o .o nU;rw[hf]at EJ;cases EJ;have jo:(dw (arrOf av) lo (lo+n))[lo+n]? =some q:=by rw[Cp .o (.inr (Zaq _))];exact hq
  exact N1.snoc (hi:=lo+n) o .o nU jo (o.lh q p f (o.qF _ _ hr) EF)
 ·obtain rfl:n=1:=.o;exact⟨B0,(NI.one o).snoc (hi:=lo+1) o .o hp hq (o.qF _ _ hr)⟩
theorem R6 {x y z:Keyed}(o:Ord r)(h:r z x=true)(h2:r y x=false):r z y=true:=by
 cases e:r z y with
 |true=>rfl
 |false=>have:=o.lh x y z h2 e;rw[h]at this;cases this
theorem X4 {st:SortSt}{i j:Nat}{Q:Unit->SortSt->Prop}(h:Q () (setArr st (bubble (arrOf st) i (i-j)))):wpS (model prog w) A E s (moveDown' i j) Q st:=by rw[moveDown'_eq];exact wpS_modify h
theorem SI.put {xs:Array Keyed}{lo k l:Nat}{q:Keyed}(o:Ord r)(S:SI r xs lo (lo+k))(hq:xs[lo+k]? =some q)(hl:l<=k)(h1:∀i x,i<l->xs[lo+i]? =some x->r q x=false)(h2:∀i x,l<=i->i<k->xs[lo+i]? =some x->r q x=true):SI r (bubble xs (lo+k) (lo+k-(lo+l))) lo (lo+(k+1)):=by
 have hs:lo+k<xs.size:=(ZcX.mp hq).1;intro i j x y g1 g2 g3 hx hy;rw[getElem?_bubble hs _ .o]at hx hy;rw[show lo+k-(lo+k-(lo+l))=lo+l by omega]at hx hy;by_cases ei:i=lo+l
 ·rw[ZaG ei,hq]at hx;cases hx;by_cases ej:j=lo+l
  ·rw[ZaG ej,hq]at hy;cases hy;exact o.nN _
  ·rw[ZaD ej,ZaG .o]at hy;exact o.qF _ _ (h2 (j-1-lo) y .o .o (by rw[show lo+(j-1-lo)=j-1 by omega];exact hy))
 ·rw[ZaD ei]at hx;by_cases ej:j=lo+l
  ·rw[ZaG ej,hq]at hy;cases hy;rw[ZaD .o]at hx;exact h1 (i-lo) x .o (by rw[show lo+(i-lo)=i by omega];exact hx)
  ·rw[ZaD ej]at hy;by_cases gi:lo+l<i
   ·rw[ZaG .o]at hx hy;exact S (i-1) (j-1) x y .o .o .o hx hy
   ·rw[ZaD .o]at hx;by_cases gj:lo+l<j
    ·rw[ZaG .o]at hy;exact S i (j-1) x y .o .o .o hx hy
    ·rw[ZaD .o]at hy;exact S i j x y .o .o .o hx hy
theorem Wn {st yc:SortSt}{lo n ok:Nat}{Q:Bool->SortSt->Prop}(o:Ord r)(hc:uu prog w A E s κ a₀ r)(B0:CB a₀ κ lo yc st)(h1:1<=ok)(hn:ok<=n)(hz:lo+n<=a₀.size)(S0:SI r (arrOf st) lo (lo+ok))
  (h:∀av,CB a₀ κ lo yc av->SI r (arrOf av) lo (lo+n)->Q true av):wpS (model prog w) A E s (binarySort' lo n ok) Q st:=by
 rw[binarySort'_eq];dsimp only;rw[Nat.max_eq_left h1];refine ZbW (Zd0 (I:=fun k c av=>c=(none,())/\CB a₀ κ lo yc av/\SI r (arrOf av) lo (lo+k)) ?_ ?_ ⟨rfl,B0,S0⟩)
 ·rintro k c cG hk1 qi ⟨rfl,B1,S1⟩
  try dsimp only
  have z1:=B1.size;obtain⟨q,hq⟩:=Yo (xs:=arrOf cG) (i:=lo+k) .o;refine ZbW (wpS_mono (Zd0 (I:=fun y c av=>av=cG/\∃l u,c=(none,l,u)/\l<=u/\u<=k/\(∀i x,i<l->(arrOf cG)[lo+i]? =some x->r q x=false)/\(∀i x,u<=i->i<k->(arrOf cG)[lo+i]? =some x->r q x=true)/\u-l<=k-y)
   (Q:=fun c av=>av=cG/\∃l u,c=(none,l,u)/\l<=k/\(∀i x,i<l->(arrOf cG)[lo+i]? =some x->r q x=false)/\(∀i x,l<=i->i<k->(arrOf cG)[lo+i]? =some x->r q x=true)) ?_ ?_ ⟨rfl,0,k,rfl,.o,.o,fun i x hi=>absurd hi .o,fun i x g1 g2=>absurd g2 .o,.o⟩) ?_)
  ·rintro y c av _ hy ⟨rfl,l,u,rfl,g1,g2,g3,g4,g5⟩;dsimp only;refine Wq (fun qk=> ?_) (fun qk=> ?_)
   ·exact Zcx ⟨rfl,l,u,rfl,.o,g3,fun i x g6=>g4 i x .o⟩
   ·have hm:(l+u)/2<u:=.o;have eK:l<=(l+u)/2:=.o;generalize (l+u)/2=m at hm eK;obtain⟨p,hp⟩:=Yo (xs:=arrOf av) (i:=lo+m) .o;refine ZbW (Jj hc B1 hq hp ?_);cases hr:r q p with
    |true=>refine Zcx ⟨rfl,l,m,rfl,eK,.o,g3,fun i x g6 g7 hx=> ?_,.o⟩;exact R6 o hr (S1 (lo+m) (lo+i) p x .o .o .o hp hx)
    |false=>refine Zcx ⟨rfl,m+1,u,rfl,.o,g2,fun i x g6 hx=> ?_,g4,.o⟩;exact o.lh x p q (S1 (lo+i) (lo+m) x p .o .o .o hx hp) hr
  ·rintro c av ⟨rfl,l,u,rfl,g1,g2,g3,g4,g5⟩;rw[Zdq (ZaP _)]at g5;exact⟨rfl,l,u,rfl,.o,g3,fun i x g6=>g4 i x .o⟩
  rintro c av ⟨rfl,l,u,rfl,g1,g3,g4⟩;dsimp only;refine ZbW (X4 (Zcx ⟨rfl,⟨B1.kind,B1.pend,B1.fail,(bubble_perm _ _ _).trans B1.perm,fun i hi=> ?_⟩,S1.put o hq g1 g3 g4⟩));show(bubble (arrOf av) (lo+k) (lo+k-(lo+l)))[i]? =_;rw[getElem?_bubble .o _ .o,ZaD .o,ZaD .o];exact B1.pre i hi
 ·rintro c cG ⟨rfl,B1,S1⟩;rw[Zdq hn]at S1;exact Zcx (h cG B1 S1)
end
def seg (L:List Keyed)(s n:Nat):List Keyed:=(L.drop s).take n
def Runs (r:Keyed->Keyed->Bool)(L:List Keyed):List (Nat×Nat×Nat)->Nat->Nat->Prop
 | [],p,q=>p=q
 |x::rest,p,q=>x.1=p/\1<=x.2.1/\Pw r (seg L x.1 x.2.1)/\Runs r L rest (p+x.2.1) q
section
variable {prog:Program}{w:World}{A:Around}{E:Value->Shared->Prop}{s:Shared}{κ:SortKind}{a₀:Array Keyed}{r:Keyed->Keyed->Bool}
structure RS (a₀:Array Keyed)(κ:SortKind)(r:Keyed->Keyed->Bool)(st:SortSt)(lo:Nat):Prop where
 kind:kindOf st=κ
 perm:(arrOf st).Perm a₀
 fail:failedOf st=none
 runs:Runs r (arrOf st).toList (pendingOf st).toList 0 lo
 le:lo<=a₀.size
end
end PyProof.Rows.eO
namespace PyProof.Rows.eO
open PySem PySem.W
section
variable {prog:Program}{w:World}{A:Around}{E:Value->Shared->Prop}{s:Shared}{κ:SortKind}{r:Keyed->Keyed->Bool}
def C4 (prog:Program)(w:World)(A:Around)(E:Value->Shared->Prop)(κ:SortKind)(r:Keyed->Keyed->Bool)(a:Addr)(h:Heap)(vs:List Value):Prop:=
 ∀s6:Shared,(∀b o,b≠a->h.get? b=some o->s6.heap.get? b=some o)->(2<=vs.length->∀Q:SortKind->Shared->Prop,Q κ s6->wpAny (model prog w) A (keyKind' vs.toArray) Q E s6)/\uu prog w A E s6 κ (pairsOf vs) r
end
def aA:List Int->List Int->Bool
 | [],[]=>false
 | [],_::_=>true
 |_::_,[]=>false
 |a::l,b::m=>if a=b then aA l m else decide (a<b)
theorem YX:∀x y,aA x y=true->aA y x=false
 | [],[],h=>by cases h
 | [],_::_,_=>rfl
 |_::_,[],h=>by cases h
 |a::l,b::m,h=>by
  unfold aA at h |-;by_cases e:a=b
  ·rw[ZaG e]at h;rw[ZaG e.symm];exact YX l m h
  ·rw[ZaD e]at h;rw[ZaD (ZcL e)];have:=ZcQ h;exact Zav .o
theorem Jb:∀x y z,aA y x=false->aA z y=false->aA z x=false
 | [],[],[],_,_=>rfl
 | [],[],_::_,_,_=>rfl
 | [],_::_,[],_,h=>by cases h
 | [],_::_,_::_,_,_=>rfl
 |_::_,[],_,h,_=>by cases h
 |_::_,_::_,[],_,h=>by cases h
 |a::l,b::m,c::n,h1,h2=>by
  unfold aA at h1 h2 |-;by_cases e1:b=a
  ·rw[ZaG e1]at h1;by_cases e2:c=b
   ·rw[ZaG e2]at h2;rw[ZaG (e2.trans e1)];exact Jb l m n h1 h2
   ·rw[ZaD e2]at h2;have:=ZdC h2;rw[ZaD .o];exact Zav .o
  ·rw[ZaD e1]at h1;have q1:=ZdC h1;by_cases e2:c=b
   ·rw[ZaD .o];exact Zav .o
   ·rw[ZaD e2]at h2;have q2:=ZdC h2;rw[ZaD .o];exact Zav .o
theorem Cn:∀x y,aA x y=false->aA y x=false->x=y
 | [],[],_,_=>rfl
 | [],_::_,h,_=>by cases h
 |_::_,[],_,h=>by cases h
 |a::l,b::m,h1,h2=>by
  unfold aA at h1 h2;by_cases e:a=b
  ·rw[ZaG e]at h1;rw[ZaG e.symm]at h2;rw[e,Cn l m h1 h2]
  ·rw[ZaD e]at h1;rw[ZaD (ZcL e)]at h2;have q1:=ZdC h1;have q2:=ZdC h2;omega
theorem VP (key:Value->List Int):Ord fun x y:Keyed=>aA (key x.1) (key y.1):=⟨fun _ _=>YX _ _,fun _ _ _=>Jb _ _ _⟩
section
variable {prog:Program}{w:World}{A:Around}{s:Shared}{b:Bool}{Q:Bool->Shared->Prop}
theorem Cq {c:Bool}{x y:Int}{t u:Tok}(h:Q (decide (x<y)) s):wpAny (model prog w) A (oneLt' c (.int x t) (.int y u)) Q (fun _ _=>False) s:=by
 cases c with
 |true=>exact oneLt_int h
 |false=>exact kat_one _ _ (lt_int (Q:=PySem.W.BoolBack Q) h)
theorem Ip {fin:Bool} :∀{us vs:List Value}{xs ys:List Int}{i:Nat},IntsAre us xs->IntsAre vs ys->fin=decide (xs.length<ys.length)->Q (aA xs ys) s->KatLex prog w A b fin Q (us.zip vs) i s
 |_,_,_,_,i,.nil,.nil,hf,h=>by subst hf;exact h
 |_,_,_,_,i,.nil,.cons _ _ _,hf,h=>by subst hf;exact h
 |_,_,_,_,i,.cons _ _ _,.nil,hf,h=>by subst hf;exact h
 |_,_,_,_,i,.cons x t ix,.cons y u iy,hf,h=>by
  rw[ZdA];refine kat_cons (Zcw (A:=A) (s:=s) x t y u _ _ _ _ ?_);unfold aA at h;by_cases e:x=y
  ·rw[ZaG e]at h;rw[Zco.mpr e];exact kat_yes (Ip ix iy (by rw[hf];exact ZfA.mpr (by simp only[ZaE];omega)) h)
  ·rw[ZaD e]at h;rw[Zcc.mpr e];exact kat_no (Cq h)
end
end PyProof.Rows.eO
namespace L2
open PySem PySem.Spec PyProof.Rows PyProof.Rows.eO
def iA (H:Hp)(v:V)(k:List Int):Prop:=∃t:Addr,v=.ref t/\H t=some (.tup (k.map V.int))
def bS (h:Heap):Value->List Int
 | .ref t=>match h.get? t with
  |some o=>match o.data with
   | .seq ae _=>ae.toList.map numOf
   |_=> []
  |none=> []
 |_=> []
theorem Yc {h:Heap}{t:Addr}{o:Obj}{ae:Array Value}{n:Nat}{k:List Int}(e:h.get? t=some o)(d:o.data=.seq ae n)(i:IntsAre ae.toList k):bS h (.ref t)=k:=by
 unfold bS;dsimp only;rw[e];dsimp only;rw[d];dsimp only;clear d e;generalize ae.toList=us at i
 induction i with
 |nil=>rfl
 |cons x t _ ih=>rw[ZaQ,ih];rfl
def toV:Value->V
 | .ref t=> .ref t
 |_=> .ag
def Iz (h:Heap)(u:Value)(k:List Int):Prop:=∃(t:Addr) (o:Obj) (ae:Array Value) (n:Nat),u=.ref t/\h.get? t=some o/\o.cls=.type "tuple" /\o.data=.seq ae n/\IntsAre ae.toList k
theorem Y3 {α β:Type}{R:α->β->Prop} :∀{xs:List α}{ys:List β}{x:α},Paired R xs ys->x∈xs->∃y∈ys,R x y
 |_,_,_,.cons h r,m=>by
  rcases Zaf.mp m with rfl |m
  ·exact⟨_,Zai,h⟩
  ·obtain⟨y,hy,q⟩:=Y3 r m;exact⟨y,Zad _ hy,q⟩
theorem Jp {α β:Type}{R:α->β->Prop}{f:α->β} :∀{xs:List α}{ys:List β},Paired R xs ys->(∀x y,R x y->f x=y)->xs.map f=ys
 |_,_,.nil,_=>rfl
 |_,_,.cons h r,e=>by rw[ZaQ,e _ _ h,Jp r e]
theorem J4 {vs:List Value}{p:Keyed}(h:p∈(pairsOf vs).toList):p.1∈vs/\p.2=p.1:=by
 unfold pairsOf at h;rw[Array.toList_zip,List.toList_toArray]at h;have:∀(l:List Value),p∈l.zip l->p.1∈l/\p.2=p.1:=fun l=>by
  induction l with
  |nil=>intro h;cases h
  |cons a l ih=>
   intro h;rw[ZdA]at h;rcases Zaf.mp h with rfl |h
   ·exact⟨Zai,rfl⟩
   ·exact⟨Zad _ (ih h).1,(ih h).2⟩
 exact this vs h
abbrev I4:=Int×Int×Int×Int
def aS (q:I4):List Int:=[q.1,q.2.1,q.2.2.1,q.2.2.2]
theorem Ir {a b:I4}(h:aS a=aS b):a=b:=by obtain⟨a1,a2,a3,a4⟩:=a;obtain⟨b1,b2,b3,b4⟩:=b;simp only[aS,ZfT,and_true]at h;obtain⟨h1,h2,h3,h4⟩:=h;subst h1 h2 h3 h4;rfl
def Cy (H:Hp)(v:V)(q:I4):Prop:=∃t t':Addr,v=.ref t/\H t=some (.tup [.ref t',.int q.2.2.1,.int q.2.2.2])/\H t'=some (.tup [.int q.1,.int q.2.1])
def oI (h:Heap)(u:Value)(k:I4):Prop:=∃(t:Addr) (o:Obj) (n:Nat) (t':Addr) (o':Obj) (n':Nat) (k1 k2 k3 k4:Tok),u=.ref t/\h.get? t=some o/\o.cls=.type "tuple" /\o.data=.seq #[.ref t',.int k.2.2.1 k3,.int k.2.2.2 k4] n/\
 h.get? t'=some o'/\o'.cls=.type "tuple" /\o'.data=.seq #[.int k.1 k1,.int k.2.1 k2] n'
theorem oI.keep {h h':Heap}{u:Value}{k:I4}{a:Addr}(x:oI h u k)(kp:∀b o,b≠a->h.get? b=some o->h'.get? b=some o)(na:∀b o,h.get? b=some o->b≠a):oI h' u k:=by obtain⟨t,o,n,t',o',n',k1,k2,k3,k4,e,g,c,d,g',c',d'⟩:=x;exact⟨t,o,n,t',o',n',k1,k2,k3,k4,e,kp t o (na t o g) g,c,d,kp t' o' (na t' o' g') g',c',d'⟩
def Ar (h:Heap):Value->List Int
 | .ref t=>match h.get? t with
  |some o=>match o.data with
   | .seq ae _=>bS h (ae.toList.getD 0 .none)++(ae.toList.drop 1).map numOf
   |_=> []
  |none=> []
 |_=> []
theorem Td {h:Heap}{u:Value}{k:I4}(x:oI h u k):Ar h u=aS k:=by obtain⟨t,o,n,t',o',n',k1,k2,k3,k4,rfl,g,c,d,g',c',d'⟩:=x;have e:=Yc g' d' (k:=[k.1,k.2.1]) (.cons _ _ (.cons _ _ .nil));unfold Ar;dsimp only;rw[g];dsimp only;rw[d];dsimp only;show bS h (.ref t')++_=_;rw[e];rfl
theorem UC {h:Heap} :∀{us:List Value}{ks:List I4},Paired (oI h) us ks->∃fs,PySem.W.KatTups h us fs/\fs.length=us.length/\∀f∈fs,∃t o,f=.ref t/\h.get? t=some o/\o.cls=.type "tuple"
 |_,_,.nil=> ⟨[],.nil,rfl,fun f hf=>by cases hf⟩
 |_,_,.cons (a:=u) (b:=k) q r=>by
  obtain⟨t,o,n,t',o',n',k1,k2,k3,k4,e,g,c,d,g',c',d'⟩:=q;obtain⟨fs,h1,h2,h3⟩:=UC r;subst e;refine⟨.ref t'::fs,.cons g c d rfl h1,by rw[ZaE,ZaE,h2],fun f hf=> ?_⟩;rcases Zaf.mp hf with rfl |hf
  ·exact⟨_,_,rfl,g',c'⟩
  ·exact h3 f hf
theorem Iw (a b a' b':Int)(l m:List Int):aA (a::b::l) (a'::b'::m)=if [a,b]=[a',b'] then aA l m else HT.lexLt [a,b] [a',b']:=by
 by_cases e1:a=a'
 ·subst e1;by_cases e2:b=b'
  ·subst e2;simp[aA]
  ·simp[aA,e2,HT.lexLt]
 ·simp[aA,e1,HT.lexLt]
theorem HB {A:Around}{s:Shared}{t t':Addr}{o o':Obj}{n n':Nat}{a b a' b':Int}{k1 k2 k3 k4:Tok}(hu:A.units<cLine)(g:s.heap.get? t=some o)(c:o.cls=.type "tuple")(d:o.data=.seq #[.int a k1,.int b k2] n)
  (g':s.heap.get? t'=some o') (c':o'.cls=.type "tuple") (d':o'.data=.seq #[.int a' k3,.int b' k4] n'):SeqAt.EqAt A s (.ref t) (.ref t') (decide ([a,b]=[a',b'])):=by
 by_cases h:t=t'
 ·subst h;rw[g]at g';cases g';rw[d]at d';have e:a=a'/\b=b':=by injection d' with e1 e2;simp at e1;exact⟨e1.1.1,e1.2.1⟩
  rw[e.1,e.2];have:=SeqAt.EqAt.same (A:=A) (s:=s) (.ref t);simpa using this
 ·refine SeqAt.EqAt.of_refs h ?_;have z:=SeqAt.RcAt.tuples (A:=A) (s:=s) (l:=t) (b:=t') (items:= #[.int a k1,.int b k2]) (items2:= #[.int a' k3,.int b' k4]) (e:=fun j=>if j=0 then a==a' else b==b') ⟨o,g,c,n,d⟩ ⟨o',g',c',n',d'⟩ hu (fun j h1 h2=>by
   have Qn:j<2:=h1
   match j,Qn with
   |0,_=>exact Zcw _ _ _ _
   |1,_=>exact Zcw _ _ _ _)
  have e:((List.range (min (#[Value.int a k1,Value.int b k2]:Array Value).size (#[Value.int a' k3,Value.int b' k4]:Array Value).size)).all (fun j=>if j=0 then a==a' else b==b')&&(#[Value.int a k1,Value.int b k2]:Array Value).size==(#[Value.int a' k3,Value.int b' k4]:Array Value).size)=decide ([a,b]=[a',b']):=by show((List.range 2).all (fun j=>if j=0 then a==a' else b==b')&&2==2)=_;rw[Zdg];simp[Zcq]
  rw[e]at z;exact z
end L2
namespace PyProof.Rows.eO
open PySem
section
variable {prog:Program}{w:World}{A:Around}{E:Value->Shared->Prop}{s:Shared}{κ:SortKind}{a₀:Array Keyed}{r:Keyed->Keyed->Bool}
def CP (a₀:Array Keyed)(r:Keyed->Keyed->Bool)(st:SortSt):Prop:=
 (arrOf st).Perm a₀/\failedOf st=none/\pendingOf st= #[(0,a₀.size,0)]/\Pw r (arrOf st).toList
theorem CB.F2 {st av:SortSt}(B:CB a₀ κ 0 st av)(f0:failedOf st=none)(e0:pendingOf st= #[])(S:SI r (arrOf av) 0 (0+a₀.size)):CP a₀ r (setPending av ((pendingOf av).push (0,a₀.size,0))):=by refine⟨B.perm,B.fail.trans f0,by show(pendingOf av).push _=_;rw[B.pend,e0];rfl,?_⟩;show Pw r (arrOf av).toList;unfold Pw;rw[Ze7];intro i j hi hj Bb;have hz:=B.size;rw[Zbq]at hi hj;exact S i j _ _ (ZaP _) (Zev Bb) .o (by rw[Array.getElem_toList];exact ZcF hi) (by rw[Array.getElem_toList];exact ZcF hj)
theorem Um {st:SortSt}{Q:Unit->SortSt->Prop}(o:Ord r)(hc:uu prog w A E s κ a₀ r)(h2:2<=a₀.size)(Ql:a₀.size<64)(k0:kindOf st=κ)(p0:(arrOf st).Perm a₀)(f0:failedOf st=none)(e0:pendingOf st= #[])
  (h:∀av,(arrOf av).Perm a₀->failedOf av=none->Pw r (arrOf av).toList->Q () av):wpS (model prog w) A E s sortRuns' Q st:=by
 rw[sortRuns'_eq];refine ZbW (wpS_get ?_);dsimp only;have z0:(arrOf st).size=a₀.size:=p0.size_eq;have O0:minRun' a₀.size a₀.size 0=a₀.size:=by
  obtain⟨f,hf⟩:∃f,a₀.size=f+1:=⟨a₀.size-1,.o⟩;have:minRun' (f+1) a₀.size 0=a₀.size:=by rw[minRun'_succ,ZaG Ql];rfl
  rwa [<-hf]at this
 simp only[z0,O0];refine ZbW (wpS_mono (Zd0
  (I:=fun x c av=> (x=0/\c=(none,0)/\av=st)∨(1<=x/\c=(none,a₀.size)/\CP a₀ r av))
  (Q:=fun c av=>c=(none,a₀.size)/\CP a₀ r av) ?step ?fin (.inl ⟨rfl,rfl,rfl⟩)) ?post)
 case fin=>
  rintro c av (⟨hx,_,_⟩ |⟨_,hc,hD⟩)
  ·omega
  ·exact⟨hc,hD⟩
 case step=>
  rintro x c av _ hx (⟨rfl,rfl,rfl⟩ |⟨Od,rfl,hD⟩)
  ·dsimp only;rw[ZaD .o];simp only[ZfP,Nat.min_self,Nat.zero_add];refine ZbW (Uo o hc (st:=av) ⟨k0,rfl,rfl,p0,fun _ _=>rfl⟩ .o .o fun m bZ B2 lN eK lK=> ?_);dsimp only;by_cases aI:m<a₀.size
   ·rw[ZaG aI];refine ZbW (wpS_lift (Zdu ⟨rfl,?_⟩));refine ZbW (Wn o hc B2 lN eK .o lK fun dJ B3 OG=> ?_);simp only[Bool.not_true,Zbe,Zdd];refine ZbW (wpS_get ?_);have hb:(pendingOf dJ).back? =none:=by rw[B3.pend,e0];rfl
    rw[hb];dsimp only;exact ZbW (wpS_modify (Zcx (.inr ⟨.o,rfl,B3.F2 f0 e0 OG⟩)))
   ·rw[ZaD aI];have hm:m=a₀.size:=.o;subst hm;refine ZbW (wpS_get ?_);have hb:(pendingOf bZ).back? =none:=by rw[B2.pend,e0];rfl
    rw[hb];dsimp only;exact ZbW (wpS_modify (Zcx (.inr ⟨.o,rfl,B2.F2 f0 e0 lK⟩)))
  ·dsimp only;rw[ZaG (Zaq _)];exact Zcx ⟨rfl,hD⟩
 case post=>
  rintro c av ⟨rfl,hD⟩;dsimp only;refine ZbW (wpS_mono (Zd0 (I:=fun _ c eQ=>eQ=av/\c=(none,())) (Q:=fun c eQ=>eQ=av/\c=(none,())) ?_ (fun _ _ hh=>hh) ⟨rfl,rfl⟩) ?_)
  ·rintro x c eQ _ _ ⟨rfl,rfl⟩;refine ZbW (wpS_get ?_);rw[ZaG (by rw[hD.2.2.1];exact Zaq 1)];exact Zcx ⟨rfl,rfl⟩
  ·rintro c eQ ⟨rfl,rfl⟩;exact Zcx (h _ hD.1 hD.2.1 hD.2.2.2)
end
end PyProof.Rows.eO
namespace PyProof.Rows.eO
open PySem PySem.W
section
variable {prog:Program}{w:World}{A:Around}{E:Value->Shared->Prop}{s:Shared}{κ:SortKind}{r:Keyed->Keyed->Bool}
theorem ZaV (o:Ord r){a:Addr}{vs:List Value}{n:Nat}{P:PySem.Fin->Shared->Prop}(ho:s.heap.get? a=some (seqObj "list" vs.toArray n))(hc:C4 prog w A E κ r a s.heap vs)(hz:vs.length<64)
  (h:∀xs:Array Keyed,xs.Perm (pairsOf vs)->Pw r xs.toList->P (.done (.ret .none)) {s with heap:=sortedHeap s.heap a vs (xs.map (·.2))}):
  wpAny (model prog w) A (Builtin.«list.sort» ⟨[.ref a],[]⟩) P E s:=by
 rw[list_sort_plain];have ha:a<s.heap.objs.size:=Zal ho;have r9:vs.toArray.size<=sizeLine:=by rw[Zas,Zaz];omega
 refine eg (listItems_at ho rfl ?_);refine eg (listUpdate_at ho rfl ?_ r9);obtain⟨e1,qg⟩:∃e1,(s.heap.update a (Obj.mapSeq fun _=> #[])).get? a=some (seqObj "list" #[] e1):=⟨_,get?_update_seq ho (fun _=> #[])⟩;refine eg (seqEpoch_at qg rfl ?_);refine eg (wpAny_newTuple ?_ (by simpa using r9));refine eg (Zfq ?_);refine ZaU ?_;have v7:(((s.heap.update a (Obj.mapSeq fun _=> #[])).push (seqObj "tuple" vs.toArray 0)).push (seqObj "list" #[] 0)).get? a=some (seqObj "list" #[] e1):=by rw[Heap.get?_push_ne _ _ _ (by rw[size_push',ZfB];exact Zay (ZcO ha)),Heap.get?_push_ne _ _ _ (by rw[ZfB];exact Zay ha)];exact qg
 show wpAny (model prog w) A _ P E {s with heap:=((s.heap.update a (Obj.mapSeq fun _=> #[])).push (seqObj "tuple" vs.toArray 0)).push (seqObj "list" #[] 0)};dsimp only;have keep:∀b o,b≠a->s.heap.get? b=some o->((((s.heap.update a (Obj.mapSeq fun _=> #[])).push (seqObj "tuple" vs.toArray 0)).push (seqObj "list" #[] 0))).get? b=some o:=fun b ob hb e=>
  gc _ (gc _ (by rw[Heap.get?_update_ne _ _ _ _ hb];exact e))
 obtain⟨hk,sJ⟩:=hc {s with heap:=((s.heap.update a (Obj.mapSeq fun _=> #[])).push (seqObj "tuple" vs.toArray 0)).push (seqObj "list" #[] 0)} keep;have hsz:vs.toArray.size=vs.length:=by simp
 by_cases h2:vs.toArray.size<2
 ·rw[ZaG h2,ZaG h2];refine eg (Zao ?_);rw[StateT.run_pure];refine eg (Zao ?_);dsimp only;refine eg (seqEpoch_at v7 rfl ?_);refine eg (listUpdate_at v7 rfl ?_ (hsz2:=by rw[Array.size_map];show(pairsOf vs).size<=_;rw[Ze3,Zaz];omega));simp only[bne_self_eq_false,Zbe,Zdd];refine Zao (h (pairsOf vs) (Array.Perm.refl _) ?_);have hl:(pairsOf vs).toList.length<2:=by rw[Zbq,Ze3];omega
  match (pairsOf vs).toList,hl with
  | [],_=>exact .nil
  | [x],_=>exact Zd9 _ _
  |_::_::_,h=>exact absurd h (by simp)
 ·rw[ZaD h2,ZaD h2];refine eg (hk .o _ ?_);refine eg (ZaI (Um (κ:=κ) (r:=r) (a₀:=pairsOf vs) (st:=SortSt.mk' κ (vs.toArray.zip vs.toArray) #[] 7 none)
   (Q:=fun _ av=> (arrOf av).Perm (pairsOf vs)/\failedOf av=none/\Pw r (arrOf av).toList) o sJ (by rw[Ze3];omega) (by rw[Ze3];omega) rfl (Array.Perm.refl _) rfl rfl fun av a1 a2 a3=> ⟨a1,a2,a3⟩) ?_ fun _ _ e=>e)
  rintro⟨⟨⟩,av⟩ s' ⟨rfl,hp,hf,hs⟩;dsimp only;refine eg (seqEpoch_at v7 rfl ?_);refine eg (listUpdate_at v7 rfl ?_ (hsz2:=by refine ZaL (Nat.le_of_eq ((Array.size_map ..).trans (hp.size_eq.trans (Ze3 _)))) ?_;rw[Zaz];omega));rw[hf];simp only[bne_self_eq_false,Zbe,Zdd];exact Zao (h _ hp hs)
theorem VZ (o:Ord r){l:Addr}{vs:List Value}{Q:Value->Shared->Prop}(hl:s.heap.IsList l vs.toArray)(hc:∀h' a,(∀b ob,s.heap.get? b=some ob->h'.get? b=some ob)->(∀b ob,s.heap.get? b=some ob->b≠a)->C4 prog w A.in1.in1 (fun _ _=>False) κ r a h' vs)(hz:vs.length<64)
  (h:∀xs:Array Keyed,xs.Perm (pairsOf vs)->Pw r xs.toList->Q (.ref (s.heap.objs.size+1)) {s with heap:=sortedAll s.heap vs (xs.map (·.2))}):
  wpAny (model prog w) A (call (.builtin "sorted") [.ref l]) Q E s:=by
 have r9:vs.length<=sizeLine:=by rw[Zaz];omega
 refine Calls.call_function_entry kind_sorted plain_sorted entry_sorted (args_sorted1 _) ?_;unfold Builtin.«sorted»;refine eg (m:=checkCount "sorted" 1 1 _) (Zao ?_);refine eg (collect_list hl ?_ r9);refine eg (Zfq ?_ r9);have hsz:((s.heap.push (seqObj "list" #[] 0)).update s.heap.objs.size (Obj.mapSeq (· ++vs.toArray))).objs.size=s.heap.objs.size+1:=by rw[ZfB,size_push']
 have hoL:(((s.heap.push (seqObj "list" #[] 0)).update s.heap.objs.size (Obj.mapSeq (· ++vs.toArray))).push (seqObj "list" vs.toArray 0)).get? (s.heap.objs.size+1)=some (seqObj "list" vs.toArray 0):=by rw[<-hsz];exact Zau _ rfl
 show wpAny _ _ _ _ _ {s with heap:=((s.heap.push (seqObj "list" #[] 0)).update s.heap.objs.size (Obj.mapSeq (· ++vs.toArray))).push (seqObj "list" vs.toArray 0)};rw[hsz];have asks:=hc (((s.heap.push (seqObj "list" #[] 0)).update s.heap.objs.size (Obj.mapSeq (· ++vs.toArray))).push (seqObj "list" vs.toArray 0)) (s.heap.objs.size+1)
  (fun b ob e=>gc _ (by rw[Heap.get?_update_ne _ _ _ _ (Zay (Zal e))];exact gc _ e)) (fun b ob e=>Zay (ZcO (Zal e)))
 have RE:C4 prog w A.in1.in1 E κ r (s.heap.objs.size+1) (((s.heap.push (seqObj "list" #[] 0)).update s.heap.objs.size (Obj.mapSeq (· ++vs.toArray))).push (seqObj "list" vs.toArray 0)) vs:=fun s6 h6=>by obtain⟨q1,q2⟩:=asks s6 h6;refine⟨fun g Q hq=>ZaI (q1 g Q hq) (fun _ _ x=>x) fun _ _ x=>x.elim,fun x y st Q m1 m2 hk hq=> ?_⟩;exact ZaI (q2 x y st Q m1 m2 hk hq) (fun _ _ x=>x) fun _ _ x=>x.elim
 refine eg (ZaU (ZcI slot_list_sort ⟨_,hoL,rfl⟩ entry_list_sort (ZaV o hoL RE hz fun xs a1 a2=> ⟨_,rfl,?_⟩) (args_list_sort _)));exact Zao ⟨_,rfl,h xs a1 a2⟩
end
end PyProof.Rows.eO
namespace L2
open PySem PySem.Spec PyProof.Rows PyProof.Rows.eO
section
variable {X:Cx}
structure Cw (X:Cx)(b:Bool)(At:Hp->V->I4->Prop)(Tw:Heap->Value->I4->Prop)(kN:Heap->Value->List Int):Prop where
 of:∀{pins:List (Addr×Obj)}{σ:St}{H:Hp}{s:Shared}{v:V}{u:Value}{k:I4},Inv X pins σ H s->At H v k->RelV v u->Tw s.heap u k/\toV u=v
 key:∀{h:Heap}{u:Value}{k:I4},Tw h u k->kN h u=aS k
 keep:∀{h h':Heap}{u:Value}{k:I4}{a:Addr},Tw h u k->(∀b o,b≠a->h.get? b=some o->h'.get? b=some o)->(∀b o,h.get? b=some o->b≠a)->Tw h' u k
 kind:∀{s:Shared}{us:List Value}{ks:List I4}{Q:SortKind->Shared->Prop}{E:Value->Shared->Prop},Paired (Tw s.heap) us ks->2<=us.length->Q (tuples' b) s->wpAny (model X.prog X.w) X.A.in1.in1 (keyKind' us.toArray) Q E s
 lt:∀{s:Shared}{u u':Value}{k k':I4}{Q:Bool->Shared->Prop}{E:Value->Shared->Prop},Tw s.heap u k->Tw s.heap u' k'->Q (aA (aS k) (aS k')) s->wpAny (model X.prog X.w) X.A.in1.in1 (keyLt' (tuples' b) u u') Q E s
theorem JT {b:Bool}{At:Hp->V->I4->Prop}{Tw:Heap->Value->I4->Prop}{kN:Heap->Value->List Int}(T:Cw X b At Tw kN):fY X (.builtin "sorted") (fun xs H Q=> ∃(p:Addr) (vs:List V) (ks:List I4),xs=[.ref p]/\ao X.K H p vs/\Paired (At H) vs ks/\vs.length<64/\
  ∀(q:Addr) (bR:List V) (eZ:List I4),H q=none->eZ.Perm ks->(eZ.map aS).Pairwise (fun a b=>aA b a=false)->Paired (At H) bR eZ->Q (.ref q) (upd H q (.lst bR))):=by
 intro pins s σ H xs us Q I r h;obtain⟨p,vs,ks,rfl,hp,pr,hz,q⟩:=h;obtain⟨u,rfl,ru⟩:=ZfD r;cases ru;obtain⟨ae,rv,pl,_⟩:=I.list hp;have hl:=rv.length;have key:∀{vs:List V}{ks:List I4}{ae:List Value},Paired (At H) vs ks->Vals vs ae->Paired (fun u k=>Tw s.heap u k/\At H (toV u) k/\RelV (toV u) u) ae ks:=by
  intro vs ks ae pr
  induction pr generalizing ae with
  |nil=>intro rv;cases rv;exact .nil
  |cons hh _ ih=>
   intro rv;cases rv with
   |cons r1 r2=>obtain⟨x1,x2⟩:=T.of I hh r1;exact .cons ⟨x1,by rw[x2];exact⟨hh,r1⟩⟩ (ih r2)
 have tp:=key pr rv;have tu:Paired (Tw s.heap) ae ks:=Paired.bj tp fun _ _ h=>h.1;refine VZ (κ:=tuples' b) (r:=fun x y=>aA (kN s.heap x.1) (kN s.heap y.1)) (VP _) pl.isList (fun h' a kp na s6 h6=> ?_) .o fun xs Ew Oa=> ?_
 ·have Aq:∀{u:Value}{k:I4},Tw s.heap u k->Tw s6.heap u k:=fun x=>T.keep (a:=a) x (fun b o hb e=>h6 b o hb (kp b o e)) na;refine⟨fun h2 Q' hq=>T.kind (Paired.bj tu fun u k x=>Aq x) h2 hq,fun x y st Q' mx my hk hq=> ?_⟩;rw[lt'_eq];refine ZbW (wpS_get ?_);rw[hk];obtain⟨Nu,_⟩:=J4 mx;obtain⟨Nt,_⟩:=J4 my;obtain⟨kx,_,nx⟩:=Y3 tu Nu;obtain⟨ky,_,ny⟩:=Y3 tu Nt;dsimp only at hq;rw[T.key nx,T.key ny]at hq;exact ZbW (wpS_lift (ZeI (T.lt (Aq nx) (Aq ny) ⟨rfl,Zcx hq⟩)))
 ·have ik:∀pq∈xs.toList,pq.1∈ae/\pq.2=pq.1:=fun pq AO=>J4 ((ZdO.mp Ew).mem_iff.mp AO);have eo:(xs.map (·.2)).toList=xs.toList.map (·.1):=by rw[Array.toList_map];exact List.map_congr_left fun pq AO=> (ik pq AO).2
  have po:(xs.toList.map (·.1)).Perm ae:=by
   refine List.Perm.trans ((ZdO.mp Ew).map _) ?_;unfold pairsOf;rw[Array.toList_zip,List.toList_toArray];have:∀l:List Value,(l.zip l).map (·.1)=l:=fun l=>by
    induction l with
    |nil=>rfl
    |cons a l ih=>rw[ZdA,ZaQ,ih]
   rw[this]
  generalize aar:xs.map (·.2)=out at eo
  let kk:Value->I4:=fun u=>match kN s.heap u with
   | [a,b,c,d]=> (a,b,c,d)
   |_=> (0,0,0,0)
  have EW:∀u k,Tw s.heap u k->kk u=k:=fun u k x=>by
   show(match kN s.heap u with
    | [a,b,c,d]=> (a,b,c,d)
    |_=> (0,0,0,0))=k
   rw[T.key x];rfl
  have ek:ae.map kk=ks:=Jp tu EW;have rel:∀u∈out.toList,At H (toV u) (kk u)/\aS (kk u)=kN s.heap u/\RelV (toV u) u:=fun u hu=>by rw[eo]at hu;obtain⟨k,_,hT,hS,hR⟩:=Y3 tp (po.mem_iff.mp hu);rw[EW u k hT];exact⟨hS,(T.key hT).symm,hR⟩
  have vals:∀l:List Value,(∀u∈l,At H (toV u) (kk u)/\aS (kk u)=kN s.heap u/\RelV (toV u) u)->Vals (l.map toV) l/\Paired (At H) (l.map toV) (l.map kk)/\(l.map kk).map aS=l.map (kN s.heap):=fun l=>by
   induction l with
   |nil=>intro _;exact⟨.nil,.nil,rfl⟩
   |cons u l ih=>intro hl;obtain⟨i1,i2,i3⟩:=ih fun v hv=>hl v (Zad _ hv);obtain⟨a1,a2,a3⟩:=hl u Zai;exact⟨.cons a3 i1,.cons a1 i2,by rw[ZaQ,ZaQ,ZaQ,i3,a2]⟩
  obtain⟨v1,v2,v3⟩:=vals out.toList rel;obtain⟨e,he⟩:=sortedAll_at s.heap ae out;have lo:out.toList.length=ae.length:=by rw[eo];exact po.length_eq
  have hlen:(out.toList.map toV).length<=sizeLine:=by rw[Zae,lo,Zaz];omega
  refine⟨.ref (s.heap.objs.size+1),_,I.laid (t':=s.toks) (a:=s.heap.objs.size+1) (o:=.lst (out.toList.map toV)) (fun b o=>sortedAll_old) (ZcJ _) ⟨hlen,out.toList,e,v1,by simpa using he⟩,rfl,q _ _ (out.toList.map kk) (I.ar.fresh (ZcJ _)) ?_ ?_ v2⟩
  ·rw[<-ek,eo];exact po.map _
  ·rw[v3,eo,Zdn,ZcD];exact Oa
theorem TR (hu:X.A.units+2<cLine):Cw X false Cy oI Ar where
 of:=fun {pins σ H s v u k} I hh r1=>by
  obtain⟨t,t',rfl,ht,eA⟩:=hh;cases r1;obtain⟨i1,ri,⟨o,go,oc,n,od⟩,_⟩:=I.tuple (aq.of ht);obtain⟨i2,zW,⟨o',go',Ad,n',Ac⟩,_⟩:=I.tuple (aq.of eA);refine⟨?_,rfl⟩;cases ri with
  |cons a1 a2=>
   cases a2 with
   |cons a3 a4=>
    cases a4 with
    |cons a5 a6=>
     cases a6;cases zW with
     |cons b1 b2=>
      cases b2 with
      |cons b3 b4=>cases b4;cases a1;obtain⟨k3,rfl⟩:=a3;obtain⟨k4,rfl⟩:=a5;obtain⟨k1,rfl⟩:=b1;obtain⟨k2,rfl⟩:=b3;exact⟨t,o,n,t',o',n',k1,k2,k3,k4,rfl,go,oc,od,go',Ad,Ac⟩
 key:=Td
 keep:=oI.keep
 kind:=fun {s us ks Q E} xQ h2 hq=>by obtain⟨fs,kt,kl,kf⟩:=UC xQ;refine PySem.W.kat_kind (T:=.type "tuple") kt .o (fun v hv=> ?_) (by rfl) hq;obtain⟨t,o,rfl,g,c⟩:=kf v hv;rw[<-c];exact(PySem.W.Looks.ld g).andThen .now
 lt:=fun {s u u' kx ky Q E} nx ny hq=>by
  obtain⟨tx,ox,n1,xK,MR,Aj,c1,c2,c3,c4,rfl,gx,cx,dx,sZ,tS,tM⟩:=nx;obtain⟨ty,oy,n2,xJ,MQ,Ai,d1,d2,d3,d4,rfl,gy,cy,dy,sY,tP,tL⟩:=ny;refine PySem.W.kat_lt gx dx gy dy ?_;show PySem.W.KatLex _ _ _ false (decide (3<3)) _ ((Value.ref xK,Value.ref xJ)::([Value.int kx.2.2.1 c3,Value.int kx.2.2.2 c4].zip [Value.int ky.2.2.1 d3,Value.int ky.2.2.2 d4])) 0 _;refine ZeC (HB (A:=X.A.in1.in1) hu sZ tS tM sY tP tL _ _ _ _ ?_);have A7:aA (aS kx) (aS ky)=if [kx.1,kx.2.1]=[ky.1,ky.2.1] then aA [kx.2.2.1,kx.2.2.2] [ky.2.2.1,ky.2.2.2] else HT.lexLt [kx.1,kx.2.1] [ky.1,ky.2.1]:=Iw ..
  rw[A7]at hq;by_cases e:[kx.1,kx.2.1]=[ky.1,ky.2.1]
  ·rw[ZaG e]at hq;rw[ZaA e];exact ZeS (Ip (xs:=[kx.2.2.1,kx.2.2.2]) (ys:=[ky.2.2.1,ky.2.2.2]) (.cons _ _ (.cons _ _ .nil)) (.cons _ _ (.cons _ _ .nil)) rfl hq)
  ·rw[ZaD e]at hq;rw[Zav e];exact Ze8 (PySem.W.kat_one _ _ (HT.vH ⟨_,sZ,tS,Aj,tM⟩ ⟨_,sY,tP,Ai,tL⟩ (ns:=[kx.1,kx.2.1]) (ms:=[ky.1,ky.2.1]) (.cons _ _ (.cons _ _ .nil)) (.cons _ _ (.cons _ _ .nil)) hu hq))
theorem Uu (hu:X.A.units+2<cLine):fY X (.builtin "sorted") (fun xs H Q=> ∃(p:Addr) (vs:List V) (ks:List I4),xs=[.ref p]/\ao X.K H p vs/\Paired (Cy H) vs ks/\vs.length<64/\
  ∀(q:Addr) (bR:List V) (eZ:List I4),H q=none->eZ.Perm ks->(eZ.map aS).Pairwise (fun a b=>aA b a=false)->Paired (Cy H) bR eZ->Q (.ref q) (upd H q (.lst bR))):=JT (TR hu)
end
def kF (H:Hp)(v:V)(q:I4):Prop:=∃t t':Addr,v=.ref t/\H t=some (.tup [.int q.1,.int q.2.1,.ref t'])/\H t'=some (.tup [.int q.2.2.1,.int q.2.2.2])
def Iy (h:Heap)(u:Value)(k:I4):Prop:=∃(t:Addr) (o:Obj) (n:Nat) (t':Addr) (o':Obj) (n':Nat) (k1 k2 k3 k4:Tok),u=.ref t/\h.get? t=some o/\o.cls=.type "tuple" /\o.data=.seq #[.int k.1 k1,.int k.2.1 k2,.ref t'] n/\
 h.get? t'=some o'/\o'.cls=.type "tuple" /\o'.data=.seq #[.int k.2.2.1 k3,.int k.2.2.2 k4] n'
def Em (h:Heap):Value->List Int
 | .ref t=>match h.get? t with
  |some o=>match o.data with
   | .seq ae _=> (ae.toList.take 2).map numOf++bS h (ae.toList.getD 2 .none)
   |_=> []
  |none=> []
 |_=> []
theorem UD {h:Heap} :∀{us:List Value}{ks:List I4},Paired (Iy h) us ks->∃fs,PySem.W.KatTups h us fs/\fs.length=us.length/\∀f∈fs,∃n t,f=.int n t
 |_,_,.nil=> ⟨[],.nil,rfl,fun f hf=>by cases hf⟩
 |_,_,.cons (a:=u) (b:=k) q r=>by
  obtain⟨t,o,n,t',o',n',k1,k2,k3,k4,e,g,c,d,g',c',d'⟩:=q;obtain⟨fs,h1,h2,h3⟩:=UD r;subst e;refine⟨.int k.1 k1::fs,.cons g c d rfl h1,by rw[ZaE,ZaE,h2],fun f hf=> ?_⟩;rcases Zaf.mp hf with rfl |hf
  ·exact⟨_,_,rfl⟩
  ·exact h3 f hf
section
variable {X:Cx}
theorem TQ (hu:X.A.units+2<cLine):Cw X true kF Iy Em where
 of:=fun {pins σ H s v u k} I hh r1=>by
  obtain⟨t,t',rfl,ht,eA⟩:=hh;cases r1;obtain⟨i1,ri,⟨o,go,oc,n,od⟩,_⟩:=I.tuple (aq.of ht);obtain⟨i2,zW,⟨o',go',Ad,n',Ac⟩,_⟩:=I.tuple (aq.of eA);refine⟨?_,rfl⟩;cases ri with
  |cons a1 a2=>
   cases a2 with
   |cons a3 a4=>
    cases a4 with
    |cons a5 a6=>
     cases a6;cases zW with
     |cons b1 b2=>
      cases b2 with
      |cons b3 b4=>cases b4;cases a5;obtain⟨k1,rfl⟩:=a1;obtain⟨k2,rfl⟩:=a3;obtain⟨k3,rfl⟩:=b1;obtain⟨k4,rfl⟩:=b3;exact⟨t,o,n,t',o',n',k1,k2,k3,k4,rfl,go,oc,od,go',Ad,Ac⟩
 key:=fun {h u k} x=>by obtain⟨t,o,n,t',o',n',k1,k2,k3,k4,rfl,g,c,d,g',c',d'⟩:=x;have e:=Yc g' d' (k:=[k.2.2.1,k.2.2.2]) (.cons _ _ (.cons _ _ .nil));unfold Em;dsimp only;rw[g];dsimp only;rw[d];dsimp only;show _++bS h (.ref t')=_;rw[e];rfl
 keep:=fun x kp na=>by obtain⟨t,o,n,t',o',n',k1,k2,k3,k4,e,g,c,d,g',c',d'⟩:=x;exact⟨t,o,n,t',o',n',k1,k2,k3,k4,e,kp t o (na t o g) g,c,d,kp t' o' (na t' o' g') g',c',d'⟩
 kind:=fun {s us ks Q E} xQ h2 hq=>by obtain⟨fs,kt,kl,kf⟩:=UD xQ;refine PySem.W.kat_kind (T:=.type "int") kt .o (fun v hv=> ?_) (by rfl) hq;obtain⟨n,t,rfl⟩:=kf v hv;exact PySem.W.Looks.of_pure rfl
 lt:=fun {s u u' kx ky Q E} nx ny hq=>by
  obtain⟨tx,ox,n1,xK,MR,Aj,c1,c2,c3,c4,rfl,gx,cx,dx,sZ,tS,tM⟩:=nx;obtain⟨ty,oy,n2,xJ,MQ,Ai,d1,d2,d3,d4,rfl,gy,cy,dy,sY,tP,tL⟩:=ny;refine PySem.W.kat_lt gx dx gy dy ?_;show PySem.W.KatLex _ _ _ true (decide (3<3)) _ [(Value.int kx.1 c1,Value.int ky.1 d1),(Value.int kx.2.1 c2,Value.int ky.2.1 d2),(Value.ref xK,Value.ref xJ)] 0 _;refine ZeC (Zcw kx.1 c1 ky.1 d1 _ _ _ _ ?_);have e1:aA (aS kx) (aS ky)=if kx.1=ky.1 then aA [kx.2.1,kx.2.2.1,kx.2.2.2] [ky.2.1,ky.2.2.1,ky.2.2.2] else decide (kx.1<ky.1):=rfl
  rw[e1]at hq;by_cases h1:kx.1=ky.1
  ·rw[ZaG h1]at hq;rw[Zco.mpr h1];refine ZeS (ZeC (Zcw kx.2.1 c2 ky.2.1 d2 _ _ _ _ ?_));have e2:aA [kx.2.1,kx.2.2.1,kx.2.2.2] [ky.2.1,ky.2.2.1,ky.2.2.2]=if kx.2.1=ky.2.1 then aA [kx.2.2.1,kx.2.2.2] [ky.2.2.1,ky.2.2.2] else decide (kx.2.1<ky.2.1):=rfl
   rw[e2]at hq;by_cases h2:kx.2.1=ky.2.1
   ·rw[ZaG h2]at hq;rw[Zco.mpr h2];refine ZeS (ZeC (HB (A:=X.A.in1.in1) hu sZ tS tM sY tP tL _ _ _ _ ?_));rw[Iw]at hq;by_cases e:[kx.2.2.1,kx.2.2.2]=[ky.2.2.1,ky.2.2.2]
    ·rw[ZaG e]at hq;rw[ZaA e];exact ZeS (PySem.W.kat_nil hq)
    ·rw[ZaD e]at hq;rw[Zav e];exact Ze8 (PySem.W.kat_one _ _ (HT.vH ⟨_,sZ,tS,Aj,tM⟩ ⟨_,sY,tP,Ai,tL⟩ (ns:=[kx.2.2.1,kx.2.2.2]) (ms:=[ky.2.2.1,ky.2.2.2]) (.cons _ _ (.cons _ _ .nil)) (.cons _ _ (.cons _ _ .nil)) hu hq))
   ·rw[ZaD h2]at hq;rw[Zcc.mpr h2];exact Ze8 (Cq hq)
  ·rw[ZaD h1]at hq;rw[Zcc.mpr h1];exact Ze8 (Cq hq)
end
end L2
namespace PyProof.Rows.eO
open PySem
def iR (lt:Value->Value->Bool):Value->List Value->Value
 |b,[]=>b
 |b,v::r=>iR lt (if lt v b=true then v else b) r
section
variable {prog:Program}{w:World}{A:Around}{R:Result->Shared->Prop}{lt:Value->Value->Bool}{vs:List Value}{h0:Heap}{kw:List (Str×Value)}
def Kp (h0 h:Heap):Prop:=∀b o,h0.get? b=some o->h.get? b=some o
theorem Xw (hh:A.in1.handled=none){I l S:Addr}(wb:l≠I)(oi:S≠I)(wz:S≠l)(zI:h0.get? I=none)(zS:h0.get? S=none)
  (Bj:∀(s':Shared) u v (Q:Value->Shared->Prop) (E:Value->Shared->Prop),Kp h0 s'.heap->u∈vs->v∈vs->Q (.bool (lt u v)) s'->wpAny (model prog w) A.in1 (richCompare .Lt u v) Q E s'):
  ∀(k j:Nat) (s:Shared) (vb:Value) (c:Nat),vs.length-j=k->j<=vs.length->s.heap.IsListIter I l j->s.heap.IsList l vs.toArray->vb∈vs->Kp h0 s.heap->
  s.heap.get? S=some {cls:=.type "list",dict:=none,data:=.seq #[vb,vb] c,slots:= #[]}->
  (∀h' tk,Kp h0 h'->R (.ok (.ret (iR lt vb (vs.drop j)))) {s with heap:=h',toks:=tk})->
  codeAny (model prog w) A (.builtin "min.loop" ⟨[.ref I,.none,.ref S],kw⟩) R s:=by
 have sr:(toString "min" ++toString ".loop" :String)= "min.loop" :=.d;have W:=Walks.list (prog:=prog) (w:=w) (A:=A.in1) hh I l wb vs.toArray;have hsz:vs.toArray.size=vs.length:=Zas ..;have ne:∀b o,h0.get? b=some o->b∉[I]/\b≠S:=fun b o e=> ⟨fun m=> (by rw[Zar.mp m,zI]at e;cases e),fun m=> (by rw[m,zS]at e;cases e)⟩;intro k
 induction k with
 |zero=>intro j s vb c hk hj hit A4 hb A6 hS hR;have Ba:j=vs.toArray.size:=.o;refine ZdF F.entry_min_loop ?_;rw[ZdP ZeD _];show wpAny _ A.in1 (seqItems? (.ref S) >>=_) _ _ s;refine eg (Zdt hS rfl ?_);show wpAny _ A.in1 (tryCatch (pyNext (.ref I)) _ >>=_) _ _ s;refine eg (Zes (W.done s _ _ (Ba▸⟨hit,A4⟩) fun h' tk cj=> ?_));have iQ:=cj S _ (by simpa using oi) hS;show wpAny _ A.in1 (updateSeq S (fun _=> #[]) >>=_) _ _ _;refine eg ?_;refine ZfU iQ rfl (eg (Zgd (Zao ?_)));have e:vs.drop j=[]:=List.drop_eq_nil_of_le .o;rw[e]at hR;exact hR _ tk fun b o q=> (Za1 _ _ (ZcL (ne b o q).2)).trans (cj b o (ne b o q).1 (A6 b o q))
 |succ k ih=>
  intro j s vb c hk hj hit A4 hb A6 hS hR;have aI:j<vs.length:=.o;refine ZdF F.entry_min_loop ?_;rw[ZdP ZeD _];show wpAny _ A.in1 (seqItems? (.ref S) >>=_) _ _ s;refine eg (Zdt hS rfl ?_);show wpAny _ A.in1 (tryCatch (pyNext (.ref I)) _ >>=_) _ _ s;refine eg (Zes (W.item j s _ _ .o ⟨hit,A4⟩ fun v h' tk hP se cj=> ?_));have hv:vs[j]? =some v:=by simpa using hP
  have Ey:v∈vs:=ZaC hv;have iQ:=cj S _ (by simpa using oi) hS;have rQ:Kp h0 h':=fun b o q=>cj b o (ne b o q).1 (A6 b o q);have ed:vs.drop j=v::vs.drop (j+1):=by have e2:vs[j]=v:=(Zaa.mp hv).2;rw[Zb8 aI,e2]
  rw[ed]at hR;show wpAny _ A.in1 (tryCatch (holding [v,v] (richCompare .Lt v vb >>=_)) _ >>=_) _ _ _;refine eg (Zes (ZaU (eg (Bj _ v vb _ _ rQ Ey hb ?_))));refine eg (ZaU (Zcg ?_));refine eg (Zgd (Zao ?_));cases dP:lt v vb with
  |true=>
   simp only[Zem];refine eg ?_;refine ZfU iQ rfl (eg (Zgd ?_));rw[sr];have fr:=W.frame (j+1) _ (h'.update S (Obj.mapSeq fun _=> #[v,v])) se fun b sO o e=> (Za1 _ _ (fun h:S=b=>by
    simp only[Zaf,ZcK,ZdD]at sO;rcases sO with q |q
    ·exact oi (h.trans q)
    ·exact wz (h.trans q))).trans e
   refine Zao ⟨Zfr ZeD _,ih (j+1) _ v _ .o aI fr.1 fr.2 Ey (fun b o q=> (Za1 _ _ (ZcL (ne b o q).2)).trans (rQ b o q)) (Zcb _ iQ rfl) fun ip qT gW=> ?_⟩;have z:=hR ip qT gW;unfold iR at z;rw[ZaG dP]at z;exact z
  |false=>simp only[Zbe,Zdd];refine eg (Zgd ?_);rw[sr];refine Zao ⟨Zfr ZeD _,ih (j+1) _ vb c .o aI se.1 se.2 hb rQ iQ fun ip qT gW=> ?_⟩;have z:=hR ip qT gW;unfold iR at z;rw[ZaD (by rw[dP];exact Zaj)]at z;exact z
theorem Wc (a v:Value):argsOk "min" ⟨[a],[(Str.ofString "default",v)]⟩:=by unfold argsOk;kernel_rfl
theorem U0 {E:Value->Shared->Prop}{s:Shared}{Q:Value->Shared->Prop}{l:Addr}(hh:A.in1.handled=none)(AZ:s.heap.IsList l vs.toArray)
  (Bj:∀(s':Shared) u v (Q:Value->Shared->Prop) (E:Value->Shared->Prop),Kp s.heap s'.heap->u∈vs->v∈vs->Q (.bool (lt u v)) s'->wpAny (model prog w) A.in1 (richCompare .Lt u v) Q E s')
  (h1:∀h' tk,vs=[]->Kp s.heap h'->Q .none {s with heap:=h',toks:=tk}) (h2:∀v r h' tk,vs=v::r->Kp s.heap h'->Q (iR lt v r) {s with heap:=h',toks:=tk}):
  wpAny (model prog w) A (call (.builtin "min") [.ref l] [(Str.ofString "default",.none)]) Q E s:=by
 have sr:(toString "min" ++toString ".loop" :String)= "min.loop" :=.d;obtain⟨ol,lL,_⟩:=id AZ;have ER:l<s.heap.objs.size:=Zal lL;refine kmk_tree PySem.F.kind_min PySem.F.plain_min PySem.F.entry_min (Wc _ _) ?_;show wpAny _ A.in1 (Builtin.Builtins.bindParams "min" ["key", "default"] 0 ⟨[],[(Str.ofString "default",.none)]⟩ >>=_) _ _ s;refine eg (Zf8 (show Builtin.Builtins.bindParams "min" ["key", "default"] 0 ⟨[],[(Str.ofString "default",.none)]⟩=pure [none,some .none] from rfl) ?_);refine eg (Zao ?_);refine eg (Zde AZ ?_);refine eg (Zfq ?_ (ZaP _));rw[sr];have hS:(s.heap.push {cls:=.type "list_iterator",data:=.fields #[.ref l,.int 0 0]}).objs.size=s.heap.objs.size+1:=size_push' ..;have wb:l≠s.heap.objs.size:=Zay ER;have oi:(s.heap.push {cls:=.type "list_iterator",data:=.fields #[.ref l,.int 0 0]}).objs.size≠s.heap.objs.size:=by rw[hS];exact ZeY (ZcZ _)
 have wz:(s.heap.push {cls:=.type "list_iterator",data:=.fields #[.ref l,.int 0 0]}).objs.size≠l:=by rw[hS];exact ZeY (ZcO ER)
 have zI:s.heap.get? s.heap.objs.size=none:=ZeF (Zaq _);have zS:s.heap.get? (s.heap.push {cls:=.type "list_iterator",data:=.fields #[.ref l,.int 0 0]}).objs.size=none:=ZeF (by rw[hS];exact ZcJ _);refine Zao ⟨Zfr Zei _,?_⟩;have Ap:Kp s.heap ((s.heap.push {cls:=.type "list_iterator",data:=.fields #[.ref l,.int 0 0]}).push (seqObj "list" #[] 0)):=fun b o e=>gc _ (gc _ e);have gI:((s.heap.push {cls:=.type "list_iterator",data:=.fields #[.ref l,.int 0 0]}).push (seqObj "list" #[] 0)).get? s.heap.objs.size=some {cls:=.type "list_iterator",data:=.fields #[.ref l,.int 0 0]} :=
  gc _ (Zau _ rfl)
 have gS:((s.heap.push {cls:=.type "list_iterator",data:=.fields #[.ref l,.int 0 0]}).push (seqObj "list" #[] 0)).get? (s.heap.push {cls:=.type "list_iterator",data:=.fields #[.ref l,.int 0 0]}).objs.size=some (seqObj "list" #[] 0):=Zau _ rfl;have lH:((s.heap.push {cls:=.type "list_iterator",data:=.fields #[.ref l,.int 0 0]}).push (seqObj "list" #[] 0)).IsList l vs.toArray:=AZ.at fun o e=>Ap _ _ e;have W:=Walks.list (prog:=prog) (w:=w) (A:=A.in1) hh s.heap.objs.size l wb vs.toArray;have hsz:vs.toArray.size=vs.length:=Zas ..;have ne:∀b o,s.heap.get? b=some o->b∉[s.heap.objs.size]/\b≠(s.heap.push {cls:=.type "list_iterator",data:=.fields #[.ref l,.int 0 0]}).objs.size:=fun b o e=> ⟨fun m=> (by rw[Zar.mp m,zI]at e;cases e),fun m=> (by rw[m,zS]at e;cases e)⟩;refine ZdF PySem.F.entry_min_loop ?_;rw[ZdP Zei _];show wpAny _ A.in1 (seqItems? (.ref _) >>=_) _ _ _;refine eg (Zdt gS rfl ?_);show wpAny _ A.in1 (tryCatch (pyNext (.ref s.heap.objs.size)) _ >>=_) _ _ _;cases lF:vs with
 |nil=>refine eg (Zes (W.done _ _ _ ⟨⟨_,gI,rfl,by rw[hsz,lF];rfl⟩,lH⟩ fun h' tk cj=> ?_));refine eg (Zdu ?_);exact Zao (h1 h' tk lF fun b o q=>cj b o (ne b o q).1 (Ap b o q))
 |cons v0 r0=>
  refine eg (Zes (W.item 0 _ _ _ (by rw[hsz,lF];exact Nat.succ_pos _) ⟨⟨_,gI,rfl,rfl⟩,lH⟩ fun v h' C8 hP se cj=> ?_));have hv:v0=v:=by rw[lF]at hP;simpa using hP
  subst hv;have FC:=cj _ _ (by simpa using oi) gS;have rQ:Kp s.heap h':=fun b o q=>cj b o (ne b o q).1 (Ap b o q);show wpAny _ A.in1 (updateSeq (s.heap.push {cls:=.type "list_iterator",data:=.fields #[.ref l,.int 0 0]}).objs.size (fun _=> #[v0,v0]) >>=_) _ _ _;refine eg ?_;refine ZfU FC rfl ?_;rw[sr];have fr:=W.frame (0+1) _ (h'.update (s.heap.push {cls:=.type "list_iterator",data:=.fields #[.ref l,.int 0 0]}).objs.size (Obj.mapSeq fun _=> #[v0,v0])) se fun b sO o e=> (Za1 _ _ (fun h=>by
    simp only[Zaf,ZcK,ZdD]at sO;rcases sO with q |q
    ·exact oi (h.trans q)
    ·exact wz (h.trans q))).trans e
  refine Zao ⟨Zfr Zei _,Xw (lt:=lt) (vs:=vs) (h0:=s.heap) hh wb oi wz zI zS Bj _ 1 _ v0 _ rfl (by rw[lF];exact Zc6 (ZaP _)) fr.1 fr.2 (by rw[lF];exact Zai) (fun b o q=> (Za1 _ _ (ZcL (ne b o q).2)).trans (rQ b o q)) (Zcb _ FC rfl) fun ip qT gW=> ?_⟩;have z:=h2 v0 r0 ip qT lF gW;rw[lF];exact z
end
theorem Jd {lt:Value->Value->Bool} :∀{r:List Value}{b:Value},iR lt b r∈b::r
 | [],b=>Zai
 |v::r,b=>by
  unfold iR;rcases Zaf.mp (Jd (lt:=lt) (r:=r) (b:=if lt v b=true then v else b)) with h |h
  ·rw[h];by_cases e:lt v b=true
   ·rw[ZaG e];exact Zad _ Zai
   ·rw[ZaD e];exact Zai
  ·exact Zad _ (Zad _ h)
theorem JA (key:Value->List Int):∀{r:List Value}{b:Value},∀v∈b::r,aA (key v) (key (iR (fun a b=>aA (key a) (key b)) b r))=false
 | [],b,v,hv=>by
  rw[Zar.mp hv];cases h:aA (key b) (key (iR (fun a b=>aA (key a) (key b)) b [])) with
  |false=>rfl
  |true=>have:=YX _ _ h;exact absurd (h.symm.trans this) .d
 |w::r,b,v,hv=>by
  have ih:=fun v hv=>JA key (r:=r) (b:=if aA (key w) (key b)=true then w else b) v hv;show aA (key v) (key (iR (fun a b=>aA (key a) (key b)) (if aA (key w) (key b)=true then w else b) r))=false;have hd:=ih _ Zai;by_cases e:aA (key w) (key b)=true
  ·rw[ZaG e]at hd ih |-;rcases Zaf.mp hv with rfl |hv
   ·exact Jb _ _ _ hd (YX _ _ e)
   ·exact ih v hv
  ·rw[ZaD e]at hd ih |-;rcases Zaf.mp hv with rfl |hv
   ·exact hd
   ·rcases Zaf.mp hv with rfl |hv
    ·exact Jb _ _ _ hd (by simpa using e)
    ·exact ih v (Zad _ hv)
end PyProof.Rows.eO
namespace L2
open PySem PySem.Spec PyProof.Rows PyProof.Rows.eO
theorem Jy:∀a b:List Int,HT.lexLt a b=aA a b
 | [],[]=>rfl
 | [],_::_=>rfl
 |_::_,[]=>rfl
 |x::a,y::b=>by unfold aA;rw[HT.Ek,Jy a b]
section
variable {X:Cx}
def Dh (K:ZgE)(te:TE):TE:=fun σ H Q=>te σ H fun v H1=> ∃(a:Addr) (vs:List V) (ks:List (List Int)),v=.ref a/\ao K H1 a vs/\Paired (iA H1) vs ks/\(vs=[]->Q .ag H1)/\
 ∀v k,v∈vs->k∈ks->iA H1 v k->(∀k'∈ks,aA k' k=false)->Q v H1
theorem VS {x:Str}{te:TE}{p px kp ji pos:Pos}(hc:X.A.handled=none)(hu:X.A.units+1<cLine)(hg:Gl X "min")(hm:X.mg "min" =none)(he:PE X (.Name x px) te)
  (jy:(backToKw pos (keywordEach [⟨some "default",.Constant .none 0 kp,ji⟩] X.env)).filterMap (·.1)=[Str.ofString "default"]:=by rfl):
  PE X (.Call (.Name "min" p) [.Name x px] [⟨some "default",.Constant .none 0 kp,ji⟩] pos) (Dh X.K te):=by
 intro pins s σ H Q I h;refine ZbH (YQ I hg hm PyProof.Rows.Boot.«min» ?_ .d .d);have pa:PA X [.Name x px] (cq te cZ):=Za he Zb;have pk:PK X [⟨some "default",.Constant .none 0 kp,ji⟩] (cq (tC .ag) cZ):=Hu Yb G3;refine Zd1 (au (pa pos pins s σ H (fun us H1=>match us with
  | [v]=> ∃(a:Addr) (vs:List V) (ks:List (List Int)),v=.ref a/\ao X.K H1 a vs/\Paired (iA H1) vs ks/\(vs=[]->Q .ag H1)/\∀v k,v∈vs->k∈ks->iA H1 v k->(∀k'∈ks,aA k' k=false)->Q v H1
  |_=>False) I h) fun us s1 ⟨uy,H1,I1,r1,q1⟩=> ?_)
 match uy,q1 with
 | [v],q1=>
  obtain⟨a,vs,ks,rfl,hq,pr,q1,q2⟩:=q1;refine au (pk pos pins s1 σ H1 (fun zs H2=>zs=[.ag]/\H2=H1) I1 ⟨rfl,rfl⟩) fun ws s2 ⟨zs,H2,I2,rz,e1,e2⟩=> ?_;subst e1 e2;obtain⟨u,rfl,ru⟩:=ZfD r1;obtain⟨z,rfl,zU⟩:=ZfD rz;cases ru;have ez:z=.none:=zU;subst ez;rw[jy];show wpAny _ _ (call (.builtin "min") [.ref a] [(Str.ofString "default",.none)]) _ _ _;obtain⟨ae,rv,pl,_⟩:=I2.list hq;have key:∀{vs:List V}{ks:List (List Int)}{ae:List Value},Paired (iA H2) vs ks->Vals vs ae->∀u∈ae,∃v∈vs,∃k∈ks,RelV v u/\iA H2 v k/\Iz s2.heap u k:=by
   intro vs ks ae pr
   induction pr generalizing ae with
   |nil=>intro rv;cases rv;intro u hu;cases hu
   |cons hh _ ih=>
    intro rv;cases rv with
    |cons r1 r2=>
     intro u hu;rcases Zaf.mp hu with rfl |hu
     ·obtain⟨t,e,ht⟩:=id hh;obtain⟨items,ri,⟨o,go,oc,n,od⟩,_⟩:=I2.tuple (aq.of ht);refine⟨_,Zai,_,Zai,r1,hh,?_⟩;subst e;cases r1;exact⟨t,o,_,n,rfl,go,oc,od,by simpa using YG ri⟩
     ·obtain⟨v,hv,k,hk,w⟩:=ih r2 u hu;exact⟨v,Zad _ hv,k,Zad _ hk,w⟩
  have Au:∀{vs:List V}{ks:List (List Int)}{ae:List Value},Paired (iA H2) vs ks->Vals vs ae->∀k∈ks,∃u∈ae,bS s2.heap u=k:=by
   intro vs ks ae pr
   induction pr generalizing ae with
   |nil=>intro rv k hk;cases hk
   |cons hh _ ih=>
    intro rv;cases rv with
    |cons r1 r2=>
     intro k hk;rcases Zaf.mp hk with rfl |hk
     ·obtain⟨t,e,ht⟩:=id hh;obtain⟨items,ri,⟨o,go,oc,n,od⟩,_⟩:=I2.tuple (aq.of ht);refine⟨_,Zai,?_⟩;subst e;cases r1;exact Yc go od (by simpa using YG ri)
     ·obtain⟨u,hu,e⟩:=ih r2 k hk;exact⟨u,Zad _ hu,e⟩
  refine U0 (lt:=fun u v=>aA (bS s2.heap u) (bS s2.heap v)) hc pl.isList (fun s' u v Q' E' kp gU AH bU=> ?_) (fun h' tk e kp=> ?_) (fun v0 r h' tk e kp=> ?_)
  ·obtain⟨_,_,ku,_,_,_,tu,ou,iu,nu,rfl,gu,cu,du,ju⟩:=key pr rv u gU;obtain⟨_,_,kv,_,_,_,tv,ov,iv,nv,rfl,gv,cv,dv,jv⟩:=key pr rv v AH;have e1:bS s2.heap (.ref tu)=ku:=Yc gu du ju;have e2:bS s2.heap (.ref tv)=kv:=Yc gv dv jv
   try dsimp only at bU
   rw[e1,e2,<-Jy]at bU;exact HT.vH ⟨_,kp _ _ gu,cu,nu,du⟩ ⟨_,kp _ _ gv,cv,nv,dv⟩ ju jv hu bU
  ·subst e;cases rv;exact⟨.ag,H2,I2.kept kp,rfl,q1 rfl⟩
  ·have hm:=Jd (lt:=fun u v=>aA (bS s2.heap u) (bS s2.heap v)) (r:=r) (b:=v0);have hle:=JA (bS s2.heap) (r:=r) (b:=v0);generalize iR (fun u v=>aA (bS s2.heap u) (bS s2.heap v)) v0 r=m at hm hle;rw[<-e]at hm hle;obtain⟨v,hv,k,hk,zV,lJ,tu,ou,iu,nu,e3,gu,cu,du,ju⟩:=key pr rv m hm;have e1:bS s2.heap m=k:=by rw[e3];exact Yc gu du ju
   refine⟨v,H2,I2.kept kp,zV,q2 v k hv hk lJ fun k' cj=> ?_⟩;obtain⟨u',jO,e4⟩:=Au pr rv k' cj;have:=hle u' jO;rw[e1,e4]at this;exact this
end
end L2
namespace L2
open PySem PySem.Spec PyProof.Rows
section
variable {X:Cx}{pins:List (Addr×Obj)}{σ:St}{H:Hp}{s:Shared}{fp:List Addr}{h':Heap}{tk:Nat}
theorem Wv (hf:∀b∈fp,bb X pins H b)(b:Addr)(o:HO)(q:H b=some o):b∉fp:=fun hm=>by rw[(hf b hm).1]at q;cases q
theorem Ci (I:Inv X pins σ H s)(hf:∀b∈fp,bb X pins H b)(hk:∀b o,b∉fp->s.heap.get? b=some o->h'.get? b=some o):Inv X pins σ H {s with heap:=h',toks:=tk} :=by
 refine I.call (g':=s.gens) (d':=s.drawn) (t':=tk) (h':=h') (ch:=fp) ⟨fun b o q _ _ hx=>hk b o hx q,fun b o q _ _ hx=> ⟨o.slots,hk b o hx q⟩,fun b o q n hx=>n,fun b o q hx=> ⟨o,hk b o hx q⟩,fun b ys q=>q,fun b o u q=>q,fun b ps q=> ⟨#[],by rw[q];simp⟩⟩ (fun b o q=> ?_) I.bare fun b hb=> ?_
 ·refine(I.ar b o q).g8 (fun c ob bX q'=>hk c ob ?_ q') (fun _ q'=>q') fun _ _ q'=>q';rcases bX with z' |z'
  ·rw[z'];exact Wv hf b o q
  ·exact Wv hf c _ z'
 ·obtain⟨f0,f1,f2,f3,f4,f5⟩:=hf b hb;exact⟨f3,f1,f4,f5⟩
theorem W7 {T:Addr}{x y:V}{u v:Value}(I:Inv X pins σ H s)(hf:∀b∈fp,bb X pins H b)(hk:∀b o,b∉fp->s.heap.get? b=some o->h'.get? b=some o)(eE:s.heap.objs.size<=T)(Bo:h'.IsTuple T #[u,v])(ru:RelV x u)(rv:RelV y v):
  Inv X pins σ (upd H T (.par [x,y])) {s with heap:=h',toks:=tk} :=by
 have Qa:H T=none:=I.ar.fresh eE;have neT:∀b o,s.heap.get? b=some o->b≠T:=fun b o q=>Zay (Zaw (Zal q) eE);have rJ:∀b o,H b=some o->b≠T:=fun b o q=>Zd q Qa;refine I.call (g':=s.gens) (d':=s.drawn) (t':=tk) (h':=h') (ch:=fp) ⟨fun b o q _ _ hx=>hk b o hx q,fun b o q _ _ hx=> ⟨o.slots,hk b o hx q⟩,fun b o q n hx=>by rw[Zi (neT b o q)];exact n,fun b o q hx=> ⟨o,hk b o hx q⟩,
  fun b ys q=>by rw[Zi (rJ b _ q)];exact q,fun b o u q=>by rw[Zi (rJ b _ q)];exact q,fun b ps q=> ⟨#[],by rw[Zi (rJ b _ q),q];simp⟩⟩ (fun b o q=> ?_) I.bare fun b hb=> ?_
 ·by_cases hb:b=T
  ·subst hb;rw[Zc]at q;cases q;exact⟨bo,[u,v],.cons ru (.cons rv .nil),Bo⟩
  ·rw[Zi hb]at q;refine(I.ar b o q).g8 (fun c ob bX q'=>hk c ob ?_ q') (fun c q'=>by rw[Zi (rJ c _ q')];exact q') fun c ys q'=>by rw[Zi (rJ c _ q')];exact q'
   rcases bX with z' |z'
   ·rw[z'];exact Wv hf b o q
   ·exact Wv hf c _ z'
 ·obtain⟨f0,f1,f2,f3,f4,f5⟩:=hf b hb;exact⟨f3,f1,f4,f5⟩
end
section
variable {X:Cx}{pins:List (Addr×Obj)}{σ:St}{H:Hp}{s:Shared}{fp:List Addr}
theorem Xi {T:Addr}{o:HO}(hf:∀b∈fp,bb X pins H b)(eE:s.heap.objs.size<=T)(OT:∀b∈fp,∃o,s.heap.get? b=some o/\∀v,o.data≠.cell v)(b:Addr)(hb:b∈fp):upd H T o b=none:=by obtain⟨o,ho,_⟩:=OT b hb;rw[Zi (Zay (Zaw (Zal ho) eE))];exact(hf b hb).1
end
theorem U6 {z TI TO i1 i2 b:Addr}(hb:b∉[z,TI,TO,i1,i2]):b∉[z,TO,i1,i2]:=fun hm=>hb (by
 simp only[Zaf,ZcK,ZdD]at hm |-;rcases hm with h |h |h |h
 ·exact .inl h
 ·exact .inr (.inr (.inl h))
 ·exact .inr (.inr (.inr (.inl h)))
 ·exact .inr (.inr (.inr (.inr h))))
theorem Eg {z TI TO i1 i2:Addr}{P:Addr->Prop}(h1:P z)(h2:P TI)(h3:P TO)(h4:P i1)(h5:P i2):∀b∈[z,TI,TO,i1,i2],P b:=fun b hb=>by
 simp only[Zaf,ZcK,ZdD]at hb;rcases hb with rfl |rfl |rfl |rfl |rfl
 ·exact h1
 ·exact h2
 ·exact h3
 ·exact h4
 ·exact h5
theorem X5 (n l1 l2:Nat)(h1:l1<n)(h2:l2<n):ZipApart (n+4) (n+2) (n+3) n (n+1) l1 l2:=by constructor<;>intro z<;>refine absurd (show @Eq Nat _ _ from z) ?_<;>omega
def CH (K:ZgE)(l1 l2:Addr):It:=
 ⟨fun i H=> ∃xs ys x y,ao K H l1 xs/\ao K H l2 ys/\xs[i]? =some x/\ys[i]? =some y,
  fun i H v H'=> ∃(T:Addr) (x y:V),v=.ref T/\H T=none/\H'=upd H T (.par [x,y])/\∀xs ys,ao K H l1 xs->ao K H l2 ys->xs[i]? =some x/\ys[i]? =some y,
  fun i H=> ∃xs ys,ao K H l1 xs/\ao K H l2 ys/\min xs.length ys.length=i⟩
theorem XZ {P:Program}{w:World}{hd:Option Value}{K:ZgE}{elts:List Expr}{kk:Nat}{pos:Pos}(z TI TO i1 i2 l1 l2:Addr)(D:ZipApart z TI TO i1 i2 l1 l2)(lO:hd=none):
  Turn P w K hd (.Tuple elts kk pos) (CH K l1 l2) [z,TI,TO,i1,i2] z (fun i h=>IsZip h z TI TO .none/\IsPair h TI (.ref i1) (.ref i2)/\(∃a b,IsPair h TO a b)/\h.IsListIter i1 l1 i/\h.IsListIter i2 l2 i) where
 mem:=by simp
 obj:=fun i h st b hb=>by obtain⟨a1,a2,⟨u,v,a3⟩,⟨o4,h4,_,d4⟩,⟨o5,h5,_,d5⟩⟩:=st;exact Eg (P:=fun b=> ∃o,h.get? b=some o/\∀v,o.data≠.cell v) ⟨_,a1,fun v z=>by cases z⟩ ⟨_,a2,fun v z=>by cases z⟩ ⟨_,a3,fun v z=>by cases z⟩ ⟨_,h4,fun v z=>by rw[d4]at z;cases z⟩ ⟨_,h5,fun v z=>by rw[d5]at z;cases z⟩ b hb
 keep:=fun i h h' st k=>by obtain⟨a1,a2,⟨u,v,a3⟩,a4,a5⟩:=st;exact⟨k z (by simp) _ a1,k TI (by simp) _ a2,⟨u,v,k TO (by simp) _ a3⟩,a4.at fun o q=>k i1 (by simp) o q,a5.at fun o q=>k i2 (by simp) o q⟩
 item:=by
  intro X hP hw hK hc hh i pins s σ H E I hf st hg;subst hP hw hK;obtain⟨xs,ys,x,y,jo,fJ,hx,hy⟩:=hg;obtain⟨nK,vo,pO,Et⟩:=I.list jo;obtain⟨nJ,mK,jf,fc⟩:=I.list fJ;obtain⟨u,hu,ru⟩:=vo.get hx;obtain⟨v,hv,rv⟩:=mK.get hy;have sF:i<min nK.toArray.size nJ.toArray.size:=by have e1:=(Zaa.mp hu).1;have e2:=(Zaa.mp hv).1;simp only[Zas];omega
  have W:=WalksT.zip2 (prog:=X.prog) (w:=X.w) (A:=X.A) (hh.trans lO) z TI TO i1 i2 l1 l2 D nK.toArray nJ.toArray;obtain⟨a1,a2,a3,a4,a5⟩:=st;refine W.item i s _ _ sF ⟨a1,a2,a3,a4,a5,pO.isList,jf.isList⟩ fun T vals h' tk hP eE sS lM hk=> ⟨_,rfl,W.go elts kk pos i T _ _ _ lM fun ip eQ gW=> ?_⟩;obtain⟨x2,y2,nO,vS,rfl⟩:=hP;have lE:nK[i]? =some x2:=by simpa using nO
  have Eu:nJ[i]? =some y2:=by simpa using vS
  rw[hu]at lE;rw[hv]at Eu;cases lE;cases Eu;have both:∀b o,b∉[z,TI,TO,i1,i2]->s.heap.get? b=some o->ip.get? b=some o:=fun b o hb q=>gW b o (U6 hb) (hk b o (U6 hb) q);have Bo:ip.IsTuple T #[u,v]:=sS.at fun o q=>gW T o (W.apart _ _ _ lM) q;refine⟨.ref T,upd H T (.par [x,y]),W7 (s:=s) (h':=ip) (tk:=tk) I hf both eE Bo ru rv,rfl,⟨T,x,y,rfl,I.ar.fresh eE,rfl,fun as bs ha hb=>by rw[I.vI ha jo,I.vI hb fJ];exact⟨hx,hy⟩⟩,⟨eQ.1,eQ.2.1,eQ.2.2.1,eQ.2.2.2.1,eQ.2.2.2.2.1⟩,Xi hf eE ?_⟩;obtain⟨u',v',RL⟩:=a3;obtain⟨o4,h4,_,d4⟩:=a4;obtain⟨o5,h5,_,d5⟩:=a5;exact Eg (P:=fun b=> ∃o,s.heap.get? b=some o/\∀v,o.data≠.cell v) ⟨_,a1,fun v z=>by cases z⟩ ⟨_,a2,fun v z=>by cases z⟩ ⟨_,RL,fun v z=>by cases z⟩ ⟨_,h4,fun v z=>by rw[d4]at z;cases z⟩ ⟨_,h5,fun v z=>by rw[d5]at z;cases z⟩
 done:=by
  intro X hP hw hK hc hh i pins s σ H E I hf st hg;subst hP hw hK;obtain⟨xs,ys,jo,fJ,hx⟩:=hg;obtain⟨nK,vo,pO,Et⟩:=I.list jo;obtain⟨nJ,mK,jf,fc⟩:=I.list fJ;have e1:=vo.length;have e2:=mK.length;have W:=WalksT.zip2 (prog:=X.prog) (w:=X.w) (A:=X.A) (hh.trans lO) z TI TO i1 i2 l1 l2 D nK.toArray nJ.toArray;have hn:i=min nK.toArray.size nJ.toArray.size:=by simp only[Zas];omega
  obtain⟨a1,a2,a3,a4,a5⟩:=st;rw[hn]at a4 a5;exact W.done s _ _ ⟨a1,a2,a3,a4,a5,pO.isList,jf.isList⟩ fun h' tk hk=> ⟨rfl,Ci (s:=s) (h':=h') (tk:=tk) I hf fun b o hb q=>hk b o (U6 hb) q⟩
 self:=fun A i s Q E st h=>wpAny_pyIter_zip st.1 h
section
variable {X:Cx}{elts:List Expr}{kk:Nat}{tp:Pos}
def NY (K:ZgE)(ta:TA):TI:=fun σ H R=>ta σ H fun vs H1=> ∃l1 l2,vs=[.ref l1,.ref l2]/\(∃xs ys,ao K H1 l1 xs/\ao K H1 l2 ys)/\R (CH K l1 l2) H1
theorem Vp {a b:Expr}{ta:TA}{p pos:Pos}(hn:X.A.handled=none)(hg:Gl X "zip")(hm:X.mg "zip" =none)(ha:PA X [a,b] ta)(hs:starEach [a,b] X.env=[(false,eval a X.env),(false,eval b X.env)]:=by rfl)(lK:starEach [b] X.env=[(false,eval b X.env)]:=by rfl):
  PI X (.Tuple elts kk tp) (.Call (.Name "zip" p) [a,b] [] pos) (NY X.K ta):=by
 intro pins s σ H R I h;refine Call_ (YQ I hg hm PyProof.Rows.Boot.«zip» (Zcv (au (ha pos pins s σ H _ I h) fun us s1 ⟨vs,H1,I1,r1,q1⟩=> ?_) (by rw[hs,lK]) (by rw[lK];rfl)));obtain⟨l1,l2,e,⟨xs,ys,jo,fJ⟩,q⟩:=q1;subst e;obtain⟨u,v,rfl,ru,rv⟩:=vals2 r1;cases ru;cases rv;obtain⟨nK,vo,pO,Et⟩:=I1.list jo;obtain⟨nJ,mK,jf,fc⟩:=I1.list fJ;have t1:l1<s1.heap.objs.size:=by obtain⟨o,ho,_⟩:=pO.isList;exact Zal ho
 have t2:l2<s1.heap.objs.size:=by obtain⟨o,ho,_⟩:=jf.isList;exact Zal ho
 have D:=X5 s1.heap.objs.size l1 l2 t1 t2;refine call_zip_2 pO.isList jf.isList fun h' b1 b2 b3 b4 b5 b6 hk=>wpAny_pyIter_zip b1 ?_;have I2:Inv X pins σ H1 {s1 with heap:=h'} :=I1.kept (t':=s1.toks) hk;refine⟨s1.heap.objs.size+4,[s1.heap.objs.size+4,s1.heap.objs.size+2,s1.heap.objs.size+3,s1.heap.objs.size,s1.heap.objs.size+1],_,_,H1,rfl,I2,
  XZ _ _ _ _ _ l1 l2 D hn,⟨b1,b2,⟨_,_,b3⟩,b4,b5⟩,fun b hb=> ?_,q⟩
 have lS:s1.heap.objs.size<=b:=by simp only[Zaf,ZcK,ZdD]at hb;rcases hb with z |z |z |z |z<;>rw[z]<;>first |exact Zaq _ |exact Nat.le_add_right _ _
 exact I1.lY lS (I1.ar.fresh lS)
end
theorem XE {K:ZgE}{l1 l2:Addr}{xs zs:List V}{g:TG}{tt:TT}{ti:TC}{ys:List V}{σ:St}{H:Hp}{Q:List V->St->Hp->Prop}(Pv:Nat->List V->St->Hp->Prop)(h0:Pv 0 ys σ H)
  (hl:∀i ys σ H,i<=min xs.length zs.length->Pv i ys σ H->ao K H l1 xs/\ao K H l2 zs)
  (hs:∀i x y T ys σ H,xs[i]? =some x->zs[i]? =some y->H T=none->Pv i ys σ H->g (.ref T) σ (upd H T (.par [x,y])) fun bh H2=>tt bh H2 fun b H3=>if b=true then ti ys bh H3 (Pv (i+1)) else Pv (i+1) ys bh H3)
  (hd:∀ys σ H,Pv (min xs.length zs.length) ys σ H->Q ys σ H):gZ g tt ti (CH K l1 l2) ys σ H Q:=by
 refine⟨fun i m ys σ H=>m=min xs.length zs.length-i/\i<=min xs.length zs.length/\Pv i ys σ H,⟨min xs.length zs.length,by simp,ZaP _,h0⟩,?_⟩;rintro i m ys σ H ⟨rfl,hi,p⟩;obtain⟨q1,q2⟩:=hl i ys σ H hi p;by_cases aI:i<min xs.length zs.length
 ·have h1:i<xs.length:=.o;have h2:i<zs.length:=.o;refine .inr ⟨⟨xs,zs,xs[i],zs[i],q1,q2,by simp[h1],by simp[h2]⟩,Pv (i+1),fun bp ah H' p'=> ⟨min xs.length zs.length-(i+1),.o,rfl,aI,p'⟩,fun x H' y=> ?_⟩;obtain⟨T,a,b,e1,e2,e3,e4⟩:=y;subst e1 e3;obtain⟨f1,f2⟩:=e4 xs zs q1 q2;exact hs i a b T ys σ H f1 f2 e2 p
 ·have e:i=min xs.length zs.length:=.o;subst e;exact .inl ⟨⟨xs,zs,q1,q2,rfl⟩,hd ys σ H p⟩
end L2
namespace L2
open PySem PySem.Spec PyProof.Rows PyProof.Rows.eO
section
variable {X:Cx}
theorem VR {g:Str}{es:List Expr}{te:TE}{p p1 p2 kp ji pos:Pos}(hc:X.A.handled=none)(hu:X.A.units+1<cLine)(hg:Gl X "min")(hm:X.mg "min" =none)(he:PE X (.Call (.Name g p1) es [] p2) te)
  (jy:(backToKw pos (keywordEach [⟨some "default",.Constant .none 0 kp,ji⟩] X.env)).filterMap (·.1)=[Str.ofString "default"]:=by rfl):
  PE X (.Call (.Name "min" p) [.Call (.Name g p1) es [] p2] [⟨some "default",.Constant .none 0 kp,ji⟩] pos) (Dh X.K te):=by
 intro pins s σ H Q I h;refine ZbH (YQ I hg hm PyProof.Rows.Boot.«min» ?_ .d .d);have pa:PA X [.Call (.Name g p1) es [] p2] (cq te cZ):=Za he Zb;have pk:PK X [⟨some "default",.Constant .none 0 kp,ji⟩] (cq (tC .ag) cZ):=Hu Yb G3;refine Zd1 (au (pa pos pins s σ H (fun us H1=>match us with
  | [v]=> ∃(a:Addr) (vs:List V) (ks:List (List Int)),v=.ref a/\ao X.K H1 a vs/\Paired (iA H1) vs ks/\(vs=[]->Q .ag H1)/\∀v k,v∈vs->k∈ks->iA H1 v k->(∀k'∈ks,aA k' k=false)->Q v H1
  |_=>False) I h) fun us s1 ⟨uy,H1,I1,r1,q1⟩=> ?_)
 match uy,q1 with
 | [v],q1=>
  obtain⟨a,vs,ks,rfl,hq,pr,q1,q2⟩:=q1;refine au (pk pos pins s1 σ H1 (fun zs H2=>zs=[.ag]/\H2=H1) I1 ⟨rfl,rfl⟩) fun ws s2 ⟨zs,H2,I2,rz,e1,e2⟩=> ?_;subst e1 e2;obtain⟨u,rfl,ru⟩:=ZfD r1;obtain⟨z,rfl,zU⟩:=ZfD rz;cases ru;have ez:z=.none:=zU;subst ez;rw[jy];show wpAny _ _ (call (.builtin "min") [.ref a] [(Str.ofString "default",.none)]) _ _ _;obtain⟨ae,rv,pl,_⟩:=I2.list hq;have key:∀{vs:List V}{ks:List (List Int)}{ae:List Value},Paired (iA H2) vs ks->Vals vs ae->∀u∈ae,∃v∈vs,∃k∈ks,RelV v u/\iA H2 v k/\Iz s2.heap u k:=by
   intro vs ks ae pr
   induction pr generalizing ae with
   |nil=>intro rv;cases rv;intro u hu;cases hu
   |cons hh _ ih=>
    intro rv;cases rv with
    |cons r1 r2=>
     intro u hu;rcases Zaf.mp hu with rfl |hu
     ·obtain⟨t,e,ht⟩:=id hh;obtain⟨items,ri,⟨o,go,oc,n,od⟩,_⟩:=I2.tuple (aq.of ht);refine⟨_,Zai,_,Zai,r1,hh,?_⟩;subst e;cases r1;exact⟨t,o,_,n,rfl,go,oc,od,by simpa using YG ri⟩
     ·obtain⟨v,hv,k,hk,w⟩:=ih r2 u hu;exact⟨v,Zad _ hv,k,Zad _ hk,w⟩
  have Au:∀{vs:List V}{ks:List (List Int)}{ae:List Value},Paired (iA H2) vs ks->Vals vs ae->∀k∈ks,∃u∈ae,bS s2.heap u=k:=by
   intro vs ks ae pr
   induction pr generalizing ae with
   |nil=>intro rv k hk;cases hk
   |cons hh _ ih=>
    intro rv;cases rv with
    |cons r1 r2=>
     intro k hk;rcases Zaf.mp hk with rfl |hk
     ·obtain⟨t,e,ht⟩:=id hh;obtain⟨items,ri,⟨o,go,oc,n,od⟩,_⟩:=I2.tuple (aq.of ht);refine⟨_,Zai,?_⟩;subst e;cases r1;exact Yc go od (by simpa using YG ri)
     ·obtain⟨u,hu,e⟩:=ih r2 k hk;exact⟨u,Zad _ hu,e⟩
  refine U0 (lt:=fun u v=>aA (bS s2.heap u) (bS s2.heap v)) hc pl.isList (fun s' u v Q' E' kp gU AH bU=> ?_) (fun h' tk e kp=> ?_) (fun v0 r h' tk e kp=> ?_)
  ·obtain⟨_,_,ku,_,_,_,tu,ou,iu,nu,rfl,gu,cu,du,ju⟩:=key pr rv u gU;obtain⟨_,_,kv,_,_,_,tv,ov,iv,nv,rfl,gv,cv,dv,jv⟩:=key pr rv v AH;have e1:bS s2.heap (.ref tu)=ku:=Yc gu du ju;have e2:bS s2.heap (.ref tv)=kv:=Yc gv dv jv
   try dsimp only at bU
   rw[e1,e2,<-Jy]at bU;exact HT.vH ⟨_,kp _ _ gu,cu,nu,du⟩ ⟨_,kp _ _ gv,cv,nv,dv⟩ ju jv hu bU
  ·subst e;cases rv;exact⟨.ag,H2,I2.kept kp,rfl,q1 rfl⟩
  ·have hm:=Jd (lt:=fun u v=>aA (bS s2.heap u) (bS s2.heap v)) (r:=r) (b:=v0);have hle:=JA (bS s2.heap) (r:=r) (b:=v0);generalize iR (fun u v=>aA (bS s2.heap u) (bS s2.heap v)) v0 r=m at hm hle;rw[<-e]at hm hle;obtain⟨v,hv,k,hk,zV,lJ,tu,ou,iu,nu,e3,gu,cu,du,ju⟩:=key pr rv m hm;have e1:bS s2.heap m=k:=by rw[e3];exact Yc gu du ju
   refine⟨v,H2,I2.kept kp,zV,q2 v k hv hk lJ fun k' cj=> ?_⟩;obtain⟨u',jO,e4⟩:=Au pr rv k' cj;have:=hle u' jO;rw[e1,e4]at this;exact this
end
end L2
namespace L2
open PySem PySem.Spec PyProof.Rows
section
variable {prog:Program}{w:World}{A:Around}{E:Value->Shared->Prop}{s:Shared}
theorem ZbM {j t:Addr}{i:Nat}{ae:Array Value}{x:Value}{Q:Value->Shared->Prop}(h1:s.heap.IsTupleIter j t i)(h2:s.heap.IsTuple t ae)(hx:ae[i]? =some x)
  (k:∀h',h'.IsTupleIter j t (i+1)->Heap.SameBut j s.heap h'->Q x {s with heap:=h'}):wpAny (model prog w) A (Builtin.SmallTypes.nextOf (.ref j)) Q E s:=by
 obtain⟨o,eo,co,dO⟩:=id h1;obtain⟨ot,et,_,nt,dt⟩:=h2;unfold Builtin.SmallTypes.nextOf;refine eg (Zcf (name:=Str.ofString "__next__") h1.typeIs Zch (ZcI Zch h1.typeIs ZdG ?_ (Zdx _)));show wpAny _ _ (field (.ref j) 0 >>=_) _ _ s;refine eg (Zca eo dO (x:=.ref t) rfl ?_);show wpAny _ _ (if (Value.ref t==Value.none)=true then _ else _) _ _ s;rw[ZaD (show ¬((Value.ref t==Value.none)=true) from Zaj)];show wpAny _ _ (field (.ref j) 1 >>=_) _ _ s;refine eg (Zca eo dO (x:=.int i 0) rfl ?_);show wpAny _ _ (seqItems? (.ref t) >>=_) _ _ s;refine eg (Zdt et dt ?_);simp only[ZcN,hx];refine eg (Zdb eo dO (by simp) (Zao ⟨x,rfl,Zao (k _ ⟨_,Zcb _ eo (Zeu (Zdy dO _)),(Obj.cls_mapFields ..).trans co,?_⟩ (ZdW ..))⟩));rw[Zdy dO];simp[rawInt]
theorem XF {j t:Addr}{i:Nat}{ae:Array Value}{Q:Value->Shared->Prop}(hh:A.handled=none)(h1:s.heap.IsTupleIter j t i)(h2:s.heap.IsTuple t ae)(hx:ae[i]? =none)
  (k:∀h' e,Heap.ExtBut j s.heap h'->(∃o,h'.get? e=some o/\o.cls=.type "StopIteration")->E (.ref e) {s with heap:=h'}):wpAny (model prog w) A (Builtin.SmallTypes.nextOf (.ref j)) Q E s:=by
 obtain⟨o,eo,co,dO⟩:=id h1;obtain⟨ot,et,_,nt,dt⟩:=h2;unfold Builtin.SmallTypes.nextOf;refine eg (Zcf (name:=Str.ofString "__next__") h1.typeIs Zch (ZcI Zch h1.typeIs ZdG ?_ (Zdx _)));show wpAny _ _ (field (.ref j) 0 >>=_) _ _ s;refine eg (Zca eo dO (x:=.ref t) rfl ?_);show wpAny _ _ (if (Value.ref t==Value.none)=true then _ else _) _ _ s;rw[ZaD (show ¬((Value.ref t==Value.none)=true) from Zaj)];show wpAny _ _ (field (.ref j) 1 >>=_) _ _ s;refine eg (Zca eo dO (x:=.int i 0) rfl ?_);show wpAny _ _ (seqItems? (.ref t) >>=_) _ _ s;refine eg (Zdt et dt ?_);simp only[ZcN,hx];refine eg (Zdu (eg (Zdb eo dO (by simp) ?_)));show wpAny _ _ (newExc (.type "StopIteration") [] >>=_) _ _ _;refine eg ?_;simp only[newExc,newTuple];refine eg (ZbB ?_ (by size_fits));refine eg (m:=firstArgMember _ _) (Zf8 (a:=Value.none) (by first |rfl |(simp only[firstArgMember];rfl)) (ZbB ?_ (by size_fits)));simp only[raiseNew];refine eg (wpAny_handled ?_)
 first |rw[show A.in1.handled=none from hh] |rw[hh]
 exact eg (Zao (wpAny_throw (k _ _ (((ZdW ..).extBut.push _).push _) ⟨_,Zau _ rfl,rfl⟩)))
end
theorem F1 {prog:Program}{w:World}{A:Around}(hh:A.handled=none)(j t:Addr)(bW:t≠j)(ae:Array Value):
  Draws prog w A j [j,t] ae.size (fun i v=>ae[i]? =some v) (fun i h=>h.IsTupleIter j t i/\h.IsTuple t ae) where
 live:=fun _ _ st=>let ⟨o,ho,_⟩:=st.1;⟨o,ho⟩
 frame:=fun _ _ _ st hk=> ⟨st.1.at fun o e=>hk j (by simp) o e,st.2.at fun o e=>hk t (by simp) o e⟩
 item:=fun i s Q E hi st hQ=>ZbM st.1 st.2 (x:=ae[i]) (by simp[hi]) fun h' a b=>hQ _ h' s.toks (by simp[hi]) ⟨a,st.2.extBut b.extBut bW⟩ b
 done:=fun s Q E st hE=>XF hh st.1 st.2 (by simp) hE
section
variable {prog:Program}{w:World}{A:Around}{E:Value->Shared->Prop}{s:Shared}
theorem V7 (l:Addr)(ae:Array Value)(n:Nat)(wO:Option Addr)(sl:Array (Option Value)):
  Meets (Builtin.«enumerate.__new__» ⟨[.type "enumerate",.ref l],[]⟩) (fun _ R s=>s.heap.get? l=some {cls:=.type "tuple",dict:=wO,data:=.seq ae n,slots:=sl}/\
   R (.ok (.ret (.ref (s.heap.push {cls:=.type "tuple_iterator",data:=.fields #[.ref l,.int 0 0]}).objs.size)))
    {s with heap:=(s.heap.push {cls:=.type "tuple_iterator",data:=.fields #[.ref l,.int 0 0]}).push {cls:=.type "enumerate",data:=.fields #[.none,.bool false,.ref s.heap.objs.size,rawInt 0,.none,.none]} }):=
 .of_wp fun prog w A R s h=>by
  obtain⟨hp,g,d,tk,os⟩:=s;obtain⟨hl,h⟩:=h;have aap:=sub_enumerate;have hL:Heap.IsTuple (Shared.heap ⟨hp,g,d,tk,os⟩) l ae:=⟨_,hl,rfl,n,rfl⟩
  wp_walk using AutoSeq1.wpAny_loadPart' hl
  refine wpAny_stack_any fun st=>Zao ?_;split
  ·rename_i c _ _ _ _ _;cases (c==Value.type "enumerate")<;> (wp_walk using AutoSeq1.wpAny_loadPart' hl,ZeZ hL;exact⟨_,rfl,h⟩)
  ·wp_walk using AutoSeq1.wpAny_loadPart' hl,ZeZ hL
   exact⟨_,rfl,h⟩
theorem Zb1 {l:Addr}{ae:Array Value}{Q:Value->Shared->Prop}(hL:s.heap.IsTuple l ae)
  (h:∀h',IsEnum h' (s.heap.objs.size+1) s.heap.objs.size 0 .none->h'.IsTupleIter s.heap.objs.size l 0->(∀b o,s.heap.get? b=some o->h'.get? b=some o)->Q (.ref (s.heap.objs.size+1)) {s with heap:=h'}):
  wpAny (model prog w) A (call (.type "enumerate") [.ref l]) Q E s:=by
 obtain⟨⟨c,wO,dt,sl⟩,hl,hc,n,hd⟩:=hL;replace hc:c=.type "tuple" :=hc;replace hd:dt=.seq ae n:=hd;subst hc hd;refine callType_new F.called_enumerate .d (F.typeCall_enumerate_1 _) (F.newCall_enumerate_1 _) (fun obj=>F.args_object_init_2 obj _) F.entry_enumerate_new (V7 l ae n wO sl) ⟨hl,?_⟩;have hz:(s.heap.push {cls:=.type "tuple_iterator",data:=.fields #[.ref l,.int 0 0]}).objs.size=s.heap.objs.size+1:=Zds ..;show _/\_;rw[hz];have he:IsEnum ((s.heap.push {cls:=.type "tuple_iterator",data:=.fields #[.ref l,.int 0 0]}).push {cls:=.type "enumerate",data:=.fields #[.none,.bool false,.ref s.heap.objs.size,rawInt 0,.none,.none]}) (s.heap.objs.size+1) s.heap.objs.size 0 .none:=by have q:=Zau (s.heap.push {cls:=.type "tuple_iterator",data:=.fields #[.ref l,.int 0 0]}) (o:= {cls:=.type "enumerate",data:=.fields #[.none,.bool false,.ref s.heap.objs.size,rawInt 0,.none,.none]}) rfl;rw[hz]at q;exact q
 exact⟨⟨_,he,rfl⟩,h _ he ⟨_,gc _ (Zau _ rfl),rfl,rfl⟩ fun b o x=>gc _ (gc _ x)⟩
end
def CI (K:ZgE)(t:Addr):It:=
 ⟨fun i H=> ∃xs x,aq K H t xs/\xs[i]? =some x,fun i H x H'=> ∃(T:Addr) (y:V),x=.ref T/\H T=none/\H'=upd H T (.par [.int (i:Int),y])/\∀xs,aq K H t xs->xs[i]? =some y,fun i H=> ∃xs,aq K H t xs/\xs.length=i⟩
theorem XX {P:Program}{w:World}{hd:Option Value}{K:ZgE}{elts:List Expr}{kk:Nat}{pos:Pos}(t e j:Addr)(kC:e≠j)(rZ:t≠e)(rY:t≠j)(lO:hd=none):
  Turn P w K hd (.Tuple elts kk pos) (CI K t) [e,j] e (fun i h=> (∃old,IsEnum h e j i old)/\h.IsTupleIter j t i) where
 mem:=by simp
 obj:=fun i h st b hb=>by
  obtain⟨⟨old,he⟩,o,ho,hc,hd⟩:=st;rcases Zaf.mp hb with rfl |hb
  ·exact⟨_,he,fun v z=>by cases z⟩
  ·rw[Zar.mp hb];exact⟨o,ho,fun v z=>by rw[hd]at z;cases z⟩
 keep:=fun i h h' st k=> ⟨let ⟨old,he⟩:=st.1;⟨old,k e (by simp) _ he⟩,st.2.at fun o q=>k j (by simp) o q⟩
 item:=by
  intro X hP hw hK hc hh i pins s σ H E I hf st hg;subst hP hw hK;obtain⟨xs,x,hq,hx⟩:=hg;obtain⟨ae,rv,p,hz⟩:=I.tuple hq;obtain⟨u,hu,ru⟩:=rv.get hx;have hl:=rv.length;have sF:i<ae.toArray.size:=by have:=(Zaa.mp hu).1;simpa using this
  have W:=Zen (prog:=X.prog) (w:=X.w) (A:=X.A) (F1 (A:=X.A.in1) (show X.A.in1.handled=none from hh.trans lO) j t rY ae.toArray) e kC (by simp[kC,rZ.symm]) (by simp);have hT:s.heap.IsTuple t ae.toArray:=p;refine W.item i s _ _ sF ⟨st.1,st.2,hT⟩ fun T vals h' tk hP eE sS lM hk=> ⟨_,rfl,W.go elts kk pos i T _ _ _ lM fun ip eQ gW=> ?_⟩;obtain⟨qS,x2,nO,rfl⟩:=hP;have lE:ae[i]? =some x2:=by simpa using nO
  rw[hu]at lE;cases lE;have sQ:T∉[e,j]:=W.apart _ _ _ lM;refine⟨.ref T,upd H T (.par [.int (i:Int),x]),W7 (s:=s) (h':=ip) (tk:=tk) I hf (fun b o hb q=>gW b o hb (hk b o hb q)) eE (sS.at fun o q=>gW T o sQ q) ⟨qS,rfl⟩ ru,rfl,⟨T,x,rfl,I.ar.fresh eE,rfl,fun ys hy=>by rw[I.C7 hy hq];exact hx⟩,⟨eQ.1,eQ.2.1⟩,fun b hb=> ?_⟩;rw[Zi (fun z=>sQ (by rw[<-z];exact hb))];exact(hf b hb).1
 done:=by
  intro X hP hw hK hc hh i pins s σ H E I hf st hg;subst hP hw hK;obtain⟨xs,hq,hx⟩:=hg;obtain⟨ae,rv,p,hz⟩:=I.tuple hq;have hl:=rv.length;have W:=Zen (prog:=X.prog) (w:=X.w) (A:=X.A) (F1 (A:=X.A.in1) (show X.A.in1.handled=none from hh.trans lO) j t rY ae.toArray) e kC (by simp[kC,rZ.symm]) (by simp);have hn:i=ae.toArray.size:=by rw[Zas];omega
  have hT:s.heap.IsTuple t ae.toArray:=p;rw[hn]at st;exact W.done s _ _ ⟨st.1,st.2,hT⟩ fun h' tk hk=> ⟨rfl,Ci (s:=s) (h':=h') (tk:=tk) I hf hk⟩
 self:=fun A i s Q E st h=>let ⟨old,he⟩:=st.1;Zeo he h
section
variable {X:Cx}{elts:List Expr}{kk:Nat}{tp:Pos}
def N6 (K:ZgE)(ta:TA):TI:=fun σ H R=>ta σ H fun vs H1=> ∃t,vs=[.ref t]/\(∃xs,aq K H1 t xs)/\R (CI K t) H1
theorem VW {a:Expr}{ta:TA}{p pos:Pos}(hn:X.A.handled=none)(hg:Gl X "enumerate")(hm:X.mg "enumerate" =none)(ha:PA X [a] ta)(hs:starEach [a] X.env=[(false,eval a X.env)]:=by rfl):PI X (.Tuple elts kk tp) (.Call (.Name "enumerate" p) [a] [] pos) (N6 X.K ta):=by
 intro pins s σ H R I h;refine Call_ (YQ I hg hm boot_enumerate (Zcv (au (ha pos pins s σ H _ I h) fun us s1 ⟨vs,H1,I1,r1,q1⟩=> ?_) hs rfl));obtain⟨t,e,⟨xs,hq⟩,q⟩:=q1;subst e;obtain⟨u,rfl,ru⟩:=ZfD r1;cases ru;obtain⟨ae,rv,pl,hz⟩:=I1.tuple hq;have hT:s1.heap.IsTuple t ae.toArray:=pl;have ht:t<s1.heap.objs.size:=by obtain⟨o,ho,_⟩:=hT;exact Zal ho
 refine Zb1 hT fun h' he hj hk=>Zeo he ?_;have I2:Inv X pins σ H1 {s1 with heap:=h'} :=I1.kept (t':=s1.toks) hk;refine⟨s1.heap.objs.size+1,[s1.heap.objs.size+1,s1.heap.objs.size],_,_,H1,rfl,I2,XX t _ _ (Nat.succ_ne_self _) (Zay (ZcO ht)) (Zay ht) hn,⟨⟨_,he⟩,hj⟩,fun b hb=> ?_,q⟩;have lS:s1.heap.objs.size<=b:=by
  rcases Zaf.mp hb with z |z
  ·rw[z];exact ZcJ _
  ·rw[Zar.mp z];exact Zaq _
 exact I1.lY lS (I1.ar.fresh lS)
end
theorem Zc1 {K:ZgE}{a:Addr}{xs:List V}{g:TG}{tt:TT}{ti:TC}{ys:List V}{σ:St}{H:Hp}{Q:List V->St->Hp->Prop}(Pv:Nat->List V->St->Hp->Prop)(h0:Pv 0 ys σ H)
  (hl:∀i ys σ H,i<=xs.length->Pv i ys σ H->aq K H a xs)
  (hs:∀i x T ys σ H,xs[i]? =some x->H T=none->Pv i ys σ H->g (.ref T) σ (upd H T (.par [.int (i:Int),x])) fun bh H2=>tt bh H2 fun b H3=>if b=true then ti ys bh H3 (Pv (i+1)) else Pv (i+1) ys bh H3)
  (hd:∀ys σ H,Pv xs.length ys σ H->Q ys σ H):gZ g tt ti (CI K a) ys σ H Q:=by
 refine⟨fun i m ys σ H=>m=xs.length-i/\i<=xs.length/\Pv i ys σ H,⟨xs.length,by simp,ZaP _,h0⟩,?_⟩;rintro i m ys σ H ⟨rfl,hi,p⟩;have q:=hl i ys σ H hi p;by_cases aI:i<xs.length
 ·refine .inr ⟨⟨xs,xs[i],q,by simp[aI]⟩,Pv (i+1),fun bp ah H' p'=> ⟨xs.length-(i+1),.o,rfl,aI,p'⟩,fun x H' y=> ?_⟩;obtain⟨T,z,e1,e2,e3,e4⟩:=y;subst e1 e3;exact hs i z T ys σ H (e4 xs q) e2 p
 ·have e:i=xs.length:=.o;subst e;exact .inl ⟨⟨xs,q,rfl⟩,hd ys σ H p⟩
def ud (K:ZgE)(t:Addr):It:=
 ⟨fun i H=> ∃xs x,ao K H t xs/\xs[i]? =some x,fun i H x H'=> ∃(T:Addr) (y:V),x=.ref T/\H T=none/\H'=upd H T (.par [.int (i:Int),y])/\∀xs,ao K H t xs->xs[i]? =some y,fun i H=> ∃xs,ao K H t xs/\xs.length=i⟩
theorem Zbu {P:Program}{w:World}{hd:Option Value}{K:ZgE}{elts:List Expr}{kk:Nat}{pos:Pos}(t e j:Addr)(kC:e≠j)(rZ:t≠e)(rY:t≠j)(lO:hd=none):
  Turn P w K hd (.Tuple elts kk pos) (ud K t) [e,j] e (fun i h=> (∃old,IsEnum h e j i old)/\h.IsListIter j t i) where
 mem:=by simp
 obj:=fun i h st b hb=>by
  obtain⟨⟨old,he⟩,o,ho,hc,hd⟩:=st;rcases Zaf.mp hb with rfl |hb
  ·exact⟨_,he,fun v z=>by cases z⟩
  ·rw[Zar.mp hb];exact⟨o,ho,fun v z=>by rw[hd]at z;cases z⟩
 keep:=fun i h h' st k=> ⟨let ⟨old,he⟩:=st.1;⟨old,k e (by simp) _ he⟩,st.2.at fun o q=>k j (by simp) o q⟩
 item:=by
  intro X hP hw hK hc hh i pins s σ H E I hf st hg;subst hP hw hK;obtain⟨xs,x,hq,hx⟩:=hg;obtain⟨ae,rv,p,hz⟩:=I.list hq;obtain⟨u,hu,ru⟩:=rv.get hx;have hl:=rv.length;have sF:i<ae.toArray.size:=by have:=(Zaa.mp hu).1;simpa using this
  have W:=Zen (prog:=X.prog) (w:=X.w) (A:=X.A) (Draws.list (A:=X.A.in1) (show X.A.in1.handled=none from hh.trans lO) j t rY ae.toArray) e kC (by simp[kC,rZ.symm]) (by simp);have hT:s.heap.IsList t ae.toArray:=p.isList;refine W.item i s _ _ sF ⟨st.1,st.2,hT⟩ fun T vals h' tk hP eE sS lM hk=> ⟨_,rfl,W.go elts kk pos i T _ _ _ lM fun ip eQ gW=> ?_⟩;obtain⟨qS,x2,nO,rfl⟩:=hP;have lE:ae[i]? =some x2:=by simpa using nO
  rw[hu]at lE;cases lE;have sQ:T∉[e,j]:=W.apart _ _ _ lM;refine⟨.ref T,upd H T (.par [.int (i:Int),x]),W7 (s:=s) (h':=ip) (tk:=tk) I hf (fun b o hb q=>gW b o hb (hk b o hb q)) eE (sS.at fun o q=>gW T o sQ q) ⟨qS,rfl⟩ ru,rfl,⟨T,x,rfl,I.ar.fresh eE,rfl,fun ys hy=>by rw[I.vI hy hq];exact hx⟩,⟨eQ.1,eQ.2.1⟩,fun b hb=> ?_⟩;rw[Zi (fun z=>sQ (by rw[<-z];exact hb))];exact(hf b hb).1
 done:=by
  intro X hP hw hK hc hh i pins s σ H E I hf st hg;subst hP hw hK;obtain⟨xs,hq,hx⟩:=hg;obtain⟨ae,rv,p,hz⟩:=I.list hq;have hl:=rv.length;have W:=Zen (prog:=X.prog) (w:=X.w) (A:=X.A) (Draws.list (A:=X.A.in1) (show X.A.in1.handled=none from hh.trans lO) j t rY ae.toArray) e kC (by simp[kC,rZ.symm]) (by simp);have hn:i=ae.toArray.size:=by rw[Zas];omega
  have hT:s.heap.IsList t ae.toArray:=p.isList;rw[hn]at st;exact W.done s _ _ ⟨st.1,st.2,hT⟩ fun h' tk hk=> ⟨rfl,Ci (s:=s) (h':=h') (tk:=tk) I hf hk⟩
 self:=fun A i s Q E st h=>let ⟨old,he⟩:=st.1;Zeo he h
section
variable {X:Cx}{elts:List Expr}{kk:Nat}{tp:Pos}
def N5 (K:ZgE)(ta:TA):TI:=fun σ H R=>ta σ H fun vs H1=> ∃t,vs=[.ref t]/\(∃xs,ao K H1 t xs)/\R (ud K t) H1
theorem Xp {a:Expr}{ta:TA}{p pos:Pos}(hn:X.A.handled=none)(hg:Gl X "enumerate")(hm:X.mg "enumerate" =none)(ha:PA X [a] ta)(hs:starEach [a] X.env=[(false,eval a X.env)]:=by rfl):PI X (.Tuple elts kk tp) (.Call (.Name "enumerate" p) [a] [] pos) (N5 X.K ta):=by
 intro pins s σ H R I h;refine Call_ (YQ I hg hm boot_enumerate (Zcv (au (ha pos pins s σ H _ I h) fun us s1 ⟨vs,H1,I1,r1,q1⟩=> ?_) hs rfl));obtain⟨t,e,⟨xs,hq⟩,q⟩:=q1;subst e;obtain⟨u,rfl,ru⟩:=ZfD r1;cases ru;obtain⟨ae,rv,pl,hz⟩:=I1.list hq;have hT:s1.heap.IsList t ae.toArray:=pl.isList;have ht:t<s1.heap.objs.size:=by obtain⟨o,ho,_⟩:=hT;exact Zal ho
 refine call_enumerate_list hT fun h' he hj fc hk=>Zeo he ?_;have I2:Inv X pins σ H1 {s1 with heap:=h'} :=I1.kept (t':=s1.toks) hk;refine⟨s1.heap.objs.size+1,[s1.heap.objs.size+1,s1.heap.objs.size],_,_,H1,rfl,I2,Zbu t _ _ (Nat.succ_ne_self _) (Zay (ZcO ht)) (Zay ht) hn,⟨⟨_,he⟩,hj⟩,fun b hb=> ?_,q⟩;have lS:s1.heap.objs.size<=b:=by
  rcases Zaf.mp hb with z |z
  ·rw[z];exact ZcJ _
  ·rw[Zar.mp z];exact Zaq _
 exact I1.lY lS (I1.ar.fresh lS)
end
theorem Xd {K:ZgE}{a:Addr}{xs:List V}{g:TG}{tb:TS}{D:Ends}{σ:St}{H:Hp}(Pv:Nat->St->Hp->Prop)(h0:Pv 0 σ H)(hl:∀i σ H,i<=xs.length->Pv i σ H->ao K H a xs)
  (hs:∀i x T σ H,xs[i]? =some x->H T=none->Pv i σ H->g (.ref T) σ (upd H T (.par [.int (i:Int),x])) fun bh H2=>tb {D with nx:=Pv (i+1),ct:=Pv (i+1),bk:=D.nx} bh H2) (hd:∀σ H,Pv xs.length σ H->D.nx σ H):
  ∃W:Nat->Nat->St->Hp->Prop,(∃m,W 0 m σ H)/\∀i m σ H,W i m σ H->
   ((ud K a).stop i H/\D.nx σ H)∨((ud K a).go i H/\∃N:St->Hp->Prop,(∀ah H',N ah H'->∃m',m'<m/\W (i+1) m' ah H')/\∀x H',(ud K a).mn i H x H'->g x σ H' fun bh H2=>tb {D with nx:=N,ct:=N,bk:=D.nx} bh H2):=by
 refine⟨fun i m σ H=>m=xs.length-i/\i<=xs.length/\Pv i σ H,⟨xs.length,by simp,ZaP _,h0⟩,?_⟩;rintro i m σ H ⟨rfl,hi,p⟩;have q:=hl i σ H hi p;by_cases aI:i<xs.length
 ·refine .inr ⟨⟨xs,xs[i],q,by simp[aI]⟩,Pv (i+1),fun ah H' p'=> ⟨xs.length-(i+1),.o,rfl,aI,p'⟩,fun x H' y=> ?_⟩;obtain⟨T,z,e1,e2,e3,e4⟩:=y;subst e1 e3;exact hs i z T σ H (e4 xs q) e2 p
 ·have e:i=xs.length:=.o;subst e;exact .inl ⟨⟨xs,q,rfl⟩,hd σ H p⟩
section
variable {X:Cx}{a b:Expr}{rest:List Expr}{ta tb:TE}{pos:Pos}
def KP (K:ZgE)(ta tb:TE):TE:=fun σ H Q=>ta σ H fun x H1=> ∃k,tX K x H1 k/\if k=true then Q x H1 else tb σ H1 Q
theorem GZ (ha:PE X a ta)(hb:PE X (.BoolOp .Or (b::rest) pos) tb):PE X (.BoolOp .Or (a::b::rest) pos) (KP X.K ta tb):=by
 intro pins s σ H Q I h;refine BoolOp_or (au (ha pins s σ H _ I h) fun v s1 ⟨x,H1,I1,r1,q1⟩=> ?_);obtain⟨k,tk,q1⟩:=q1;refine au (GP pins s1 σ H1 x v (fun b H'=>b=k/\H'=H1) I1 r1 ⟨k,tk,rfl,rfl⟩) fun c s2 ⟨H2,I2,e⟩=> ?_;obtain⟨rfl,rfl⟩:=e;cases c with
 |false=>exact hb pins s2 σ _ Q I2 q1
 |true=>exact⟨x,_,I2,r1,q1⟩
end
section
variable {X:Cx}
inductive Cz (H:Hp) (x y:V):Prop
 |str (z:Str) (h1:x=.str z) (h2:y=.str z)
 |one (a b:Addr) (k:Int) (h1:x=.ref a) (h2:y=.ref b) (h3:H a=some (.lst [.int k])) (h4:H b=some (.lst [.int k]))
theorem Jv (hu:X.A.units+1<cLine):aZ X (compareOp .NotEq) (fun x y H Q=>Cz H x y/\Q (.bl false) H):=by
 intro pins s σ H x y u v Q I rx ry ⟨h,q⟩;cases h with
 |str z h1 h2=>subst h1 h2;refine BZ pins s σ H _ _ _ _ Q I rx ry ⟨rfl,?_⟩;rw[ZaA rfl];exact q
 |one a b k h1 h2 h3 h4=>subst h1 h2;exact Tt hu pins s σ H _ _ _ _ Q I rx ry ⟨a,b,_,_,rfl,rfl,ao.of h3,ao.of h4,.cons (.inr (.inl ⟨k,rfl,rfl⟩)) .nil,q⟩
end
end L2
namespace U
open PySem L2 PyProof.Rows
def top (i:Nat):Stmt:=PySem.Challenge.pw_unlikesteps_k92_desks_told_and_asked.main.body.getD i (.Pass ⟨0,0,0,0⟩)
structure Gs (mg:Str->Option Value):Prop where
 isinstance:mg "isinstance" =none
 int:mg "int" =none
 bool:mg "bool" =none
 tuple:mg "tuple" =none
 list:mg "list" =none
 len:mg "len" =none
 all:mg "all" =none
 set:mg "set" =none
 range:mg "range" =none
 max:mg "max" =none
 min:mg "min" =none
 zip:mg "zip" =none
 str:mg "str" =none
 dict:mg "dict" =none
 enumerate:mg "enumerate" =none
 sorted:mg "sorted" =none
 longest:∃t,mg "LONGEST_SIDE" =some (.int 12 t)
 Ec:∃t,mg "MOST_WIDE" =some (.int 6 t)
 Ee:∃t,mg "MOST_HIGH" =some (.int 7 t)
section
variable {P:Program}{w:World}{K:ZgE}{mg:Str->Option Value}{base:Heap}
abbrev yQ:Stmt:=top 19
def yd (K:ZgE):Sp:=fun vs H Q _=> ∃x,vs=[x]/\md K H x/\Q (.bl (whole x)) H
theorem Lx:aH ["thing"] ["thing"] (ay yQ):=Zz (by decide+kernel)
theorem Xg {f:Addr}{fd:FuncData}(F:aE K "is_whole" "is_whole" yQ f fd)(G:Gs mg):aw P w K mg base aF 1 f fd ["thing"] (yd K):=by
 refine F.ok Lx (fun vs H Q E h=> ?_) (fun cdv A outer s H vs Q E hr h=> ?_)
 ·obtain⟨x,rfl,_⟩:=h;rfl
 ·obtain⟨x,rfl,⟨T,t⟩,q⟩:=h;refine⟨_,Zg (Zo (Jt (Zn (Yi (c:= "int")) rfl G.isinstance Za4 (Za (pv 0) (Za (Y2 (v:=.ty "int") rfl G.int boot_int rfl) Zb)))
   (YN (TF (Zn (Yi (c:= "bool")) rfl G.isinstance Za4 (Za (pv 0) (Za (Y2 (v:=.ty "bool") rfl G.bool boot_bool rfl) Zb))))))),?_⟩
  refine⟨x,rfl,x,_,_,rfl,t,Te t,_,rfl,?_⟩;rw[Za7]at q;cases e:Ay x with
  |false=>rw[e]at q;exact az q
  |true=>rw[e]at q;exact aB ⟨x,rfl,x,_,_,rfl,t,Vk t,_,rfl,q⟩
abbrev yO:Stmt:=top 20
def oW (K:ZgE):Sp:=fun vs H Q _=> ∃x a b,vs=[x,.int a,.int b]/\md K H x/\Q (.bl (cY x a b)) H
theorem Lw:aH ["thing", "least", "most"] ["thing", "least", "most"] (ay yO):=Zz (by decide+kernel)
theorem XO {f:Addr}{fd:FuncData}(F:aE K "is_whole_within" "is_whole_within" yO f fd)(D1:Def P w K mg base 1 "is_whole" ["thing"] (yd K)):aw P w K mg base aF 2 f fd ["thing", "least", "most"] (oW K):=by
 refine F.ok Lw (fun vs H Q E h=> ?_) (fun cdv A outer s H vs Q E hr h=> ?_)
 ·obtain⟨x,a,b,rfl,_⟩:=h;rfl
 ·obtain⟨x,a,b,rfl,t,q⟩:=h;refine⟨_,Zg (Zo (Jt (Zh D1 hr (Za (pv 0) Zb)) (YN (Xk Gq Gq (pv 1) (pv 0) (pv 2))))),?_⟩;refine⟨x,rfl,x,rfl,t,_,rfl,?_⟩;cases x with
  |int i=>
   refine aB ⟨_,rfl,_,rfl,_,_,rfl,rfl,_,rfl,?_⟩;have e:cY (.int i) a b=(decide (a<=i)&&decide (i<=b)):=rfl;rw[e]at q;cases e1:decide (a<=i) with
   |false=>rw[e1]at q;exact az q
   |true=>rw[e1]at q;exact aB ⟨_,rfl,_,_,rfl,rfl,q⟩
  |_=>exact az q
abbrev yU:Stmt:=top 22
def uI (K:ZgE):Sp:=fun vs H Q _=> ∃x n,vs=[x,.int n]/\md K H x/\Q (.bl (match dq H x with |some xs=>decide ((xs.length:Int)=n) |none=>false)) H
theorem LD:aH ["thing", "many"] ["thing", "many"] (ay yU):=Zz (by decide+kernel)
theorem Xf {f:Addr}{fd:FuncData}(F:aE K "is_tuple_of" "is_tuple_of" yU f fd)(G:Gs mg):aw P w K mg base aF 1 f fd ["thing", "many"] (uI K):=by
 refine F.ok LD (fun vs H Q E h=> ?_) (fun cdv A outer s H vs Q E hr h=> ?_)
 ·obtain⟨x,n,rfl,_⟩:=h;rfl
 ·obtain⟨x,n,rfl,⟨T,t⟩,q⟩:=h;refine⟨_,Zg (Zo (Jt (Zn (Yi (c:= "tuple")) rfl G.isinstance Za4 (Za (pv 0) (Za (Y2 (v:=.ty "tuple") rfl G.tuple boot_tuple rfl) Zb)))
   (YN (Y1 We (Zn ZG rfl G.len ZdE (Za (pv 0) Zb)) (pv 1) (bJ _))))),?_⟩
  refine⟨x,rfl,x,_,_,rfl,t,Zc4 t,_,rfl,?_⟩;cases e:dq H x with
  |none=>rw[e]at q;exact az q
  |some xs=>
   rw[e]at q;obtain⟨a,rfl,ha⟩:=ZB e;refine aB ⟨_,rfl,a,xs,rfl,.inr (aq.of ha),_,rfl,rfl,?_⟩;have z:decide (V.int (xs.length:Int)=V.int n)=decide ((xs.length:Int)=n):=by simp
   rw[z];exact q
abbrev zR:Stmt:=top 23
def nI:Option (List V)->Bool
 |some [a,b]=>cY a 1 12&&cY b 1 12
 |_=>false
def xk (K:ZgE)(H:Hp)(x:V):Prop:=md K H x/\∀xs,dq H x=some xs->∀y∈xs,md K H y
def uX (K:ZgE):Sp:=fun vs H Q _=> ∃x,vs=[x]/\xk K H x/\∀H',ak H H'->Q (.bl (nI (dq H x))) H'
theorem L5:aH ["thing"] ["thing"] (ay zR):=Zz (by decide+kernel)
theorem Xy {f:Addr}{fd:FuncData}(F:aE K "is_board" "is_board" zR f fd)(G:Gs mg)(D1:Def P w K mg base 1 "is_tuple_of" ["thing", "many"] (uI K))(D2:Def P w K mg base 2 "is_whole_within" ["thing", "least", "most"] (oW K)):
  aw P w K mg base aF 3 f fd ["thing"] (uX K):=by
 obtain⟨tk,hL⟩:=G.longest;refine F.ok L5 (fun vs H Q E h=> ?_) (fun cdv A outer s H vs Q E hr h=> ?_)
 ·obtain⟨x,rfl,_⟩:=h;rfl
 ·obtain⟨x,rfl,⟨t,hi⟩,q⟩:=h;refine⟨_,Zg (Zo (Jt (Zh D1 (hr.mono .d) (Za (pv 0) (Za Zf Zb)))
   (YN (Zn Hz rfl G.all boot_all (Za (ZZ ["side"] 1 [] (J0 (pv 0)) (fun C s H fp=>pb 0) (fun C s H fp=>Z1)
    (fun C s H fp D=>cz rfl (Zh D2 (hr.mono .d) (Za (pv 0) (Za Zf (Za (ZK (v:=.int 12) rfl hL ⟨_,rfl⟩) Zb)))))) Zb))))),?_⟩
  refine⟨x,rfl,x,2,rfl,t,_,rfl,?_⟩;cases e:dq H x with
  |none=>rw[e]at q;exact az (q H (ak.refl H))
  |some xs=>
   rw[e]at q;obtain⟨a,rfl,ha⟩:=ZB e;show if decide ((xs.length:Int)=2)=true then _ else _
   by_cases h2:xs.length=2
   ·rw[ZaA (show(xs.length:Int)=2 by omega)];refine aB ⟨_,rfl,a,rfl,⟨xs,aq.of ha⟩,?_⟩;refine Y9 (xs:=xs) (fun i ys σ H2=>ys=(xs.take i).map (fun y=>V.bl (cY y 1 12))/\H2=H/\∃v,σ=[v]) ⟨rfl,rfl,none,rfl⟩ (fun i ys σ H2 _ ⟨_,e2,_⟩=>by rw[e2];exact aq.of ha) ?_ ?_
    ·rintro i y ys σ H2 hy ⟨rfl,rfl,v,rfl⟩;have my:y∈xs:=ZaC hy;refine⟨y,rfl,y,1,12,rfl,hi xs e y my,?_,?_⟩
     ·rw[Zae,Zaz,ZaW];omega
     ·refine⟨?_,rfl,_,rfl⟩;rw[ZaT,hy,ZaF];rfl
    ·rintro ys σ H2 ⟨rfl,rfl,v,rfl⟩ p hp;rw[ZaH];refine⟨p,xs.map (fun y=>cY y 1 12),rfl,?_,?_⟩
     ·rw[Zdn];exact ao.of Zc
     ·have e3:nI (some xs)=(xs.map (fun y=>cY y 1 12)).all id:=by
       match xs,h2 with
       | [a,b],_=>simp[nI]
      rw[<-e3];exact q _ fun b o hb=>by rw[Zi (Zd hb hp)];exact hb
   ·rw[Zav (show ¬(xs.length:Int)=2 by omega)];have e3:nI (some xs)=false:=by
     match xs,h2 with
     | [],_=>rfl
     | [a],_=>rfl
     | [a,b],h=>exact absurd rfl h
     |a::b::c::r,_=>rfl
    rw[e3]at q;exact az (q H (ak.refl H))
end
section
theorem Jg (val:Nat->Int):∀n,((PyProof.Rows.firstMet val n).length=n↔((List.range n).map val).Nodup)
 |0=>by simp[PyProof.Rows.firstMet_zero]
 |n+1=>by
  have ih:=Jg val n;have le:=PyProof.Rows.firstMet_length_le val n;rw[PyProof.Rows.firstMet_succ,PyProof.Rows.step_length,PyProof.Rows.firstMet_any,Zcq,ZaF];have e:(((List.range n).map val).any (· ==val n))=true↔val n∈(List.range n).map val:=by
   rw[ZdV];constructor
   ·rintro⟨x,hx,q⟩;have:x=val n:=by simpa using q
    rw[<-this];exact hx
   ·intro h;exact⟨_,h,by simp⟩
  have nd:((List.range n).map val++List.map val [n]).Nodup↔((List.range n).map val).Nodup/\¬val n∈(List.range n).map val:=by
   rw[Zdj];constructor
   ·rintro⟨h1,_,h3⟩;exact⟨h1,fun m=>h3 _ m (val n) (by simp) rfl⟩
   ·rintro⟨h1,h2⟩;refine⟨h1,by simp,fun a ha b hb q=>h2 ?_⟩;have dP:b=val n:=by simpa using hb
    rw[<-dP,<-q];exact ha
  rw[nd,<-ih];by_cases m:val n∈(List.range n).map val
  ·rw[ZaG (e.mpr m)];constructor
   ·intro h;omega
   ·rintro⟨_,h⟩;exact absurd m h
  ·rw[ZaD (fun z=>m (e.mp z))];constructor
   ·intro h;exact⟨.o,m⟩
   ·rintro⟨h,_⟩;omega
theorem Zbz (ns:List Int):ph ns=ns.length↔ns.Nodup:=by
 unfold ph;rw[Jg];have e:(List.range ns.length).map (fun i=>ns.getD i 0)=ns:=by refine List.ext_getElem (by simp) fun i h1 h2=> ?_;rw[List.getElem_map,List.getElem_range,ZcY,Zax h2,ZeA]
 rw[e]
def rowsOf (xs:List V):List V:=xs.filter fun x=> !decide (x=.ag)
def vR (wd hg:Int):Option (List V)->Bool
 |some xs=>decide ((xs.length:Int)=wd)&&((rowsOf xs).all fun r=>cY r 0 (hg-1))&&decide (rowsOf xs).Nodup
 |none=>false
def cX (H:Hp)(x:V)(wd hg:Int):Prop:=dq H x=some [.int wd,.int hg]/\1<=wd/\wd<=12/\1<=hg/\hg<=12
theorem cX.same {H H':Hp}{x:V}{wd hg:Int}(b:cX H x wd hg)(s:ak H H'):cX H' x wd hg:=⟨s.dq b.1,b.2⟩
theorem cX.is {H:Hp}{x:V}{wd hg:Int}(b:cX H x wd hg):nI (dq H x)=true:=by obtain⟨h,h1,h2,h3,h4⟩:=b;rw[h];show(decide (1<=wd)&&decide (wd<=12)&&(decide (1<=hg)&&decide (hg<=12)))=true;simp[h1,h2,h3,h4]
theorem cX.pl {K:ZgE}{H:Hp}{x:V}{wd hg:Int}(b:cX H x wd hg):xk K H x:=by
 obtain⟨a,rfl,ha⟩:=ZB b.1;refine⟨⟨_,.tup ha⟩,fun xs e y hy=> ?_⟩;rw[b.1]at e;cases e;rcases Zaf.mp hy with z |hy
 ·rw[z];exact⟨_,.int wd⟩
 ·rw[Zar.mp hy];exact⟨_,.int hg⟩
theorem Za8 {xs:List V}{lo hi:Int}(h:(xs.all fun r=>cY r lo hi)=true):∃ns:List Int,xs=ns.map V.int:=by
 induction xs with
 |nil=>exact⟨[],rfl⟩
 |cons x xs ih=>
  rw[List.all_cons,ZaJ]at h;obtain⟨ns,e⟩:=ih h.2;cases x with
  |int i=>exact⟨i::ns,by rw[e];rfl⟩
  |_=>cases h.1
theorem XG (ns:List Int):(ns.map V.int).Nodup↔ns.Nodup:=by
 induction ns with
 |nil=>simp
 |cons n ns ih=>rw[ZaQ,Zcp,Zcp,ih];simp
end
section
variable {P:Program}{w:World}{K:ZgE}{mg:Str->Option Value}{base:Heap}
abbrev zh:Stmt:=top 24
def yj (K:ZgE):Sp:=fun vs H Q _=> ∃x wd hg,vs=[x]/\cX H x wd hg/\∀H',ak H H'->Q .ag H'
theorem LR:aH ["board"] ["board"] (ay zh):=Zz (by decide+kernel)
theorem Zak {f:Addr}{fd:FuncData}(F:aE K "need_board" "need_board" zh f fd)(D1:Def P w K mg base 3 "is_board" ["thing"] (uX K)):aw P w K mg base aF 4 f fd ["board"] (yj K):=by
 refine F.ok LR (fun vs H Q E h=> ?_) (fun cdv A outer s H vs Q E hr h=> ?_)
 ·obtain⟨x,wd,hg,rfl,_⟩:=h;rfl
 ·obtain⟨x,wd,hg,rfl,b,q⟩:=h;refine⟨_,Zg (ZN (Yw (Z0 (Zh D1 hr (Za (pv 0) Zb)))) ZP Zy),?_⟩;refine⟨x,rfl,x,rfl,b.pl,fun H' sm=> ⟨_,rfl,?_⟩⟩;rw[b.is];exact az (q H' sm)
abbrev zp:Stmt:=top 26
def yq (K:ZgE):Sp:=fun vs H Q _=> ∃x y wd hg,vs=[x,y]/\cX H x wd hg/\xk K H y/\∀H',ak H H'->Q (.bl (vR wd hg (dq H y))) H'
theorem u7:aH ["board", "thing", "wide", "high", "rows"] ["board", "thing"] (ay zp):=Zz (by decide+kernel)
theorem Sf {f:Addr}{fd:FuncData}(F:aE K "is_lay" "is_lay" zp f fd)(G:Gs mg)(D1:Def P w K mg base 4 "need_board" ["board"] (yj K))(D2:Def P w K mg base 1 "is_tuple_of" ["thing", "many"] (uI K))
  (D3:Def P w K mg base 2 "is_whole_within" ["thing", "least", "most"] (oW K)):aw P w K mg base aF 5 f fd ["board", "thing"] (yq K):=by
 refine F.ok u7 (fun vs H Q E h=> ?_) (fun cdv A outer s H vs Q E hr h=> ?_)
 ·obtain⟨x,y,wd,hg,rfl,_⟩:=h;rfl
 ·obtain⟨x,y,wd,hg,rfl,b,⟨ty,hy⟩,q⟩:=h;refine⟨_,Ze (ZR (Zh D1 hr (Za (pv 0) Zb)))
   (Ze (Yp (pv 0) (Z3 rfl (Zm (Zx (i:=2) u7.nd rfl (Or.inl rfl)) (Zm (Zx (i:=3) u7.nd rfl (Or.inr rfl)) ZS))))
   (Ze (ZN (Yw (Z0 (Zh D2 (hr.mono .d) (Za (pv 1) (Za (pv 2) Zb))))) (Zg (Zo JG)) Zy)
   (Ze (Y0 ["row"] 1 [] (i:=4) u7.nd rfl (Or.inl rfl) (J0 (pv 1)) (fun C s H fp=>pb 0) (fun C s H fp=>Yk (YM (Wt (pv 0)))) (fun C s H fp D=>cz rfl (pv 0)))
   (Zg (Zo (Jt (Zn Hz rfl G.all boot_all (Za (ZZ ["row", "high"] 1 [3] (ZW (pv 4)) (fun C s H fp=>pb 0) (fun C s H fp=>Z1)
     (fun C s H fp D=>cz rfl (Zh D3 (hr.mono .d) (Za (pv 0) (Za Zf (Za (Zp Yy (pv 1) Zf) Zb)))))) Zb))
    (YN (Y1 We (Zn Ux rfl G.len ZdE (Za (ZD Uv rfl G.set boot_set (Za (pv 4) Zb)) Zb)) (Zn ZG rfl G.len ZdE (Za (pv 4) Zb)) (bJ _))))))))),?_⟩
  refine⟨x,rfl,x,wd,hg,rfl,b,fun H1 s1=> ?_⟩;have b1:=b.same s1;obtain⟨a,rfl,ha⟩:=ZB b1.1;refine⟨_,rfl,a,_,rfl,aq.of ha,rfl,_,_,rfl,_,_,rfl,rfl,?_⟩;refine⟨y,rfl,_,rfl,y,wd,rfl,s1.DO ty,_,rfl,?_⟩;cases e:dq H y with
  |none=>
   have e1:dq H1 y=none:=by
    obtain⟨T,t⟩:=ty;cases t with
    |tup e2=>rw[ZI e2]at e;cases e
    |lst e2=>rw[Yz,s1 _ _ e2];rfl
    |dA e2=>rw[Yz,s1 _ _ e2];rfl
    |dK e2=>rw[Yz,s1 _ _ e2];rfl
    |dT e2=>rw[Yz,s1 _ _ e2];rfl
    |_=>rfl
   rw[e1];rw[e]at q;exact aB (q H1 s1)
  |some xs=>
   have e1:=s1.dq e;rw[e1];rw[e]at q;obtain⟨l,rfl,hl⟩:=ZB e1;by_cases hw:(xs.length:Int)=wd
   ·refine(show if (!decide ((xs.length:Int)=wd))=true then _ else _ from ?_);rw[ZaA hw];refine az ?_;have hwd:=b.2.2.1;have hlen:xs.length<=12:=.o;refine⟨_,rfl,l,rfl,⟨xs,aq.of hl⟩,?_⟩;refine Y9 (xs:=xs) (fun i ys σ H2=>ys=rowsOf (xs.take i)/\H2=H1/\∃v,σ=[v]) ⟨rfl,rfl,none,rfl⟩ (fun i ys σ H2 _ ⟨_,e2,_⟩=>by rw[e2];exact aq.of hl) ?_ ?_
    ·rintro i r ys σ H2 cQ ⟨rfl,rfl,v,rfl⟩;have et:rowsOf (xs.take (i+1))=rowsOf (xs.take i)++(if (!decide (r=V.ag))=true then [r] else []):=by
      unfold rowsOf;rw[ZaT,cQ,Zbo];cases hh:(!decide (r=V.ag)) with
      |true=>simp[hh]
      |false=>simp[hh]
     refine⟨r,rfl,_,rfl,?_⟩;cases hh:(!decide (r=V.ag)) with
     |true=>
      rw[hh]at et;refine aB ?_;refine⟨r,rfl,?_,?_⟩
      ·have:=Zbh (fun x=> !decide (x=V.ag)) (xs.take i);unfold rowsOf;rw[Zaz];rw[ZaW]at this;omega
      ·exact⟨by rw[et,ZaG rfl],rfl,_,rfl⟩
     |false=>rw[hh]at et;exact az ⟨by rw[et,ZaD Zaj,Zbx],rfl,_,rfl⟩
    ·rintro ys σ H2 ⟨rfl,rfl,v,rfl⟩ p hp;rw[ZaH];have hrl:(rowsOf xs).length<=12:=ZaL (Zbh _ _) hlen;have s2:ak H2 (upd H2 p (.lst (rowsOf xs))):=fun b o hb=>by rw[Zi (Zd hb hp)];exact hb
     refine⟨_,rfl,p,rfl,⟨rowsOf xs,ao.of Zc⟩,?_⟩;generalize Fy:upd H2 p (HO.lst (rowsOf xs))=H3 at s2;have jq:H3 p=some (.lst (rowsOf xs)):=by rw[<-Fy];exact Zc
     refine ZQ (xs:=rowsOf xs) (fun i ys σ H4=>ys=((rowsOf xs).take i).map (fun r=>V.bl (cY r 0 (hg-1)))/\H4=H3/\∃v,σ=[v,some (.int hg)]) ⟨rfl,rfl,none,rfl⟩ (fun i ys σ H4 _ ⟨_,e2,_⟩=>by rw[e2];exact ao.of jq) ?_ ?_
     ·rintro i r ys σ H4 cQ ⟨rfl,rfl,v,rfl⟩;have mr:r∈xs:=(ZaK.mp (ZaC cQ)).1;refine⟨r,rfl,_,rfl,_,_,rfl,rfl,r,0,hg-1,rfl,(s1.trans s2).DO (hy xs e r mr),?_,?_⟩
      ·rw[Zae,Zaz,ZaW];omega
      ·refine⟨?_,rfl,_,rfl⟩;rw[ZaT,cQ,ZaF];rfl
     ·rintro ys σ H4 ⟨rfl,rfl,v,rfl⟩ p' AR;rw[ZaH];have s3:∀o,ak H4 (upd H4 p' o):=fun o b u hb=>by rw[Zi (Zd hb AR)];exact hb
      refine⟨p',(rowsOf xs).map (fun r=>cY r 0 (hg-1)),rfl,?_,?_⟩
      ·rw[Zdn];exact ao.of Zc
      ·have QJ:((rowsOf xs).map (fun r=>cY r 0 (hg-1))).all id=(rowsOf xs).all fun r=>cY r 0 (hg-1):=by rw[List.all_map];rfl
       rw[QJ];have QG:vR wd hg (some xs)=(((rowsOf xs).all fun r=>cY r 0 (hg-1))&&decide (rowsOf xs).Nodup):=by show(decide ((xs.length:Int)=wd)&&_&&_)=_;rw[ZaA hw,Zfs]
       rw[QG]at q;refine⟨_,rfl,?_⟩;cases jy:((rowsOf xs).all fun r=>cY r 0 (hg-1)) with
       |false=>rw[jy]at q;exact az (q _ (s1.trans (s2.trans (s3 _))))
       |true=>
        rw[jy,Zfs]at q;obtain⟨ns,en⟩:=Za8 jy;have cA:(upd H4 p' (.lst (((rowsOf xs).map (fun r=>V.bl (cY r 0 (hg-1))))))) p=some (.lst (rowsOf xs)):=s3 _ _ _ jq;refine aB ?_;have hnl:ns.length=(rowsOf xs).length:=by rw[en,Zae]
        refine⟨_,rfl,p,ns,rfl,by rw[<-en];exact ao.of cA,.o,fun q2 S fJ=> ⟨q2,S,ph ns,rfl,Zc,_,rfl,p,rowsOf xs,rfl,.inl (ao.of ?_),rfl,?_⟩⟩
        ·rw[Zi (Zd cA fJ)];exact cA
        ·have ed:decide (V.int (ph ns:Int)=V.int ((rowsOf xs).length:Int))=decide (rowsOf xs).Nodup:=by
          rw[ZfA];rw[en,XG,<-Zbz,Zae];constructor
          ·intro h;injection h with h;omega
          ·intro h;rw[h]
         rw[ed];exact q _ (s1.trans (s2.trans ((s3 _).trans fun b o hb=>by rw[Zi (Zd hb fJ)];exact hb)))
   ·refine(show if (!decide ((xs.length:Int)=wd))=true then _ else _ from ?_);rw[Zav hw];have e3:vR wd hg (some xs)=false:=by show(decide ((xs.length:Int)=wd)&&_&&_)=false;rw[Zav hw,Zf6,Zf6]
    rw[e3]at q;exact aB (q H1 s1)
abbrev zQ:Stmt:=top 65
def yy (K:ZgE):Sp:=fun vs H Q _=> ∃(a:Addr) (ns:List Int) (k:Nat),vs=[.ref a,.int k]/\ao K H a (ns.map V.int)/\∀n:Int,Q (.int n) H
theorem L4:aH ["_law_script", "_law_k"] ["_law_script", "_law_k"] (ay zQ):=Zz (by decide+kernel)
theorem Tr {f:Addr}{fd:FuncData}(F:aE K "_law_cell_at" "_law_cell_at" zQ f fd)(G:Gs mg):aw P w K mg base aF 1 f fd ["_law_script", "_law_k"] (yy K):=by
 refine F.ok L4 (fun vs H Q E h=> ?_) (fun cdv A outer s H vs Q E hr h=> ?_)
 ·obtain⟨a,ns,k,rfl,_⟩:=h;rfl
 ·obtain⟨a,ns,k,rfl,hs,q⟩:=h;refine⟨_,Ze (ZN (ZA Gr (pv 1) (Zn ZG rfl G.len ZdE (Za (pv 0) Zb)) (bJ _)) (Zg (Zo (Zq Zs (pv 0) (pv 1) (fun _ _=>rfl)))) Zy) (Zg (Zo Zf)),?_⟩;refine⟨_,rfl,_,rfl,a,ns.map V.int,rfl,.inl hs,_,_,rfl,rfl,_,rfl,?_⟩;by_cases hk:k<ns.length
  ·rw[ZaA (by rw[Zae];omega)];refine aB ⟨_,rfl,_,rfl,a,ns.map V.int,k,V.int ns[k],rfl,rfl,hs,Ya ?_,q _⟩;rw[Zbi,Zax hk];rfl
  ·rw[Zav (by rw[Zae];omega)];exact az (q 0)
def jG (H:Hp)(p:Addr):Prop:=∃u v:Int,H p=some (.lst [.int u,.int v])/\0<=u/\0<=v/\v<2147483647
abbrev y4:Stmt:=top 66
def yg (K:ZgE):Sp:=fun vs H Q _=> ∃(a:Addr) (ns:List Int) (k:Nat),vs=[.ref a,.int k]/\ao K H a (ns.map V.int)/\∀p H',H p=none->ak H H'->jG H' p->Q (.ref p) H'
theorem Du:aH ["_law_script", "_law_k", "_law_cell"] ["_law_script", "_law_k"] (ay y4):=Zz (by decide+kernel)
theorem XC {f:Addr}{fd:FuncData}(F:aE K "_law_state" "_law_state" y4 f fd)(G:Gs mg)(D1:Def P w K mg base 1 "_law_cell_at" ["_law_script", "_law_k"] (yy K)):aw P w K mg base aF 102 f fd ["_law_script", "_law_k"] (yg K):=by
 refine F.ok Du (fun vs H Q E h=> ?_) (fun cdv A outer s H vs Q E hr h=> ?_)
 ·obtain⟨a,ns,k,rfl,_⟩:=h;rfl
 ·obtain⟨a,ns,k,rfl,hs,q⟩:=h;refine⟨_,Ze (ZF (i:=2) Du.nd rfl (Or.inl rfl) (Zh D1 (hr.mono .d) (Za (pv 0) (Za (pv 1) Zb))))
   (Zg (Zo (ZH (Za (Zn (U1 (hr.hd .d)) rfl G.max boot_max (Za Zf (Za (Zp Yy (pv 2) (Zp Tu Zf Zf)) Zb))) (Za (Zp YO (pv 2) Zf) Zb))))),?_⟩
  refine⟨_,rfl,_,rfl,a,ns,k,rfl,hs,fun n=> ?_⟩;refine⟨_,rfl,_,_,rfl,rfl,⟨.d,.d,.d⟩,_,_,rfl,rfl,_,_,rfl,?_⟩;refine⟨_,rfl,_,_,rfl,rfl,(by show(0:Int)<2147483647;decide),bo,fun p hp=>q p _ hp (fun b o hb=>by rw[Zi (Zd hb hp)];exact hb) ?_⟩;refine⟨_,_,Zc,?_,ZcG _ .d,Zcl _ .d⟩;split<;>omega
abbrev yX:Stmt:=top 67
def rf:Sp:=fun vs H Q _=> ∃(p:Addr) (m:Int),vs=[.ref p,.int m]/\jG H p/\0<m/\m<1000/\∀r o,0<=r->r<m->jG (upd H p o) p->Q (.int r) (upd H p o)
theorem uZ:aH ["_law_state_here", "_law_many", "_law_found", "_law_stirred"] ["_law_state_here", "_law_many"] (ay yX):=Zz (by decide+kernel)
theorem gF {x y:V} :fQ [x,y] 0=some x:=rfl
theorem dE {x y:V} :fQ [x,y] 1=some y:=rfl
theorem VN {f:Addr}{fd:FuncData}(F:aE K "_law_take" "_law_take" yX f fd):aw P w K mg base aF 1 f fd ["_law_state_here", "_law_many"] rf:=by
 refine F.ok uZ (fun vs H Q E h=> ?_) (fun cdv A outer s H vs Q E hr h=> ?_)
 ·obtain⟨p,m,rfl,_⟩:=h;rfl
 ·obtain⟨p,m,rfl,⟨u,v,hp,hu,hv,Oo⟩,hm,eK,q⟩:=h;refine⟨_,Ze (ZN (ZA Y8 (Zq Zs (pv 0) Zf (fun _ _=>rfl)) Zf (bJ _))
    (Ze (ZF (i:=2) uZ.nd rfl (Or.inl rfl) (Zp YO (Zq Zs (pv 0) Zf (fun _ _=>rfl)) (pv 1)))
    (Ze (Yp (Zp Hq (Zq Zs (pv 0) Zf (fun _ _=>rfl)) (pv 1)) (B8 (pv 0) Zf WC)) (Zg (Zo (pv 2))))) Zy)
   (Ze (Yp (Zp YO (Zp Yl (Zp WO (Zq Zs (pv 0) Zf (fun _ _=>rfl)) Zf) Zf) Zf) (B8 (pv 0) Zf WC))
   (Ze (ZF (i:=3) uZ.nd rfl (Or.inl rfl) (Zp YO (Zp Yl (Zp Yl (Zp WO (Zq Zs (pv 0) Zf (fun _ _=>rfl)) (Zq Zs (pv 0) Zf (fun _ _=>rfl))) (Zp WO Zf (Zq Zs (pv 0) Zf (fun _ _=>rfl)))) Zf) Zf))
   (Ze (ZF (i:=3) uZ.nd rfl (Or.inl rfl) (Zp YO (Zp Yl (Zp WO (pv 3) (pv 3)) (Zp WO Zf (pv 3))) Zf))
   (Zg (Zo (Zp YO (Zp Hq (pv 3) Zf) (pv 1))))))),?_⟩
  have s0:=ao.of (K:=K) hp;refine⟨_,rfl,p,_,_,_,rfl,rfl,s0,gF,_,_,rfl,rfl,_,rfl,?_⟩;by_cases h0:0<u
  ·rw[ZaA h0];refine aB ?_;refine⟨_,rfl,p,_,_,_,rfl,rfl,s0,gF,_,rfl,_,_,rfl,rfl,hm,?_⟩;refine⟨_,rfl,p,_,_,_,rfl,rfl,s0,gF,_,rfl,_,_,rfl,rfl,⟨hm,.o⟩,?_⟩;refine⟨_,rfl,p,_,0,0,rfl,rfl,hp,rfl,?_⟩;refine⟨_,rfl,q _ _ (ZcG _ .o) (Zcl _ hm) ?_⟩;exact⟨u/m,v,Zc,Int.ediv_nonneg hu .o,hv,Oo⟩
  ·rw[Zav h0];refine az ?_;refine⟨_,rfl,p,_,_,_,rfl,rfl,s0,dE,_,_,rfl,rfl,.inr ⟨.d,.d⟩,_,_,rfl,rfl,_,_,rfl,rfl,(by show(0:Int)<2147483647;decide),?_⟩;refine⟨_,rfl,p,_,1,1,rfl,rfl,hp,rfl,?_⟩;have b1:0<=((v*48271+29)%2147483647):=ZcG _ .d;have b2:((v*48271+29)%2147483647)<2147483647:=Zcl _ .d;have s1:ao K (upd H p (.lst (([V.int u,V.int v]:List V).set 1 (V.int ((v*48271+29)%2147483647))))) p [.int u,.int ((v*48271+29)%2147483647)]:=ao.of Zc;have lo:∀{t:Int},0<=t-> -(2^64)<t:=fun h=>Int.lt_of_lt_of_le .d h;have hi:∀{t:Int},t<2147483647->t<2^64:=fun h=>Int.lt_trans h .d;refine⟨_,rfl,p,_,_,_,rfl,rfl,s1,dE,_,rfl,p,_,_,_,rfl,rfl,s1,dE,_,_,rfl,rfl,.inl ⟨lo b1,hi b2⟩,?_⟩;refine⟨_,rfl,p,_,_,_,rfl,rfl,s1,dE,_,_,rfl,rfl,.inl ⟨.d,.d⟩,_,_,rfl,rfl,_,_,rfl,rfl,_,_,rfl,rfl,(by show(0:Int)<2147483629;decide),?_⟩;have c1:0<=((((v*48271+29)%2147483647)*((v*48271+29)%2147483647)+39373*((v*48271+29)%2147483647)+7)%2147483629):=ZcG _ .d;have c2:((((v*48271+29)%2147483647)*((v*48271+29)%2147483647)+39373*((v*48271+29)%2147483647)+7)%2147483629)<2147483647:=Int.lt_trans (Zcl _ .d) .d;refine⟨_,rfl,_,rfl,_,_,rfl,rfl,.inl ⟨lo c1,hi c2⟩,_,rfl,_,_,rfl,rfl,.inl ⟨.d,.d⟩,_,_,rfl,rfl,_,_,rfl,rfl,(by show(0:Int)<2147483587;decide),?_⟩;refine⟨_,rfl,_,_,rfl,rfl,⟨.d,.d⟩,_,rfl,_,_,rfl,rfl,hm,?_⟩;refine q _ _ (ZcG _ .o) (Zcl _ hm) ?_;exact⟨u,_,Zc,hu,b1,b2⟩
structure bq (wd hg:Int)(xs:List V):Prop where
 len:(xs.length:Int)=wd
 row:∀r∈rowsOf xs,cY r 0 (hg-1)=true
 nd:(rowsOf xs).Nodup
theorem bq.is {wd hg:Int}{xs:List V}(h:bq wd hg xs):vR wd hg (some xs)=true:=by show(decide ((xs.length:Int)=wd)&&((rowsOf xs).all fun r=>cY r 0 (hg-1))&&decide (rowsOf xs).Nodup)=true;rw[ZaA h.len,ZaA h.nd,Zbm.mpr h.row];rfl
end
section
def gN:V->Option Int
 | .int r=>some r
 |_=>none
def rowAt (xs:List V)(i:Nat):Option Int:=xs[i]?.bind gN
abbrev aC:=Int×Int×Int×Int
def gK (xs:List V)(o l:Nat):Option aC:=(rowAt xs l).bind fun a=> (rowAt xs o).map fun b=> ((o:Int)-l,b-a,(l:Int),(o:Int))
def iI (xs:List V)(o j:Nat):List aC:=(List.range j).filterMap (gK xs o)
def bz (xs:List V)(n:Nat):List aC:=(List.range n).flatMap fun o=>iI xs o o
theorem JE (xs:List V)(o j:Nat):iI xs o (j+1)=iI xs o j++(gK xs o j).toList:=by unfold iI;rw[Zcq,Zex];cases h:gK xs o j<;>simp[h]
theorem Jq (xs:List V)(n:Nat):bz xs (n+1)=bz xs n++iI xs n n:=by unfold bz;rw[Zcq,ZcU];simp
def iB (H:Hp)(v:V)(q:aC):Prop:=∃t t':Addr,v=.ref t/\H t=some (.tup [.ref t',.int q.2.2.1,.int q.2.2.2])/\H t'=some (.tup [.int q.1,.int q.2.1])
theorem iB.x {M:Addr}{H H':Hp}{v:V}{q:aC}(h:iB H v q){ms:List V}(hM:H M=some (.lst ms))(s:aV M H H'):iB H' v q:=by obtain⟨t,t',e,h1,h2⟩:=h;exact⟨t,t',e,s _ _ h1 (Wf h1 hM (by intro z;cases z)),s _ _ h2 (Wf h2 hM (by intro z;cases z))⟩
def j7 (xs:List V):Prop:=∀x∈xs,x=.ag∨∃i,x=.int i
theorem bq.ok {wd hg:Int}{xs:List V}(h:bq wd hg xs):j7 xs:=fun x hx=>by
 by_cases e:x=.ag
 ·exact .inl e
 ·have m:x∈rowsOf xs:=ZaK.mpr ⟨hx,by simp[e]⟩;have q:=h.row x m;cases x with
  |int i=>exact .inr ⟨i,rfl⟩
  |_=>cases q
end
section
variable {P:Program}{w:World}{K:ZgE}{mg:Str->Option Value}{base:Heap}
abbrev zt:Stmt:=top 69
def uQ (K:ZgE):Sp:=fun vs H Q _=> ∃(a:Addr) (xs:List V),vs=[.ref a]/\aq K H a xs/\H a=some (.tup xs)/\j7 xs/\xs.length<=12/\
 ∀(l:Addr) (H':Hp) (rs:List V),ak H H'->H l=none->H' l=some (.lst rs)->Paired (iB H') rs (bz xs xs.length)->Q (.ref l) H'
theorem u9:aH ["_law_lay", "_law_found", "_law_other", "_law_line"] ["_law_lay"] (ay zt):=Zz (by decide+kernel)
theorem XM {f:Addr}{fd:FuncData}(F:aE K "_law_steps" "_law_steps" zt f fd)(G:Gs mg):aw P w K mg base aF 1 f fd ["_law_lay"] (uQ K):=by
 refine F.ok u9 (fun vs H Q E h=> ?_) (fun cdv A outer s H vs Q E hr h=> ?_)
 ·obtain⟨a,xs,rfl,_⟩:=h;rfl
 ·obtain⟨a,xs,rfl,_,ha,vW,hlen,q⟩:=h;refine⟨_,Ze (ZF (i:=1) u9.nd rfl (Or.inl rfl) (ZH Zb))
   (Ze (Yx Zb6 rfl (ZV rfl G.range (Za (Zn ZG rfl G.len ZdE (Za (pv 0) Zb)) Zb)) (Zx (i:=2) u9.nd rfl (Or.inl rfl))
    (Zg (Yx Zb6 rfl (ZV rfl G.range (Za (pv 2) Zb)) (Zx (i:=3) u9.nd rfl (Or.inl rfl))
     (Zg (ZN (PW.pt (Cc (YM (Wt (Zq ZE (pv 0) (pv 3) (fun _ _=>rfl)))) (Cr (YM (Wt (Zq ZE (pv 0) (pv 2) (fun _ _=>rfl)))))))
      (Zg (ZR (Y6 Zb0 Zdk Zdl Jm (pv 1)
       (Za (Zt (Za (Zt (Za (Zp Yy (pv 2) (pv 3)) (Za (Zp Yy (Zq ZE (pv 0) (pv 2) (fun _ _=>rfl)) (Zq ZE (pv 0) (pv 3) (fun _ _=>rfl))) Zb))) (Za (pv 3) (Za (pv 2) Zb)))) Zb)))) Zy)))))
   (Zg (Zo (pv 1)))),?_⟩
  refine⟨ZaP _,fun M hM=> ?_⟩;have s0:ak H (upd H M (.lst [])):=fun c o hc=>by rw[Zi (Zd hc hM)];exact hc
  refine⟨_,rfl,a,xs,rfl,.inr (aq.of (s0 _ _ ha)),(xs.length:Int),rfl,.o,.o,?_⟩;refine Yh (n:=((xs.length:Int)).toNat) (fun i σ H2=> ∃(rs:List V) (x2 x3:Option V),σ=[some (.ref a),some (.ref M),x2,x3]/\ak H H2/\H2 M=some (.lst rs)/\Paired (iB H2) rs (bz xs i)/\rs.length<=i*12)
   ⟨[],none,none,rfl,s0,Zc,.nil,ZaP _⟩ ?_ ?_
  ·rintro i σ H2 hi ⟨rs,x2,x3,rfl,s2,eK,cb,eB⟩;have de:i<xs.length:=.o;refine⟨_,rfl,(0+(i:Int)),rfl,.o,.o,?_⟩;refine Yh (n:=((0:Int)+(i:Int)).toNat) (fun j σ H3=> ∃(rs:List V) (x3:Option V),σ=[some (.ref a),some (.ref M),some (.int (i:Int)),x3]/\ak H H3/\H3 M=some (.lst rs)/\Paired (iB H3) rs (bz xs i++iI xs i j)/\rs.length<=i*12+j)
    ⟨rs,x3,by rw[Zcm];rfl,s2,eK,by simpa[iI] using cb,eB⟩ ?_ ?_
   ·rintro j σ H3 hj ⟨rs,x3,rfl,s3,js,bO,iM⟩;have Pj:j<i:=.o;have wy:=s3 _ _ ha;have A8:j<xs.length:=.o;have ej:fQ xs (0+(j:Int))=some xs[j]:=by rw[Zcm];exact Ya (Zax A8)
    have ei:fQ xs (i:Int)=some xs[i]:=Ya (Zax de);have rj:rowAt xs j=gN xs[j]:=by unfold rowAt;rw[Zax A8];rfl
    have ri:rowAt xs i=gN xs[i]:=by unfold rowAt;rw[Zax de];rfl
    refine⟨_,rfl,_,rfl,a,xs,_,_,rfl,rfl,aq.of wy,ej,_,rfl,?_⟩;have skip:gK xs i j=none->∃(kW:List V) (x3:Option V),([some (.ref a),some (.ref M),some (.int (i:Int)),some (.int (0+(j:Int)))]:L2.St)=[some (.ref a),some (.ref M),some (.int (i:Int)),x3]/\ak H H3/\H3 M=some (.lst kW)/\Paired (iB H3) kW (bz xs i++iI xs i (j+1))/\kW.length<=i*12+(j+1):=fun e=>by refine⟨rs,_,rfl,s3,js,?_,.o⟩;rw[JE,e];simpa using bO
    rcases vW xs[j] (ZeB A8) with nj |⟨vj,nj⟩
    ·rw[nj];exact az (az (skip (by unfold gK;rw[rj,nj];rfl)))
    ·rw[nj];refine aB ?_;refine⟨_,rfl,_,rfl,a,xs,_,_,rfl,rfl,aq.of wy,ei,_,rfl,?_⟩;rcases vW xs[i] (ZeB de) with ni |⟨vi,ni⟩
     ·rw[ni];exact az (skip (by unfold gK;rw[rj,ri,nj,ni];rfl))
     ·rw[ni];refine aB ?_;refine⟨_,rfl,.inl ⟨rfl,_,ao.of js⟩,_,rfl,_,rfl,_,_,rfl,rfl,_,rfl,_,rfl,a,xs,_,_,rfl,rfl,aq.of wy,ei,_,rfl,_,rfl,a,xs,_,_,rfl,rfl,aq.of wy,ej,vi,vj,by rw[ni],by rw[nj],bo,fun t' eA=> ?_⟩;refine⟨_,rfl,_,rfl,ke,fun t ht=> ?_⟩;generalize qw:upd H3 t' (HO.tup [V.int ((i:Int)-(0+(j:Int))),V.int (vi-vj)])=H4 at ht;have s4:ak H3 H4:=fun c o hc=>by rw[<-qw,Zi (Zd hc eA)];exact hc
      have fG:H4 t'=some (.tup [V.int ((i:Int)-(0+(j:Int))),V.int (vi-vj)]):=by rw[<-qw];exact Zc
      generalize lX:upd H4 t (HO.tup [V.ref t',V.int (0+(j:Int)),V.int (i:Int)])=H5;have s5:ak H4 H5:=fun c o hc=>by rw[<-lX,Zi (Zd hc ht)];exact hc
      have qe:H5 t=some (.tup [V.ref t',V.int (0+(j:Int)),V.int (i:Int)]):=by rw[<-lX];exact Zc
      have AY:=s5 _ _ (s4 _ _ js);have sX:aV M H3 (upd H5 M (.lst (rs++[.ref t]))):=(s4.trans s5).x.trans aV.upd;have O3:rs.length<sizeLine:=by rw[Zaz];omega
      refine⟨M,rs,_,rfl,rfl,AY,O3,rs++[.ref t],_,rfl,?_,Zc,?_,by rw[Zam];simp;omega⟩
      ·intro c o hc;have h3:=s3 _ _ hc;exact sX c o h3 (Zd hc hM)
      ·rw[JE,<-Zb7];have es:gK xs i j=some ((i:Int)-j,vi-vj,(j:Int),(i:Int)):=by unfold gK;rw[rj,ri,nj,ni];rfl
       rw[es];refine Zdc (Paired.bj bO fun v q' hq=>hq.x js sX) ⟨t,t',rfl,?_,?_⟩
       ·rw[Zi (Wf qe AY (by intro z;cases z)),qe,Zcm]
       ·have:=s5 _ _ fG;rw[Zi (Wf this AY (by intro z;cases z)),this,Zcm]
   ·rintro σ H3 ⟨rs,x3,rfl,s3,js,bO,iM⟩;have ei:((0:Int)+(i:Int)).toNat=i:=.o;rw[ei]at bO iM;refine⟨rs,_,_,rfl,s3,js,?_,.o⟩;rw[Jq];exact bO
  ·rintro σ H2 ⟨rs,x2,x3,rfl,s2,eK,cb,eB⟩;have e:((xs.length:Int)).toNat=xs.length:=.o;rw[e]at cb;exact⟨_,rfl,q M H2 rs s2 hM eK cb⟩
end
section
def keyOf (q:aC):List Key:=[Sum.inl q.1,Sum.inl q.2.1]
def mq (xs:List V):Bool:=decide ((bz xs xs.length).map keyOf).Nodup
theorem JO (xs:List V):∀n,(bz xs n).length<=n*n
 |0=>ZaP _
 |n+1=>by
  have ih:=JO xs n;have h2:(iI xs n n).length<=n:=by have:=Zd3 (gK xs n) (List.range n);rw[ZcR]at this;exact this
  rw[Jq,Zam,Nat.add_mul,Nat.mul_add];omega
theorem WY (xs:List V)(h:xs.length<=12):(bz xs xs.length).length<=144:=ZaL (JO xs _) (Ze9 h h)
end
section
variable {P:Program}{w:World}{K:ZgE}{mg:Str->Option Value}{base:Heap}
abbrev zq:Stmt:=top 71
def uP:Sp:=fun vs H Q _=> ∃(a:Addr) (xs:List V),vs=[.ref a]/\H a=some (.tup xs)/\j7 xs/\xs.length<=12/\∀H',ak H H'->Q (.bl (mq xs)) H'
theorem rh:aH ["_law_lay", "_law_met", "_law_step", "_law_line", "_law_other"] ["_law_lay"] (ay zq):=Zz (by decide+kernel)
theorem Paired.at {α β:Type}{F:α->β->Prop} :∀{lB:List α}{lA:List β}{i:Nat}{a:α},Paired F lB lA->lB[i]? =some a->∃b,lA[i]? =some b/\F a b
 |_,_,_,_,.nil,e=>by simp at e
 |_,_,0,_,.cons r _,e=>by simp at e;subst e;exact⟨_,rfl,r⟩
 |_,_,i+1,a,.cons _ t,e=>by obtain⟨u,h1,h2⟩:=Paired.at (i:=i) (a:=a) t (by simpa using e);exact⟨u,by simpa using h1,h2⟩
theorem ZbL {f:Addr}{fd:FuncData}(F:aE K "_law_unlike" "_law_unlike" zq f fd)(D1:Def P w K mg base 1 "_law_steps" ["_law_lay"] (uQ K)):aw P w K mg base aF 2 f fd ["_law_lay"] uP:=by
 refine F.ok rh (fun vs H Q E h=> ?_) (fun cdv A outer s H vs Q E hr h=> ?_)
 ·obtain⟨a,xs,rfl,_⟩:=h;rfl
 ·obtain⟨a,xs,rfl,ha,vW,hlen,q⟩:=h;have hu:=W8 hr;refine⟨_,Ze (ZF (i:=1) rh.nd rfl (Or.inl rfl) Xm)
   (Ze (Yx Zb6 rfl (ZW (Zh D1 hr (Za (pv 0) Zb))) (Z3 rfl (Zm (Zx (i:=2) rh.nd rfl (Or.inl rfl)) (Zm (Zx (i:=3) rh.nd rfl (Or.inl rfl)) (Zm (Zx (i:=4) rh.nd rfl (Or.inl rfl)) ZS))))
    (Ze (ZN (YM (Tz hu (pv 2) (pv 1))) (Zg (Zo JG)) Zy) (Zg (Vq hu (pv 1) (pv 2) JG rfl))))
   (Zg (Zo JG))),?_⟩
  intro d hd;have s0:ak H (upd H d (.dT [])):=fun c o hc=>by rw[Zi (Zd hc hd)];exact hc
  have Fn:=s0 _ _ ha;refine⟨_,rfl,a,xs,rfl,aq.of Fn,Fn,vW,hlen,fun l H1 rs s1 hl0 hl pr=> ⟨l,rfl,⟨rs,ao.of hl⟩,?_⟩⟩;have wo:H1 d=some (.dT []):=s1 _ _ Zc;have O8:l≠d:=Wf hl wo (by intro z;cases z);generalize sh:bz xs xs.length=qs at pr;have Ot:mq xs=decide (qs.map keyOf).Nodup:=by unfold mq;rw[sh]
  rw[Ot]at q;have qh:rs.length=qs.length:=Za6 pr;refine HG (K:=K) (a:=l) (xs:=rs) (fun i σ H2=> ∃(ai:List (List Key×V)) (x2 x3 x4:Option V),σ=[some (.ref a),some (.ref d),x2,x3,x4]/\aV d H1 H2/\H2 d=some (.dT ai)/\ai.map (·.1)=(qs.take i).map keyOf/\((qs.take i).map keyOf).Nodup)
   ⟨[],none,none,none,rfl,aV.refl _ _,wo,rfl,List.nodup_nil⟩ (fun i σ H2 _ ⟨_,_,_,_,_,k,_⟩=>ao.of (k _ _ hl O8)) ?_ ?_
  ·rintro i v σ H2 hv ⟨ai,x2,x3,x4,rfl,k2,hd2,qi,kB⟩;obtain⟨qq,hq,t,t',rfl,ht,eA⟩:=Paired.at pr hv;have qf:=k2 _ _ ht (Wf ht wo (by intro z;cases z));have Oz:=k2 _ _ eA (Wf eA wo (by intro z;cases z));have BG:(qs.take (i+1)).map keyOf=(qs.take i).map keyOf++[keyOf qq]:=by rw[ZaT,hq,ZaF];rfl
   have EV:H2 t'=some (.tup ((keyOf qq).map kV)):=Oz;refine⟨t,_,rfl,aq.of qf,rfl,_,_,rfl,_,_,rfl,_,_,rfl,rfl,?_⟩;refine⟨_,rfl,_,rfl,d,_,rfl,ka.t hd2 EV,_,rfl,?_⟩;have hsz:ai.length<sizeLine:=by
    have e1:ai.length=((qs.take i).map keyOf).length:=by rw[<-qi,Zae]
    rw[Zae,ZaW]at e1;have:i<rs.length:=(Zaa.mp hv).1;rw[Zaz];have OO:=WY xs hlen;rw[sh]at OO;omega
   cases e:bD ai (keyOf qq) with
   |some z=>
    refine aB ?_;have m:keyOf qq∈(qs.take i).map keyOf:=by rw[<-qi];exact VG e
    have OU:¬(qs.map keyOf).Nodup:=fun nd=>by
     have e2:qs.map keyOf=(qs.take (i+1)).map keyOf++(qs.drop (i+1)).map keyOf:=by rw[<-ZaF,List.take_append_drop]
     rw[e2,BG]at nd;have:=(Zdj.mp nd).1;exact(Zdj.mp this).2.2 _ m _ (Zar.mpr rfl) rfl
    rw[Zav OU]at q;exact q _ fun c o hc=>k2 c o (s1 _ _ (s0 _ _ hc)) (Zd hc hd)
   |none=>
    refine az ?_;refine⟨_,rfl,_,rfl,d,_,rfl,ur.t hd2 EV hsz,putK ai (keyOf qq) (.bl true),_,_,_,rfl,k2.trans aV.upd,Zc,?_,?_⟩
    ·rw[Xt _ e,ZaF,qi,BG];rfl
    ·rw[BG];exact Hm kB (by rw[<-qi];exact V3 e)
  ·rintro σ H2 ⟨ai,x2,x3,x4,rfl,k2,hd2,qi,kB⟩;rw[qh,ZaH]at kB;rw[ZaA kB]at q;exact q _ fun c o hc=>k2 c o (s1 _ _ (s0 _ _ hc)) (Zd hc hd)
end
section
def Mr (K:ZgE):R2:=fun x y H Q=> ∃a b ys,x=.ref a/\y=.ref b/\aq K H a []/\aq K H b ys/\Q (.ref b) H
def kY (K:ZgE):R2:=fun x y H Q=>Mr K x y H Q∨DJ K x y H Q
theorem Ye {X:Cx} :aZ X (binaryOp .Add) (kY X.K):=Xh.or VO
def br (xs:List V):List (Int×Int):=(List.range xs.length).filterMap fun l=> (rowAt xs l).map fun r=> ((l:Int),r)
def tY (H:Hp)(v:V)(q:Int×Int):Prop:=∃t:Addr,v=.ref t/\H t=some (.tup [.int q.1,.int q.2])
def fo (H:Hp)(v:V)(q:aC):Prop:=∃t:Addr,v=.ref t/\H t=some (.tup [.int q.1,.int q.2.1,.int q.2.2.1,.int q.2.2.2])
theorem tY.same {H H':Hp}{v:V}{q:Int×Int}(h:tY H v q)(s:ak H H'):tY H' v q:=by obtain⟨t,e,h1⟩:=h;exact⟨t,e,s _ _ h1⟩
theorem fo.same {H H':Hp}{v:V}{q:aC}(h:fo H v q)(s:ak H H'):fo H' v q:=by obtain⟨t,e,h1⟩:=h;exact⟨t,e,s _ _ h1⟩
def pairsOf (ps:List (Int×Int))(a:Int×Int)(j:Nat):List aC:=((ps.take j).filter fun b=>decide (a.1<b.1)).map fun b=> (a.1,a.2,b.1,b.2)
def jL (ps:List (Int×Int))(i:Nat):List aC:=(ps.take i).flatMap fun a=>pairsOf ps a ps.length
def cO (ps:List (Int×Int)):List aC:=jL ps ps.length
theorem Zah {ps:List (Int×Int)}{a b:Int×Int}{j:Nat}(h:ps[j]? =some b):pairsOf ps a (j+1)=pairsOf ps a j++(if decide (a.1<b.1)=true then [(a.1,a.2,b.1,b.2)] else []):=by unfold pairsOf;rw[ZaT,h,Zbo,ZaF];cases hh:decide (a.1<b.1)<;>simp_all
theorem Zag {ps:List (Int×Int)}{a:Int×Int}{i:Nat}(h:ps[i]? =some a):jL ps (i+1)=jL ps i++pairsOf ps a ps.length:=by unfold jL;rw[ZaT,h,ZcU];simp
end
section
variable {P:Program}{w:World}{K:ZgE}{mg:Str->Option Value}{base:Heap}
abbrev zg:Stmt:=top 27
def fU (H:Hp)(x y:V)(wd hg:Int)(xs:List V):Prop:=cX H x wd hg/\dq H y=some xs/\bq wd hg xs
theorem fU.same {H H':Hp}{x y:V}{wd hg:Int}{xs:List V}(h:fU H x y wd hg xs)(s:ak H H'):fU H' x y wd hg xs:=⟨h.1.same s,s.dq h.2.1,h.2.2⟩
theorem fU.pl {H:Hp}{x y:V}{wd hg:Int}{xs:List V}(h:fU H x y wd hg xs):xk K H y:=by
 obtain⟨a,rfl,ha⟩:=ZB h.2.1;refine⟨⟨_,.tup ha⟩,fun zs e z hz=> ?_⟩;rw[h.2.1]at e;cases e;rcases h.2.2.ok z hz with rfl |⟨i,rfl⟩
 ·exact⟨_,.ag⟩
 ·exact⟨_,.int i⟩
def o8:Sp:=fun vs H Q _=> ∃x y wd hg xs,vs=[x,y]/\fU H x y wd hg xs/\∀H',ak H H'->Q .ag H'
theorem LQ:aH ["board", "lay"] ["board", "lay"] (ay zg):=Zz (by decide+kernel)
theorem ZbK {f:Addr}{fd:FuncData}(F:aE K "need_lay" "need_lay" zg f fd)(D1:Def P w K mg base 5 "is_lay" ["board", "thing"] (yq K)):aw P w K mg base aF 6 f fd ["board", "lay"] o8:=by
 refine F.ok LQ (fun vs H Q E h=> ?_) (fun cdv A outer s H vs Q E hr h=> ?_)
 ·obtain⟨x,y,wd,hg,xs,rfl,_⟩:=h;rfl
 ·obtain⟨x,y,wd,hg,xs,rfl,l,q⟩:=h;refine⟨_,Zg (ZN (Yw (Z0 (Zh D1 hr (Za (pv 0) (Za (pv 1) Zb))))) ZP Zy),?_⟩;refine⟨x,rfl,y,rfl,x,y,wd,hg,rfl,l.1,l.pl,fun H' sm=> ⟨_,rfl,?_⟩⟩;rw[l.2.1,l.2.2.is];exact az (q H' sm)
def yh:Sp:=fun vs H Q _=> ∃x y wd hg xs,vs=[x,y]/\fU H x y wd hg xs/\∀(l:Addr) (H':Hp) (ps:List V),ak H H'->H l=none->H' l=some (.lst ps)->Paired (tY H') ps (br xs)->Q (.ref l) H'
abbrev ze:Stmt:=top 33
def yi:Sp:=fun vs H Q _=> ∃x y wd hg xs,vs=[x,y]/\fU H x y wd hg xs/\∀(l:Addr) (H':Hp) (ps:List V),ak H H'->H l=none->H' l=some (.lst ps)->Paired (fo H') ps (cO (br xs))->Q (.ref l) H'
theorem Dv:aH ["board", "lay", "found"] ["board", "lay"] (ay ze):=Zz (by decide+kernel)
theorem XB {f:Addr}{fd:FuncData}(F:aE K "point_pairs" "point_pairs" ze f fd)(D1:Def P w K mg base 107 "points" ["board", "lay"] yh):aw P w K mg base aF 108 f fd ["board", "lay"] yi:=by
 refine F.ok Dv (fun vs H Q E h=> ?_) (fun cdv A outer s H vs Q E hr h=> ?_)
 ·obtain⟨x,y,wd,hg,xs,rfl,_⟩:=h;rfl
 ·obtain⟨x,y,wd,hg,xs,rfl,l,q⟩:=h;refine⟨_,Ze (ZF (i:=2) Dv.nd rfl (Or.inr rfl) (Zh D1 hr (Za (pv 0) (Za (pv 1) Zb))))
   (Zg (Zo (ZZ ["line", "row", "other", "there", "found"] 4 [2] (ZW (pv 2))
    (fun C s H fp=>show PG (aK _ _ _ C s H fp) _ (jV K 2 (cH (bQ 0) (cH (bQ 1) jW))) from Z3 rfl (Zm (pb 0) (Zm (pb 1) ZS))) (fun C s H fp=>Z1)
    (fun C s H fp D=>Ie rfl rfl rfl (show PI (aK _ _ _ C s H fp) _ _ (AA K (gf 4)) from ZW (pv 4))
     (show PG (aK _ _ _ C s H fp) _ (jV K 2 (cH (bQ 2) (cH (bQ 3) jW))) from Z3 rfl (Zm (pb 2) (Zm (pb 3) ZS)))
     (Yk (ZA Gr (pv 0) (pv 2) (bJ _))) (cz rfl (Zt (Za (pv 0) (Za (pv 1) (Za (pv 2) (Za (pv 3) Zb)))))) (by intro _;rfl) (by intro g' h;cases h))))),?_⟩
  refine⟨x,rfl,y,rfl,x,y,wd,hg,xs,rfl,l,fun fa H1 ps s1 fK hf pr=> ?_⟩;generalize sh:br xs=qs at pr q;have qh:ps.length=qs.length:=Za6 pr;have aaq:qs.length<=12:=by rw[<-sh];unfold br;have:=Zd3 (fun l:Nat=> (rowAt xs l).map fun r=> ((l:Int),r)) (List.range xs.length);rw[ZcR]at this;have h1:=l.2.2.len;have h2:=l.1.2.2.1;omega
  refine⟨_,rfl,fa,rfl,⟨ps,ao.of hf⟩,?_⟩;refine ZQ (xs:=ps) (fun i ys σ H2=> ∃v0 v1 v2 v3,σ=[v0,v1,v2,v3,some (.ref fa)]/\ak H1 H2/\Paired (fo H2) ys (jL qs i)/\ys.length<=i*12) ⟨_,_,_,_,rfl,ak.refl _,.nil,ZaP _⟩ (fun i ys σ H2 _ ⟨_,_,_,_,_,s2,_⟩=>ao.of (s2 _ _ hf)) ?_ ?_
  ·rintro i v ys σ H2 hv ⟨v0,v1,v2,v3,rfl,s2,cb,eB⟩;obtain⟨a,OM,t,rfl,ht⟩:=Paired.at pr hv;have hi:i<ps.length:=(Zaa.mp hv).1;refine⟨t,_,rfl,aq.of (s2 _ _ ht),rfl,_,_,rfl,_,_,rfl,rfl,?_⟩;refine⟨_,rfl,fa,rfl,⟨ps,ao.of (s2 _ _ hf)⟩,?_⟩;refine ZQ (xs:=ps) (fun j ys σ H3=> ∃v2 v3,σ=[some (.int a.1),some (.int a.2),v2,v3,some (.ref fa)]/\ak H1 H3/\Paired (fo H3) ys (jL qs i++pairsOf qs a j)/\ys.length<=i*12+j) ⟨_,_,rfl,s2,by simpa[pairsOf] using cb,eB⟩ (fun i ys σ H2 _ ⟨_,_,_,s2,_⟩=>ao.of (s2 _ _ hf)) ?_ ?_
   ·rintro j v ys σ H3 gT ⟨v2,v3,rfl,s3,bO,iM⟩;obtain⟨b,OL,t',rfl,eA⟩:=Paired.at pr gT;have hj:j<ps.length:=(Zaa.mp gT).1;have es:=Zah (a:=a) OL;refine⟨t',_,rfl,aq.of (s3 _ _ eA),rfl,_,_,rfl,_,_,rfl,rfl,?_⟩;refine⟨_,rfl,_,rfl,_,_,rfl,rfl,_,rfl,?_⟩;cases hh:decide (a.1<b.1) with
    |true=>
     rw[hh]at es;refine aB ?_;refine⟨_,rfl,_,rfl,_,rfl,_,rfl,ya,fun t4 fG=> ⟨by rw[Zaz];omega,?_⟩⟩;have s4:ak H3 (upd H3 t4 (.tup [.int a.1,.int a.2,.int b.1,.int b.2])):=fun c o hc=>by rw[Zi (Zd hc fG)];exact hc
     refine⟨_,_,rfl,s3.trans s4,?_,by rw[Zam];simp;omega⟩;rw[es,ZaG rfl,<-Zb7];exact Zdc (Paired.bj bO fun v q' hq=>hq.same s4) ⟨t4,rfl,Zc⟩
    |false=>rw[hh]at es;refine az ⟨_,_,rfl,s3,?_,.o⟩;rw[es,ZaD Zaj,Zbx];exact bO
   ·rintro ys σ H3 ⟨v2,v3,rfl,s3,bO,iM⟩;refine⟨_,_,_,_,rfl,s3,?_,.o⟩;rw[Zag OM,<-qh];exact bO
  ·rintro ys σ H2 ⟨v0,v1,v2,v3,rfl,s2,cb,eB⟩ p hp;have s4:ak H2 (upd H2 p (.lst ys)):=fun c o hc=>by rw[Zi (Zd hc hp)];exact hc
   refine q p _ ys (s1.trans (s2.trans s4)) ((s1.trans s2).free hp) Zc ?_;rw[qh]at cb;exact Paired.bj cb fun v q' hq=>hq.same s4
end
section
def vz (xs:List V)(n:Nat):List (Int×Int):=(List.range n).filterMap fun l=> (rowAt xs l).map fun r=> ((l:Int),r)
theorem WL (xs:List V)(n:Nat):vz xs (n+1)=vz xs n++((rowAt xs n).map fun r=> ((n:Int),r)).toList:=by unfold vz;rw[Zcq,Zex];cases h:rowAt xs n<;>simp[h]
end
section
variable {P:Program}{w:World}{K:ZgE}{mg:Str->Option Value}{base:Heap}
abbrev zd:Stmt:=top 31
theorem LP:aH ["board", "lay"] ["board", "lay"] (ay zd):=Zz (by decide+kernel)
theorem XN {f:Addr}{fd:FuncData}(F:aE K "points" "points" zd f fd)(G:Gs mg)(D1:Def P w K mg base 6 "need_lay" ["board", "lay"] o8):aw P w K mg base aF 107 f fd ["board", "lay"] yh:=by
 refine F.ok LP (fun vs H Q E h=> ?_) (fun cdv A outer s H vs Q E hr h=> ?_)
 ·obtain⟨x,y,wd,hg,xs,rfl,_⟩:=h;rfl
 ·obtain⟨x,y,wd,hg,xs,rfl,l,q⟩:=h;refine⟨_,Ze (ZR (Zh D1 (hr.mono .d) (Za (pv 0) (Za (pv 1) Zb))))
   (Zg (Zo (ZZ ["line", "row"] 2 [] (VW (hr.hd .d) rfl G.enumerate (Za (pv 1) Zb))
    (fun C s H fp=>show PG (aK _ _ _ C s H fp) _ (jV K 2 (cH (bQ 0) (cH (bQ 1) jW))) from Z3 rfl (Zm (pb 0) (Zm (pb 1) ZS)))
    (fun C s H fp=>Yk (YM (Wt (pv 1)))) (fun C s H fp D=>cz rfl (Zt (Za (pv 0) (Za (pv 1) Zb))))))),?_⟩
  refine⟨x,rfl,y,rfl,x,y,wd,hg,xs,rfl,l,fun H1 s1=> ?_⟩;obtain⟨a,rfl,ha⟩:=ZB (l.same s1).2.1;have hlen:xs.length<=12:=by have h1:=l.2.2.len;have h2:=l.1.2.2.1;omega
  refine⟨_,rfl,a,rfl,⟨xs,aq.of ha⟩,?_⟩;refine Zc1 (xs:=xs) (fun i ys σ H2=> ∃v0 v1,σ=[v0,v1]/\ak H1 H2/\Paired (tY H2) ys (vz xs i)/\ys.length<=i) ⟨_,_,rfl,ak.refl _,.nil,ZaP _⟩ (fun i ys σ H2 _ ⟨_,_,_,s2,_⟩=>aq.of (s2 _ _ ha)) ?_ ?_
  ·rintro i v T ys σ H2 hv hT ⟨v0,v1,rfl,s2,cb,eB⟩;have hi:i<xs.length:=(Zaa.mp hv).1;have sT:ak H2 (upd H2 T (.par [.int (i:Int),v])):=fun c o hc=>by rw[Zi (Zd hc hT)];exact hc
   have er:rowAt xs i=gN v:=by unfold rowAt;rw[hv];rfl
   refine⟨T,_,rfl,aq.Ab Zc,rfl,_,_,rfl,_,_,rfl,rfl,?_⟩;refine⟨_,rfl,_,rfl,?_⟩;generalize Fy:upd H2 T (HO.par [V.int (i:Int),v])=H3 at sT;rcases l.2.2.ok v (ZaC hv) with rfl |⟨r,rfl⟩
   ·refine az ⟨_,_,rfl,s2.trans sT,?_,.o⟩;rw[WL,er];exact(by simpa[gN] using Paired.bj cb fun v q' hq=>hq.same sT)
   ·refine aB ?_;refine⟨_,rfl,_,rfl,bo,fun t ht=> ⟨by rw[Zaz];omega,?_⟩⟩;have s4:ak H3 (upd H3 t (.tup [.int (i:Int),.int r])):=fun c o hc=>by rw[Zi (Zd hc ht)];exact hc
    refine⟨_,_,rfl,s2.trans (sT.trans s4),?_,by rw[Zam];simp;omega⟩;rw[WL,er];exact Zdc (Paired.bj cb fun v q' hq=>hq.same (sT.trans s4)) ⟨t,rfl,Zc⟩
  ·rintro ys σ H2 ⟨v0,v1,rfl,s2,cb,eB⟩ p hp;have s4:ak H2 (upd H2 p (.lst ys)):=fun c o hc=>by rw[Zi (Zd hc hp)];exact hc
   exact q p _ ys (s1.trans (s2.trans s4)) ((s1.trans s2).free hp) Zc (Paired.bj cb fun v q' hq=>hq.same s4)
end
end U
namespace U
open PySem L2 PyProof.Rows PyProof.Rows.eO
section
def dI (p:aC):aC:=(p.2.2.1-p.1,p.2.2.2-p.2.1,p.1,p.2.2.1)
def oK (ks:List aC):Prop:=(ks.map aS).Pairwise fun a b=>aA b a=false
theorem iB.same {H H':Hp}{v:V}{q:aC}(h:iB H v q)(s:ak H H'):iB H' v q:=by obtain⟨t,t',e,h1,h2⟩:=h;exact⟨t,t',e,s _ _ h1,s _ _ h2⟩
theorem Hv (xs:List V):(br xs).length<=xs.length:=by unfold br;have:=Zd3 (fun l:Nat=> (rowAt xs l).map fun r=> ((l:Int),r)) (List.range xs.length);rw[ZcR]at this;exact this
theorem HD {α β:Type}(f:α->List β)(n:Nat):∀l:List α,(∀a∈l,(f a).length<=n)->(l.flatMap f).length<=l.length*n
 | [],_=>by simp
 |a::l,h=>by have h1:=h a Zai;have h2:=HD f n l fun b hb=>h b (Zad _ hb);rw[Zb9,Zam,ZaE,Nat.succ_mul];omega
theorem UL (ps:List (Int×Int)):(cO ps).length<=ps.length*ps.length:=by unfold cO jL;rw[ZaH];refine HD _ _ _ fun a _=> ?_;unfold pairsOf;rw[Zae];refine ZaL (Zbh ..) ?_;rw[ZaW];exact Nat.min_le_right ..
theorem NN {H:Hp}{x y:V}{wd hg:Int}{xs:List V}(l:fU H x y wd hg xs):xs.length<=12:=by have h1:=l.2.2.len;have h2:=l.1.2.2.1;omega
theorem MH {H:Hp}{x y:V}{wd hg:Int}{xs:List V}(l:fU H x y wd hg xs):(cO (br xs)).length<=144:=by have h1:=UL (br xs);have h2:=Hv xs;have h3:=NN l;have h4:(br xs).length<=12:=.o;have h5:=Ze9 h4 h4;omega
end
section
variable {P:Program}{w:World}{K:ZgE}{mg:Str->Option Value}{base:Heap}
abbrev y3:Stmt:=top 34
def iD (xs:List V):Prop:=(cO (br xs)).length<=63
theorem Hd {xs:List V}(w7:xs.length<=7):iD xs:=by have h1:=UL (br xs);have h2:=Hv xs;have h4:(br xs).length<=7:=.o;have h5:=Ze9 h4 h4;show _<=63;omega
def yf:Sp:=fun vs H Q _=> ∃x y wd hg xs,vs=[x,y]/\fU H x y wd hg xs/\iD xs/\∀(l:Addr) (H':Hp) (rs:List V) (ks:List aC),ak H H'->H l=none->H' l=some (.lst rs)->Paired (iB H') rs ks->ks.Perm ((cO (br xs)).map dI)->oK ks->Q (.ref l) H'
theorem LJ:aH ["board", "lay"] ["board", "lay"] (ay y3):=Zz (by decide+kernel)
theorem XD {f:Addr}{fd:FuncData}(F:aE K "steps" "steps" y3 f fd)(G:Gs mg)(D1:Def P w K mg base 108 "point_pairs" ["board", "lay"] yi):aw P w K mg base aF 109 f fd ["board", "lay"] yf:=by
 refine F.ok LJ (fun vs H Q E h=> ?_) (fun cdv A outer s H vs Q E hr h=> ?_)
 ·obtain⟨x,y,wd,hg,xs,rfl,_⟩:=h;rfl
 ·obtain⟨x,y,wd,hg,xs,rfl,l,w7,q⟩:=h;have hu:=hr.units;refine⟨_,Zg (Zo (Zn (Uu (ZdB (ZdX (by decide:2<=64) _) hu)) rfl G.sorted PyProof.Rows.Boot.«sorted» (Za (ZZ ["line", "row", "other", "there"] 4 [] (ZW (Zh D1 hr (Za (pv 0) (Za (pv 1) Zb))))
    (fun C s H fp=>show PG (aK _ _ _ C s H fp) _ (jV K 4 (cH (bQ 0) (cH (bQ 1) (cH (bQ 2) (cH (bQ 3) jW))))) from Z3 rfl (Zm (pb 0) (Zm (pb 1) (Zm (pb 2) (Zm (pb 3) ZS))))) (fun C s H fp=>Z1)
    (fun C s H fp D=>cz rfl (Zt (Za (Zt (Za (Zp Yy (pv 2) (pv 0)) (Za (Zp Yy (pv 3) (pv 1)) Zb))) (Za (pv 0) (Za (pv 2) Zb)))))) Zb))),?_⟩
  refine⟨x,rfl,y,rfl,x,y,wd,hg,xs,rfl,l,fun fa H1 ps s1 fK hf pr=> ?_⟩;have hlen:(cO (br xs)).length<=63:=w7;generalize sh:cO (br xs)=qs at pr q hlen;have qh:ps.length=qs.length:=Za6 pr;refine⟨fa,rfl,⟨ps,ao.of hf⟩,?_⟩;refine ZQ (xs:=ps) (fun i ys σ H2=> ∃v0 v1 v2 v3,σ=[v0,v1,v2,v3]/\ak H1 H2/\Paired (iB H2) ys ((qs.take i).map dI)/\ys.length<=i) ⟨_,_,_,_,rfl,ak.refl _,.nil,ZaP _⟩ (fun i ys σ H2 _ ⟨_,_,_,_,_,s2,_⟩=>ao.of (s2 _ _ hf)) ?_ ?_
  ·rintro i v ys σ H2 hv ⟨v0,v1,v2,v3,rfl,s2,cb,eB⟩;obtain⟨⟨a,b,c,d⟩,hq,tt,rfl,AJ⟩:=JF pr hv;have hi:i<ps.length:=(Zaa.mp hv).1;refine⟨tt,_,rfl,aq.of (s2 _ _ AJ),rfl,_,_,rfl,_,_,rfl,_,_,rfl,_,_,rfl,rfl,?_⟩;refine⟨_,rfl,_,rfl,c,a,rfl,rfl,_,rfl,_,rfl,d,b,rfl,rfl,bo,fun t' eA=> ?_⟩;refine⟨_,rfl,_,rfl,ke,fun t ht=> ⟨by rw[Zaz];omega,?_⟩⟩;generalize qw:upd H2 t' (HO.tup [V.int (c-a),V.int (d-b)])=H4 at ht;have s4:ak H2 H4:=fun e o hc=>by rw[<-qw,Zi (Zd hc eA)];exact hc
   have fG:H4 t'=some (.tup [V.int (c-a),V.int (d-b)]):=by rw[<-qw];exact Zc
   generalize lX:upd H4 t (HO.tup [V.ref t',V.int a,V.int c])=H5;have s5:ak H4 H5:=fun e o hc=>by rw[<-lX,Zi (Zd hc ht)];exact hc
   have qe:H5 t=some (.tup [V.ref t',V.int a,V.int c]):=by rw[<-lX];exact Zc
   refine⟨_,_,_,_,rfl,s2.trans (s4.trans s5),?_,by rw[Zam];simp;omega⟩;rw[ZaT,hq,ZaF];exact Zdc (Paired.bj cb fun v q' hq=>hq.same (s4.trans s5)) ⟨t,t',rfl,qe,s5 _ _ fG⟩
  ·rintro ys σ H2 ⟨v0,v1,v2,v3,rfl,s2,cb,eB⟩ p hp;have s4:ak H2 (upd H2 p (.lst ys)):=fun c o hc=>by rw[Zi (Zd hc hp)];exact hc
   rw[qh,ZaH]at cb;refine⟨p,ys,qs.map dI,rfl,ao.of Zc,Paired.bj cb fun v q' hq=>hq.same s4,.o,fun r bR eZ sg vZ AM bO=> ?_⟩;have s5:ak (upd H2 p (.lst ys)) (upd (upd H2 p (.lst ys)) r (.lst bR)):=fun c o hc=>by rw[Zi (Zd hc sg)];exact hc
   exact q r _ bR eZ (s1.trans (s2.trans (s4.trans s5))) ((s1.trans (s2.trans s4)).free sg) Zc (Paired.bj bO fun v q' hq=>iB.same hq s5) vZ AM
end
section
theorem Yq (a b:Int)(l m:List Int):aA (a::l) (b::m)=true↔a<b∨(a=b/\aA l m=true):=by
 have z:aA (a::l) (b::m)=if a=b then aA l m else decide (a<b):=rfl
 rw[z];by_cases e:a=b
 ·rw[ZaG e];constructor
  ·exact fun h=> .inr ⟨e,h⟩
  ·rintro(h |h)
   ·omega
   ·exact h.2
 ·rw[ZaD e,Za5];constructor
  ·exact fun h=> .inl h
  ·rintro(h |h)
   ·exact h
   ·exact absurd h.1 e
theorem YF:aA [] []=true↔False:=by simp[aA]
def dm (a b:aC):Prop:=a.1=b.1/\a.2.1=b.2.1
instance (a b:aC):Decidable (dm a b):=inferInstanceAs (Decidable (_/\_))
def four (a b:aC):aC:=(a.2.2.1,a.2.2.2,b.2.2.1,b.2.2.2)
def gR (a b:aC):Bool:=aA [a.2.2.1,a.2.2.2] [b.2.2.1,b.2.2.2]
def eI (S:List aC):Option aC->Prop
 |none=> ∀a∈S,∀b∈S,dm a b->gR a b=false
 |some k=> (∃a∈S,∃b∈S,dm a b/\gR a b=true/\k=four a b)/\∀a∈S,∀b∈S,dm a b->gR a b=true->aA (aS (four a b)) (aS k)=false
theorem eI.unique {S S':List aC}(hm:∀x,x∈S↔x∈S'):∀{r r':Option aC},eI S r->eI S' r'->r=r'
 |none,none,_,_=>rfl
 |none,some k,h,h'=>by obtain⟨⟨a,ha,b,hb,s,l,_⟩,_⟩:=h';have:=h a ((hm a).mpr ha) b ((hm b).mpr hb) s;rw[l]at this;cases this
 |some k,none,h,h'=>by obtain⟨⟨a,ha,b,hb,s,l,_⟩,_⟩:=h;have:=h' a ((hm a).mp ha) b ((hm b).mp hb) s;rw[l]at this;cases this
 |some k,some k',h,h'=>by obtain⟨⟨a,ha,b,hb,s,l,e⟩,h2⟩:=h;obtain⟨⟨a',sP,b',dP,s',l',e'⟩,om⟩:=h';have q1:=h2 a' ((hm a').mpr sP) b' ((hm b').mpr dP) s' l';have q2:=om a ((hm a).mp ha) b ((hm b).mp hb) s l;rw[<-e']at q1;rw[<-e]at q2;rw[Ir (Cn _ _ q1 q2)]
def l9 (ks:List aC):List (aC×aC):=ks.zip (ks.drop 1)
def jh (ks:List aC):List aC:=((l9 ks).filter fun p=>decide (dm p.1 p.2)).map fun p=>four p.1 p.2
theorem nf {b:Bool} :b=false↔¬b=true:=by cases b<;>simp
theorem mid {h d b:aC}(h1:aA (aS d) (aS h)=false)(h2:aA (aS b) (aS d)=false)(s:dm h b):dm h d/\aA (aS (four h b)) (aS (four h d))=false:=by
 unfold aS at *
 unfold dm at *
 unfold four;rw[nf]at *
 simp only[Yq,YF,Zfj,ZdD,false_or]at *
 omega
theorem GF {a b:aC}(s:dm a b):aA (aS a) (aS b)=true↔gR a b=true:=by
 unfold aS gR dm at *
 simp only[Yq,YF,Zfj,ZdD]at *
 omega
theorem GI {ks:List aC}(hr:oK ks):∀a∈ks,∀b∈ks,dm a b->gR a b=true->∃p∈l9 ks,dm p.1 p.2/\aA (aS (four a b)) (aS (four p.1 p.2))=false:=by
 induction ks with
 |nil=>intro a ha;cases ha
 |cons h r ih=>
  have cQ:oK r:=(Zcn.mp hr).2;have hh:∀d∈r,aA (aS d) (aS h)=false:=fun d hd=> (Zcn.mp hr).1 _ (Zb4 hd);intro a ha b hb s l;have kl:=(GF s).mpr l;rcases Zaf.mp ha with rfl |sP
  ·have dP:b∈r:=by
    rcases Zaf.mp hb with rfl |hb
    ·have:=YX _ _ kl;rw[kl]at this;cases this
    ·exact hb
   cases r with
   |nil=>cases dP
   |cons d r'=>
    have gz:aA (aS b) (aS d)=false:=by
     rcases Zaf.mp dP with rfl |jU
     ·cases hx:aA (aS b) (aS b) with
      |false=>rfl
      |true=>have:=YX _ _ hx;rw[hx]at this;cases this
     ·exact(Zcn.mp cQ).1 _ (Zb4 jU)
    obtain⟨m1,m2⟩:=mid (hh d Zai) gz s;exact⟨(a,d),Zai,m1,m2⟩
  ·have dP:b∈r:=by
    rcases Zaf.mp hb with rfl |hb
    ·have:=hh a sP;rw[kl]at this;cases this
    ·exact hb
   obtain⟨p,hp,q1,q2⟩:=ih cQ a sP b dP s l;refine⟨p,?_,q1,q2⟩;cases r with
   |nil=>cases sP
   |cons d r'=>exact Zad _ hp
theorem SM {ks:List aC}(hr:oK ks)(hn:ks.Nodup):∀p∈l9 ks,dm p.1 p.2->p.1∈ks/\p.2∈ks/\gR p.1 p.2=true:=by
 induction ks with
 |nil=>intro p hp;cases hp
 |cons h r ih=>
  have cQ:oK r:=(Zcn.mp hr).2;have hh:∀d∈r,aA (aS d) (aS h)=false:=fun d hd=> (Zcn.mp hr).1 _ (Zb4 hd);have su:=(Zcp.mp hn);intro p hp s;cases r with
  |nil=>cases hp
  |cons d r'=>
   rcases Zaf.mp (show p∈(h,d)::l9 (d::r') from hp) with rfl |hp
   ·refine⟨Zai,Zad _ Zai,(GF s).mp ?_⟩;cases hx:aA (aS h) (aS d) with
    |true=>rfl
    |false=>have e:=Ir (Cn _ _ hx (hh d Zai));rw[e]at su;exact absurd Zai su.1
   ·obtain⟨q1,q2,q3⟩:=ih cQ su.2 p hp s;exact⟨Zad _ q1,Zad _ q2,q3⟩
theorem J8 {ks:List aC}{k:aC} :k∈jh ks↔∃p∈l9 ks,dm p.1 p.2/\four p.1 p.2=k:=by
 unfold jh;rw[Za0];constructor
 ·rintro⟨p,hp,e⟩;rw[ZaK,Za5]at hp;exact⟨p,hp.1,hp.2,e⟩
 ·rintro⟨p,hp,s,e⟩;exact⟨p,ZaK.mpr ⟨hp,ZaA s⟩,e⟩
theorem ZbY {ks:List aC}(hr:oK ks)(h:jh ks=[]):eI ks none:=fun a ha b hb s=>by
 cases hl:gR a b with
 |false=>rfl
 |true=>obtain⟨p,hp,q,_⟩:=GI hr a ha b hb s hl;have:four p.1 p.2∈jh ks:=J8.mpr ⟨p,hp,q,rfl⟩;rw[h]at this;cases this
theorem ZbX {ks:List aC}(hr:oK ks)(hn:ks.Nodup){k:aC}(hk:k∈jh ks)(hm:∀k'∈jh ks,aA (aS k') (aS k)=false):eI ks (some k):=by obtain⟨p,hp,s,e⟩:=J8.mp hk;obtain⟨m1,m2,m3⟩:=SM hr hn p hp s;refine⟨⟨p.1,m1,p.2,m2,s,m3,e.symm⟩,fun a ha b hb s' l=> ?_⟩;obtain⟨p',AR,q1,q2⟩:=GI hr a ha b hb s' l;exact Jb _ _ _ (hm _ (J8.mpr ⟨p',AR,q1,rfl⟩)) q2
def CJ (xs:List V)(q:aC):Prop:=∃l o:Nat,l<o/\o<xs.length/\gK xs o l=some q
theorem YK {xs:List V}{p:Int×Int} :p∈br xs↔∃l:Nat,l<xs.length/\rowAt xs l=some p.2/\p.1=(l:Int):=by
 unfold br;rw[Zck];constructor
 ·rintro⟨l,hl,e⟩;rw[Za2]at e;obtain⟨r,hr,rfl⟩:=e;exact⟨l,ZbC.mp hl,hr,rfl⟩
 ·rintro⟨l,hl,hr,e⟩;refine⟨l,ZbC.mpr hl,?_⟩;rw[hr,ZdL,<-e]
theorem JK {xs:List V}{q:aC} :q∈bz xs xs.length↔CJ xs q:=by
 unfold bz iI CJ;simp only[Zdr,Zck,ZbC];constructor
 ·rintro⟨o,ho,l,hl,e⟩;exact⟨l,o,hl,ho,e⟩
 ·rintro⟨l,o,hl,ho,e⟩;exact⟨o,ho,l,hl,e⟩
theorem Yg {xs:List V}{o l:Nat}{q:aC} :gK xs o l=some q↔∃a b,rowAt xs l=some a/\rowAt xs o=some b/\q=((o:Int)-l,b-a,(l:Int),(o:Int)):=by
 unfold gK;cases h1:rowAt xs l with
 |none=>simp
 |some a=>
  cases h2:rowAt xs o with
  |none=>simp
  |some b=>
   simp only[Option.bind_some,ZdL,Option.some.injEq];constructor
   ·rintro rfl;exact⟨a,b,rfl,rfl,rfl⟩
   ·rintro⟨_,_,rfl,rfl,rfl⟩;rfl
theorem Vn {xs:List V}{q:aC} :q∈(cO (br xs)).map dI↔CJ xs q:=by
 unfold cO jL;rw[ZaH];simp only[Za0,Zdr,pairsOf,ZaH,ZaK,Za5];constructor
 ·rintro⟨_,⟨a,ha,b,⟨hb,aI⟩,rfl⟩,rfl⟩;obtain⟨l,hl,hr,e⟩:=YK.mp ha;obtain⟨o,ho,cQ,e'⟩:=YK.mp hb;refine⟨l,o,.o,ho,Yg.mpr ⟨a.2,b.2,hr,cQ,?_⟩⟩;unfold dI;rw[e,e']
 ·rintro⟨l,o,hl,ho,e⟩;obtain⟨a,b,h1,h2,rfl⟩:=Yg.mp e;exact⟨((l:Int),a,(o:Int),b),⟨((l:Int),a),YK.mpr ⟨l,.o,h1,rfl⟩,((o:Int),b),⟨YK.mpr ⟨o,ho,h2,rfl⟩,by show(l:Int)< (o:Int);omega⟩,rfl⟩,rfl⟩
theorem J6 (xs:List V)(n:Nat):(bz xs n).Nodup:=by
 unfold bz;rw[Zbb,Zey];refine⟨fun o _=> ?_,?_⟩
 ·unfold iI;rw[Zea];refine Zct ?_ (Zbb.mp ZfC);intro l l' bW q hq q' bU e;obtain⟨_,_,_,_,rfl⟩:=Yg.mp hq;obtain⟨_,_,_,_,rfl⟩:=Yg.mp bU;simp only[ZeK]at e;omega
 ·refine Zct ?_ (Zbb.mp ZfC);intro o o' bW q hq q' bU e;unfold iI at hq bU;rw[Zck]at hq bU;obtain⟨l,_,hq⟩:=hq;obtain⟨l',_,bU⟩:=bU;obtain⟨_,_,_,_,rfl⟩:=Yg.mp hq;obtain⟨_,_,_,_,rfl⟩:=Yg.mp bU;simp only[ZeK]at e;omega
theorem G4 (xs:List V):(br xs).Pairwise fun a b=>a.1≠b.1:=by unfold br;rw[Zea];refine Zct ?_ (Zbb.mp ZfC);intro l l' bW q hq q' bU;rw[Za2]at hq bU;obtain⟨_,_,rfl⟩:=hq;obtain⟨_,_,rfl⟩:=bU;show(l:Int)≠(l':Int);omega
theorem WP (xs:List V):((cO (br xs)).map dI).Nodup:=by
 unfold cO jL;rw[ZaH,Zbb,ZcD,Zey];refine⟨fun a _=> ?_,?_⟩
 ·unfold pairsOf;rw[ZaH,ZcD];refine Zct ?_ ((G4 xs).filter _);intro b b' bW e;unfold dI at e;simp only[ZeK]at e;exact bW e.2.2.2
 ·refine Zct ?_ (G4 xs);intro a a' bW q hq q' bU e;unfold pairsOf at hq bU;rw[Za0]at hq bU;obtain⟨b,_,rfl⟩:=hq;obtain⟨b',_,rfl⟩:=bU;unfold dI at e;simp only[ZeK]at e;exact bW e.2.2.1
theorem Yf (xs:List V):((cO (br xs)).map dI).Perm (bz xs xs.length):=
 (List.perm_ext_iff_of_nodup (WP xs) (J6 xs _)).mpr fun q=>Vn.trans JK.symm
theorem Rv (vs:List V):dh vs (some 1) none=vs.drop 1:=by
 unfold dh HT.aJ;cases vs with
 |nil=>rfl
 |cons a r=>simp
def pW (ks:List aC)(i:Nat):List aC:=(((l9 ks).take i).filter fun p=>decide (dm p.1 p.2)).map fun p=>four p.1 p.2
theorem Zan {ks:List aC}{i:Nat}{a b:aC}(h1:ks[i]? =some a)(h2:(ks.drop 1)[i]? =some b):pW ks (i+1)=pW ks i++(if decide (dm a b)=true then [four a b] else []):=by have e:(l9 ks)[i]? =some (a,b):=List.getElem?_zip_eq_some.mpr ⟨h1,h2⟩;unfold pW;rw[ZaT,e,Zbo,ZaF];by_cases h:dm a b<;>simp[h]
def aad (H:Hp)(v:V):Option aC->Prop
 |none=>v=.ag
 |some k=>fo H v k
end
section
variable {P:Program}{w:World}{K:ZgE}{mg:Str->Option Value}{base:Heap}
abbrev zK:Stmt:=top 35
def uV:Sp:=fun vs H Q _=> ∃x y wd hg xs,vs=[x,y]/\fU H x y wd hg xs/\iD xs/\∀(H':Hp) (v:V) (r:Option aC),ak H H'->eI (bz xs xs.length) r->aad H' v r->Q v H'
theorem yF:aH ["board", "lay", "told", "likes"] ["board", "lay"] (ay zK):=Zz (by decide+kernel)
theorem Xz {f:Addr}{fd:FuncData}(F:aE K "first_like" "first_like" zK f fd)(G:Gs mg)(D1:Def P w K mg base 109 "steps" ["board", "lay"] yf):aw P w K mg base aF 110 f fd ["board", "lay"] uV:=by
 refine F.ok yF (fun vs H Q E h=> ?_) (fun cdv A outer s H vs Q E hr h=> ?_)
 ·obtain⟨x,y,wd,hg,xs,rfl,_⟩:=h;rfl
 ·obtain⟨x,y,wd,hg,xs,rfl,l,w7,q⟩:=h;have hu:=W8 hr;refine⟨_,Ze (ZF (i:=2) yF.nd rfl (Or.inl rfl) (Zh D1 hr (Za (pv 0) (Za (pv 1) Zb))))
   (Ze (Y0 ["step", "line", "other", "beside", "here", "there"] 6 [] (i:=3) yF.nd rfl (Or.inl rfl) (Vp (hr.hd .d) rfl G.zip (Za (pv 2) (Za (ZX Wr (pv 2) (Z2 Zf) Z8) Zb)))
    (fun C s H fp=>show PG (aK _ _ _ C s H fp) _ (jV K 2 (cH (jV K 3 (cH (bQ 0) (cH (bQ 1) (cH (bQ 2) jW)))) (cH (jV K 3 (cH (bQ 3) (cH (bQ 4) (cH (bQ 5) jW)))) jW))) from
     Z3 rfl (Zm (Z3 rfl (Zm (pb 0) (Zm (pb 1) (Zm (pb 2) ZS)))) (Zm (Z3 rfl (Zm (pb 3) (Zm (pb 4) (Zm (pb 5) ZS)))) ZS)))
    (fun C s H fp=>Yk (ZA (show aZ (aK _ _ _ C s H fp) (compareOp .Eq) (fun x y H Q=> ∃(a b:Addr) (ns ms:List Int),x=.ref a/\y=.ref b/\aq K H a (ns.map V.int)/\aq K H b (ms.map V.int)/\Q (.bl (decide (ns=ms))) H) from Ho hr.xH) (pv 0) (pv 3) (bJ _)))
    (fun C s H fp D=>cz rfl (Zt (Za (pv 1) (Za (pv 2) (Za (pv 4) (Za (pv 5) Zb)))))))
   (Zg (Zo (VS (hr.hd .d) hu rfl G.min (pv 3))))),?_⟩
  refine⟨x,rfl,y,rfl,x,y,wd,hg,xs,rfl,l,w7,fun fa H1 ps ks s1 fK hf pr perm rise=> ?_⟩;have O5:ps.length=ks.length:=Za6 pr;have hlen:ks.length<=144:=by rw[perm.length_eq,Zae];exact MH l
  refine⟨_,rfl,_,rfl,_,rfl,fa,ps,rfl,ao.of hf,fun c hc=> ?_⟩;generalize jz:upd H1 c (HO.lst (dh ps (some 1) none))=H2;have s2:ak H1 H2:=fun b o hb=>by rw[<-jz,Zi (Zd hb hc)];exact hb
  have df:H2 c=some (.lst (ps.drop 1)):=by rw[<-jz,Rv];exact Zc
  have Fe:=s2 _ _ hf;refine⟨fa,c,rfl,⟨_,_,ao.of Fe,ao.of df⟩,?_⟩;refine XE (xs:=ps) (zs:=ps.drop 1) (fun i ys σ H3=> ∃v0 v1 v2 v3 v4 v5,σ=[v0,v1,v2,v3,v4,v5]/\ak H2 H3/\Paired (fo H3) ys (pW ks i)/\ys.length<=i) ⟨_,_,_,_,_,_,rfl,ak.refl _,.nil,ZaP _⟩
   (fun i ys σ H3 _ ⟨_,_,_,_,_,_,_,s3,_⟩=> ⟨ao.of (s3 _ _ Fe),ao.of (s3 _ _ df)⟩) ?_ ?_
  ·rintro i va vb T ys σ H3 Ez Om hT ⟨v0,v1,v2,v3,v4,v5,rfl,s3,bO,iM⟩;have hi:i<ps.length:=(Zaa.mp Ez).1;obtain⟨a,Ph,ta,KA,rfl,Oy,Ox⟩:=JF pr Ez;have Ol:ps[1+i]? =some vb:=by rw[<-List.getElem?_drop];exact Om
   obtain⟨b,jR,tb,Kv,rfl,r6,Ow⟩:=JF pr Ol;have Pf:(ks.drop 1)[i]? =some b:=by rw[List.getElem?_drop];exact jR
   have es:=Zan Ph Pf;have sT:ak H3 (upd H3 T (.par [.ref ta,.ref tb])):=fun e o hc=>by rw[Zi (Zd hc hT)];exact hc
   have sA:ak H1 (upd H3 T (.par [.ref ta,.ref tb])):=s2.trans (s3.trans sT);refine⟨T,_,rfl,aq.Ab Zc,rfl,_,_,rfl,ta,_,rfl,aq.of (sA _ _ Oy),rfl,_,_,rfl,_,_,rfl,_,_,rfl,rfl,_,_,rfl,tb,_,rfl,aq.of (sA _ _ r6),rfl,_,_,rfl,_,_,rfl,_,_,rfl,rfl,rfl,?_⟩;generalize qw:upd H3 T (HO.par [V.ref ta,V.ref tb])=H4 at sT sA;refine⟨_,rfl,_,rfl,KA,Kv,[a.1,a.2.1],[b.1,b.2.1],rfl,rfl,aq.of (sA _ _ Ox),aq.of (sA _ _ Ow),_,rfl,?_⟩;by_cases hs:dm a b
   ·rw[ZaA hs,ZaG rfl]at es;have ed:decide ([a.1,a.2.1]=[b.1,b.2.1])=true:=ZaA (by rw[hs.1,hs.2]);rw[ed];refine aB ?_;refine⟨_,rfl,_,rfl,_,rfl,_,rfl,ya,fun t4 fG=> ⟨by rw[Zaz];omega,?_⟩⟩;generalize lX:upd H4 t4 (HO.tup [V.int a.2.2.1,V.int a.2.2.2,V.int b.2.2.1,V.int b.2.2.2])=H5;have s5:ak H4 H5:=fun e o hc=>by rw[<-lX,Zi (Zd hc fG)];exact hc
    refine⟨_,_,_,_,_,_,rfl,s3.trans (sT.trans s5),?_,by rw[Zam];simp;omega⟩;rw[es];exact Zdc (Paired.bj bO fun v q' hq=>hq.same (sT.trans s5)) ⟨t4,rfl,by rw[<-lX];exact Zc⟩
   ·rw[Zav hs,ZaD Zaj,Zbx]at es;have ed:decide ([a.1,a.2.1]=[b.1,b.2.1])=false:=Zav (fun e=>hs (by simp only[ZfT,and_true]at e;exact e));rw[ed];refine az ⟨_,_,_,_,_,_,rfl,s3.trans sT,?_,.o⟩;rw[es];exact Paired.bj bO fun v q' hq=>hq.same sT
  ·rintro ys σ H3 ⟨v0,v1,v2,v3,v4,v5,rfl,s3,bO,iM⟩ p hp;have s4:ak H3 (upd H3 p (.lst ys)):=fun e o hc=>by rw[Zi (Zd hc hp)];exact hc
   have et:pW ks (min ps.length (ps.drop 1).length)=jh ks:=by unfold pW jh;rw[ZcW];unfold l9;rw[List.length_zip,Zcz,Zcz,O5];exact Zaq _
   rw[et]at bO;have kr:Paired (fo (upd H3 p (.lst ys))) ys (jh ks):=Paired.bj bO fun v q' hq=>hq.same s4;have sA:ak H (upd H3 p (.lst ys)):=s1.trans (s2.trans (s3.trans s4));have ik:∀z,z∈ks↔z∈bz xs xs.length:=fun z=> (perm.trans (Yf xs)).mem_iff;have jQ:ks.Nodup:=(perm.trans (Yf xs)).nodup_iff.mpr (J6 xs _);have conv:∀r,eI ks r->eI (bz xs xs.length) r:=fun r hr=>by
    cases r with
    |none=>exact fun a ha b hb s=>hr a ((ik a).mpr ha) b ((ik b).mpr hb) s
    |some k=>obtain⟨⟨a,ha,b,hb,w⟩,h2⟩:=hr;exact⟨⟨a,(ik a).mp ha,b,(ik b).mp hb,w⟩,fun a ha b hb s l=>h2 a ((ik a).mpr ha) b ((ik b).mpr hb) s l⟩
   refine⟨_,rfl,p,ys,(jh ks).map aS,rfl,ao.of Zc,?_,fun e=> ?_,fun v k hv hk lJ O1=> ?_⟩
   ·have:∀{ys:List V}{ls:List aC},Paired (fo (upd H3 p (.lst ys))) ys ls->Paired (iA (upd H3 p (.lst ys))) ys (ls.map aS):=by
     intro ys ls h;generalize (upd H3 p (.lst ys))=H9 at h
     induction h with
     |nil=>exact .nil
     |cons h1 _ ih=>exact .cons h1 ih
    exact this kr
   ·subst e;have el:jh ks=[]:=by have:=Za6 kr;exact List.length_eq_zero_iff.mp this.symm
    exact q _ .ag none sA (conv _ (ZbY rise el)) rfl
   ·obtain⟨k4,A7,rfl⟩:=Za0.mp hk;exact q _ v (some k4) sA (conv _ (ZbX rise jQ A7 fun k' cj=>O1 _ (Zb4 cj))) lJ
abbrev yS:Stmt:=top 36
def uH:Sp:=fun vs H Q _=> ∃x y wd hg xs,vs=[x,y]/\fU H x y wd hg xs/\iD xs/\∀(H':Hp) (r:Option aC),ak H H'->eI (bz xs xs.length) r->Q (.bl r.isNone) H'
theorem Lz:aH ["board", "lay"] ["board", "lay"] (ay yS):=Zz (by decide+kernel)
theorem T6 {f:Addr}{fd:FuncData}(F:aE K "is_unlike" "is_unlike" yS f fd)(D1:Def P w K mg base 110 "first_like" ["board", "lay"] uV):aw P w K mg base aF 111 f fd ["board", "lay"] uH:=by
 refine F.ok Lz (fun vs H Q E h=> ?_) (fun cdv A outer s H vs Q E hr h=> ?_)
 ·obtain⟨x,y,wd,hg,xs,rfl,_⟩:=h;rfl
 ·obtain⟨x,y,wd,hg,xs,rfl,l,w7,q⟩:=h;refine⟨_,Zg (Zo (GY (Ju (Zh D1 hr (Za (pv 0) (Za (pv 1) Zb)))))),?_⟩;refine⟨x,rfl,y,rfl,x,y,wd,hg,xs,rfl,l,w7,fun H1 v r s1 hf ho=> ?_⟩;have:=q H1 r s1 hf;cases r with
  |none=>have e:v=.ag:=ho;subst e;exact this
  |some k=>obtain⟨t,rfl,_⟩:=(show fo H1 v k from ho);exact this
end
end U
namespace U
open PySem L2 PyProof.Rows
section
def DX:List Str:=["NoBoard", "NoLay", "NoNumber", "NoPoints", "NoPoint", "NoPaper", "NoUnlike", "NoPrime", "NoRoot", "NoTurn", "TooFew", "TooMany", "NoText", "NoLine", "NoDeed"]
structure qK (K:ZgE)(mg:Str->Option Value)(cS C:Addr)(iC:Nat):Prop where
 z:oR K C
 ms:mg "StepError" =some (.ref cS)
 xs:PySem.W.exmOne K (.ref C) (.ref cS)=some true
 m:∀i,i<15->∃c,mg (DX.getD i "")=some (.ref c)/\PySem.W.kitOne K (.ref C) (.ref c)=some (decide (i=iC))
 mv:mg "ValueError" =none
 xv:PySem.W.kitOne K (.ref C) (.type "ValueError")=some true
end
section
variable {P:Program}{w:World}{K:ZgE}{mg:Str->Option Value}{base:Heap}
abbrev zb:Stmt:=top 68
def uM (P:Program)(w:World)(K:ZgE)(mg:Str->Option Value)(base:Heap)(cS:Addr)(k:Nat):Sp:=fun vs H Q _=> ∃f fd sp C iC,vs=[.ref f]/\iC<15/\qK K mg cS C iC/\(∀s,bC P w H s->PySem.W.FnAt f s)/\aw P w K mg base (bc P w) k f fd [] sp/\
 (∀s,BindsTo s fd ⟨[],[]⟩ [])/\(∀Q' E',(∀e H',ak H H'->E' (.ref e) (some C) H')->sp [] H Q' E')/\∀l H',ak H H'->H l=none->H' l=some (.lst [.int (iC:Int)])->Q (.ref l) H'
theorem ki:aH ["_law_call", "_law_error", "e", "_law_marks"] ["_law_call"] (ay zb):=Zz (by decide+kernel)
def bP (iC n:Nat):List V:=(List.range n).map fun i=>V.bl (decide (i=iC))
theorem Zk {H:Hp}{p:Addr}{o:HO}(h:H p=none):ak H (upd H p o):=fun b u hb=>by rw[Zi (Zd hb h)];exact hb
theorem T1 {k:Nat}{f:Addr}{fd:FuncData}{cS:Addr}(F:aE K "_law_refused" "_law_refused" zb f fd)(G:Gs mg):aw P w K mg base aF (k+1) f fd ["_law_call"] (uM P w K mg base cS k):=by
 refine F.ok ki (fun vs H Q E h=> ?_) (fun cdv A outer s H vs Q E hr h=> ?_)
 ·obtain⟨f,fd,sp,C,iC,rfl,_⟩:=h;rfl
 ·obtain⟨f,fd,sp,C,iC,rfl,hi,M,fK,Fl,Bm,dc,q⟩:=h;obtain⟨c0,m0,k0⟩:=M.m 0 .d;obtain⟨c1,m1,k1⟩:=M.m 1 .d;obtain⟨c2,m2,k2⟩:=M.m 2 .d;obtain⟨c3,m3,k3⟩:=M.m 3 .d;obtain⟨c4,m4,k4⟩:=M.m 4 .d;obtain⟨c5,m5,k5⟩:=M.m 5 .d;obtain⟨c6,m6,k6⟩:=M.m 6 .d;obtain⟨c7,m7,k7⟩:=M.m 7 .d;obtain⟨c8,m8,k8⟩:=M.m 8 .d;obtain⟨c9,m9,k9⟩:=M.m 9 .d;obtain⟨c10,NC,Ax⟩:=M.m 10 .d;obtain⟨c11,NB,vP⟩:=M.m 11 .d;obtain⟨c12,NA,rS⟩:=M.m 12 .d;obtain⟨c13,Nz,lD⟩:=M.m 13 .d;obtain⟨c14,Ny,qc⟩:=M.m 14 .d;refine⟨_,Ze (ZF (i:=1) ki.nd rfl (Or.inl rfl) Yb)
   (Ze (ZbD (ic:=0) (ie:=2) rfl rfl rfl ki.nd rfl (Or.inl rfl) rfl rfl M.ms rfl hr (fun e=>Zg (ZF (i:=1) ki.nd rfl (Or.inl rfl) (pv 2))))
   (Ze (ZF (i:=3) ki.nd rfl (Or.inr rfl) (ZH (Za (Zn ZC rfl G.isinstance Za4 (Za (pv 1) (Za (ZK (v:=.ref c0) rfl m0 rfl) Zb))) (Za (Zn ZC rfl G.isinstance Za4 (Za (pv 1) (Za (ZK (v:=.ref c1) rfl m1 rfl) Zb))) (Za (Zn ZC rfl G.isinstance Za4 (Za (pv 1) (Za (ZK (v:=.ref c2) rfl m2 rfl) Zb))) Zb)))))
   (Ze (ZF (i:=3) ki.nd rfl (Or.inr rfl) (Zp YE (pv 3) (ZH (Za (Zn ZC rfl G.isinstance Za4 (Za (pv 1) (Za (ZK (v:=.ref c3) rfl m3 rfl) Zb))) (Za (Zn ZC rfl G.isinstance Za4 (Za (pv 1) (Za (ZK (v:=.ref c4) rfl m4 rfl) Zb))) (Za (Zn ZC rfl G.isinstance Za4 (Za (pv 1) (Za (ZK (v:=.ref c5) rfl m5 rfl) Zb))) Zb))))))
   (Ze (ZF (i:=3) ki.nd rfl (Or.inr rfl) (Zp YE (pv 3) (ZH (Za (Zn ZC rfl G.isinstance Za4 (Za (pv 1) (Za (ZK (v:=.ref c6) rfl m6 rfl) Zb))) (Za (Zn ZC rfl G.isinstance Za4 (Za (pv 1) (Za (ZK (v:=.ref c7) rfl m7 rfl) Zb))) (Za (Zn ZC rfl G.isinstance Za4 (Za (pv 1) (Za (ZK (v:=.ref c8) rfl m8 rfl) Zb))) Zb))))))
   (Ze (ZF (i:=3) ki.nd rfl (Or.inr rfl) (Zp YE (pv 3) (ZH (Za (Zn ZC rfl G.isinstance Za4 (Za (pv 1) (Za (ZK (v:=.ref c9) rfl m9 rfl) Zb))) (Za (Zn ZC rfl G.isinstance Za4 (Za (pv 1) (Za (ZK (v:=.ref c10) rfl NC rfl) Zb))) (Za (Zn ZC rfl G.isinstance Za4 (Za (pv 1) (Za (ZK (v:=.ref c11) rfl NB rfl) Zb))) Zb))))))
   (Ze (ZF (i:=3) ki.nd rfl (Or.inr rfl) (Zp YE (pv 3) (ZH (Za (Zn ZC rfl G.isinstance Za4 (Za (pv 1) (Za (ZK (v:=.ref c12) rfl NA rfl) Zb))) (Za (Zn ZC rfl G.isinstance Za4 (Za (pv 1) (Za (ZK (v:=.ref c13) rfl Nz rfl) Zb))) (Za (Zn ZC rfl G.isinstance Za4 (Za (pv 1) (Za (ZK (v:=.ref c14) rfl Ny rfl) Zb))) Zb))))))
   (Ze (ZN (Yw (Z0 (Zn ZC rfl G.isinstance Za4 (Za (pv 1) (Za (Y2 (v:=.ty "ValueError") rfl M.mv PyProof.Rows.Boot.«ValueError» rfl) Zb))))) (Zg (Zo Yb)) Zy)
   (Zg (Zo (ZZ ["_law_k", "_law_marks"] 1 [3] (ZV rfl G.range (Za Zf Zb)) (fun C s H fp=>pb 0)
    (fun C s H fp=>Yk (Z0 (Zq (show oN (aK _ _ _ C s H fp) (vt K) from Zs) (pv 1) (pv 0) (fun _ _=>rfl)))) (fun C s H fp D=>cz rfl (pv 0)))))))))))),?_⟩
  refine⟨f,fd,sp,rfl,fK,Fl,Bm,dc _ _ fun e H1 s1=> ⟨e,C,rfl,rfl,M.xs,fun qp=> ⟨_,rfl,?_⟩⟩⟩;have s2:ak H1 (upd H1 e (lZ e C)):=Zk qp;have he:upd H1 e (lZ e C) e=some (lZ e C):=Zc;generalize upd H1 e (lZ e C)=H2 at s2 he;refine⟨_,rfl,e,C,_,_,_,rfl,he,M.z,fun _ h=>h,k0,_,rfl,e,C,_,_,_,rfl,he,M.z,fun _ h=>h,k1,_,rfl,e,C,_,_,_,rfl,he,M.z,fun _ h=>h,k2,ke,fun l1 cg=> ?_⟩;have sa:ak H2 (upd H2 l1 (.lst (bP iC 3))):=Zk cg;have ha:upd H2 l1 (.lst (bP iC 3)) l1=some (.lst (bP iC 3)):=Zc;show _;generalize Qf:upd H2 l1 (HO.lst (bP iC 3))=Ha at sa ha;rw[show upd H2 l1 (HO.lst [V.bl (decide (0=iC)),V.bl (decide (1=iC)),V.bl (decide (2=iC))])=Ha from Qf];have wg:=sa _ _ he;refine⟨_,rfl,_,rfl,e,C,_,_,_,rfl,wg,M.z,fun _ h=>h,k3,_,rfl,e,C,_,_,_,rfl,wg,M.z,fun _ h=>h,k4,_,rfl,e,C,_,_,_,rfl,wg,M.z,fun _ h=>h,k5,ke,fun m0 EO=> ⟨l1,m0,bP iC 3,_,rfl,rfl,Zk EO _ _ ha,Zc,(by show 3+3<=sizeLine;decide),fun p0 EK=> ?_⟩⟩;have zJ:ak Ha (upd Ha m0 (.lst [V.bl (decide (3=iC)),V.bl (decide (4=iC)),V.bl (decide (5=iC))])):=Zk EO;generalize upd Ha m0 (HO.lst [V.bl (decide (3=iC)),V.bl (decide (4=iC)),V.bl (decide (5=iC))])=uj at zJ EK;have zD:ak uj (upd uj p0 (.lst (bP iC 6))):=Zk EK;have Fx:upd uj p0 (.lst (bP iC 6)) p0=some (.lst (bP iC 6)):=Zc;generalize Qj:upd uj p0 (HO.lst (bP iC 6))=xo at zD Fx;rw[show upd uj p0 (HO.lst (bP iC 3++[V.bl (decide (3=iC)),V.bl (decide (4=iC)),V.bl (decide (5=iC))]))=xo from Qj];have qp:=zD _ _ (zJ _ _ wg);refine⟨_,rfl,_,rfl,e,C,_,_,_,rfl,qp,M.z,fun _ h=>h,k6,_,rfl,e,C,_,_,_,rfl,qp,M.z,fun _ h=>h,k7,_,rfl,e,C,_,_,_,rfl,qp,M.z,fun _ h=>h,k8,ke,fun m1 lN=> ⟨p0,m1,bP iC 6,_,rfl,rfl,Zk lN _ _ Fx,Zc,(by show 6+3<=sizeLine;decide),fun p1 nU=> ?_⟩⟩;have zH:ak xo (upd xo m1 (.lst [V.bl (decide (6=iC)),V.bl (decide (7=iC)),V.bl (decide (8=iC))])):=Zk lN;generalize upd xo m1 (HO.lst [V.bl (decide (6=iC)),V.bl (decide (7=iC)),V.bl (decide (8=iC))])=ui at zH nU;have zC:ak ui (upd ui p1 (.lst (bP iC 9))):=Zk nU;have Fw:upd ui p1 (.lst (bP iC 9)) p1=some (.lst (bP iC 9)):=Zc;generalize Qi:upd ui p1 (HO.lst (bP iC 9))=xn at zC Fw;rw[show upd ui p1 (HO.lst (bP iC 6++[V.bl (decide (6=iC)),V.bl (decide (7=iC)),V.bl (decide (8=iC))]))=xn from Qi];have wm:=zC _ _ (zH _ _ qp);refine⟨_,rfl,_,rfl,e,C,_,_,_,rfl,wm,M.z,fun _ h=>h,k9,_,rfl,e,C,_,_,_,rfl,wm,M.z,fun _ h=>h,Ax,_,rfl,e,C,_,_,_,rfl,wm,M.z,fun _ h=>h,vP,ke,fun m2 eK=> ⟨p1,m2,bP iC 9,_,rfl,rfl,Zk eK _ _ Fw,Zc,(by show 9+3<=sizeLine;decide),fun p2 gw=> ?_⟩⟩;have zG:ak xn (upd xn m2 (.lst [V.bl (decide (9=iC)),V.bl (decide (10=iC)),V.bl (decide (11=iC))])):=Zk eK;generalize upd xn m2 (HO.lst [V.bl (decide (9=iC)),V.bl (decide (10=iC)),V.bl (decide (11=iC))])=uh at zG gw;have zB:ak uh (upd uh p2 (.lst (bP iC 12))):=Zk gw;have Fv:upd uh p2 (.lst (bP iC 12)) p2=some (.lst (bP iC 12)):=Zc;generalize Qh:upd uh p2 (HO.lst (bP iC 12))=xm at zB Fv;rw[show upd uh p2 (HO.lst (bP iC 9++[V.bl (decide (9=iC)),V.bl (decide (10=iC)),V.bl (decide (11=iC))]))=xm from Qh];have wk:=zB _ _ (zG _ _ wm);refine⟨_,rfl,_,rfl,e,C,_,_,_,rfl,wk,M.z,fun _ h=>h,rS,_,rfl,e,C,_,_,_,rfl,wk,M.z,fun _ h=>h,lD,_,rfl,e,C,_,_,_,rfl,wk,M.z,fun _ h=>h,qc,ke,fun m3 js=> ⟨p2,m3,bP iC 12,_,rfl,rfl,Zk js _ _ Fv,Zc,(by show 12+3<=sizeLine;decide),fun p3 jq=> ?_⟩⟩;have zE:ak xm (upd xm m3 (.lst [V.bl (decide (12=iC)),V.bl (decide (13=iC)),V.bl (decide (14=iC))])):=Zk js;generalize upd xm m3 (HO.lst [V.bl (decide (12=iC)),V.bl (decide (13=iC)),V.bl (decide (14=iC))])=ug at zE jq;have zA:ak ug (upd ug p3 (.lst (bP iC 15))):=Zk jq;have Ft:upd ug p3 (.lst (bP iC 15)) p3=some (.lst (bP iC 15)):=Zc;generalize Qg:upd ug p3 (HO.lst (bP iC 15))=IS at zA Ft;rw[show upd ug p3 (HO.lst (bP iC 12++[V.bl (decide (12=iC)),V.bl (decide (13=iC)),V.bl (decide (14=iC))]))=IS from Qg];have PB:=zA _ _ (zE _ _ wk);refine⟨_,rfl,e,C,_,_,_,rfl,PB,M.z,fun _ h=>h,M.xv,_,rfl,?_⟩;refine az ?_;refine⟨15,rfl,.d,.d,?_⟩;refine Y5 (n:=15) (fun i ys σ H4=>ys=((List.range i).filter fun k=>decide (k=iC)).map (fun k:Nat=>V.int (k:Int))/\H4=IS/\∃v,σ=[v,some (.ref p3)]) ⟨rfl,rfl,none,rfl⟩ ?_ ?_
  ·rintro i ys σ H4 Pp ⟨rfl,rfl,v,rfl⟩;have hm:fQ (bP iC 15) (0+(i:Int))=some (V.bl (decide (i=iC))):=by rw[Zcm];refine Ya ?_;unfold bP;rw[Zbi,List.getElem?_range Pp];rfl
   refine⟨_,rfl,_,rfl,p3,_,_,_,rfl,rfl,ao.of Ft,hm,_,rfl,?_⟩;have er:((List.range (i+1)).filter fun k=>decide (k=iC))=((List.range i).filter fun k=>decide (k=iC))++(if decide (i=iC)=true then [i] else []):=by rw[Zcq,Zbo];cases hd:decide (i=iC)<;>simp_all
   cases hd:decide (i=iC) with
   |true=>
    rw[hd]at er;refine aB ⟨_,rfl,?_,?_,rfl,_,rfl⟩
    ·rw[Zae,Zaz];have:=Zbh (fun k=>decide (k=iC)) (List.range i);rw[ZcR]at this;omega
    ·rw[er,ZaG rfl,ZaF,Zcm];rfl
   |false=>rw[hd]at er;exact az ⟨by rw[er,ZaD Zaj,Zbx],rfl,_,rfl⟩
  ·rintro ys σ H4 ⟨rfl,rfl,v,rfl⟩ p hp;have ef:((List.range 15).filter fun k=>decide (k=iC)).map (fun k:Nat=>V.int (k:Int))=[V.int (iC:Int)]:=by have c:iC=0∨iC=1∨iC=2∨iC=3∨iC=4∨iC=5∨iC=6∨iC=7∨iC=8∨iC=9∨iC=10∨iC=11∨iC=12∨iC=13∨iC=14:=.o;rcases c with rfl |rfl |rfl |rfl |rfl |rfl |rfl |rfl |rfl |rfl |rfl |rfl |rfl |rfl |rfl<;>rfl
   rw[ef];have DB:=s1.trans (s2.trans (sa.trans (zJ.trans (zD.trans (zH.trans (zC.trans (zG.trans (zB.trans (zE.trans zA)))))))));exact q p _ (DB.trans (Zk hp)) (DB.free hp) Zc
theorem Zw {D:Ends}{σ:L2.St}{H:Hp}(h:D.nx σ H):Dg D σ H:=h
theorem Zj {t u:TS}{D:Ends}{σ:L2.St}{H:Hp}(h:t {D with nx:=u D} σ H):xU t u D σ H:=h
theorem Zu {te:TE}{g:TG}{D:Ends}{σ:L2.St}{H:Hp}(h:te σ H fun v H1=>g v σ H1 D.nx):qW te g D σ H:=h
theorem Zl {i:Nat}{v:V}{σ:L2.St}{H:Hp}{Q:L2.St->Hp->Prop}(h:Q (σ.set i (some v)) H):bQ i v σ H Q:=h
end
end U
namespace U
open PySem L2 PyProof.Rows PyProof.Rows.eO
section
def Ke (Y:Cx)(cl:List (Str×Addr))(x:Str)(v:V)(H:Hp)(s:Shared):Prop:=∃c u,cl.lookup x=some c/\s.heap.IsCell c (some u)/\RelV v u/\H c=none/\c∉aU Y.stack
def NK (so si:Scope):Bool:=si.names.all fun z=>z.2 !=.free||so.names.lookup z.1==some .cell||so.names.lookup z.1==some .free
theorem SS {X:Cx}{scope:Scope}(h:NK X.env.scope scope=true):∀z∈scope.names,z.2=.free->X.env.kindOf z.1=some .cell∨X.env.kindOf z.1=some .free:=fun z hz e=>by
 have:=Zbm.mp h z hz;simp only[ZfS,Zgp,ne_eq,Zco]at this;rcases this with (h |h) |h
 ·exact absurd e h
 ·exact .inl h
 ·exact .inr h
end
section
variable {Y:Cx}{pins:List (Addr×Obj)}{σ:L2.St}{H:Hp}{s:Shared}
theorem VL {i:Nat}{x:Str}{v:V}{scope:Scope}(I:Inv Y pins σ H s)(hi:Y.N[i]? =some x)(jl:σ[i]? =some (some v))(hk:Y.env.scope.names.lookup x=some .cell)(fK:Y.fn x=true)(cU:(x,NameKind.free)∈scope.names):Ke Y (eG scope Y.env) x v H s:=by
 obtain⟨m,hn,hl⟩:=I.loc;obtain⟨u,r,l⟩:=hl i x v hi jl (.inr (.inl hk));obtain⟨c,hc⟩:=Ui (env:=Y.env) cU;have e1:=(YH hc).1;rcases l with ⟨cj,_⟩ |⟨_,c',bX,lQ⟩
 ·have:Y.env.scope.names.lookup x=some .local:=cj;rw[hk]at this;cases this
 ·rw[bX]at e1;have e2:c=c':=e1;subst e2;refine⟨c,u,hc,lQ,r,I.fO x c bX,fun hm=> ?_⟩;rcases Zaf.mp (I.qZ c hm) with z |z
  ·exact I.iT x c bX z
  ·obtain⟨_,o,ho,_⟩:=I.ok.dg.mem z;exact absurd (Zaw (Zal ho) (I.ok.jZ x c fK bX)) (Zba _)
theorem RM {scope:Scope}{env:Env}{z:Str}{c:Addr}(h:(eG scope env).lookup z=some c):(z,NameKind.free)∈scope.names:=(YH h).2
end
section
variable {X:Cx}{cS c P fR:Addr}{kf:Nat}
abbrev lq (X:Cx):Str:=X.env.qual++ "<lambda>"
theorem YR {H H':Hp}{P:Addr}{q:Str}(h:TabAt H P q)(s:ak H H'):TabAt H' P q:=by obtain⟨ps,h1,h2,h3⟩:=h;exact⟨ps,s _ _ h1,h2,fun pos cv z=>by obtain⟨d,e,g⟩:=h3 pos cv z;exact⟨d,e,s _ _ g⟩⟩
structure LCtx (X:Cx)(cS c P fR:Addr)(kf:Nat):Prop where
 lam:IG X c P
 hd:IQ X
 hR:∀b',Def X.prog X.w X.K X.mg b' (kf+2) "_law_refused" ["_law_call"] (uM X.prog X.w X.K X.mg b' cS (kf+1))
 room:bf (kf+2) X.A
 mR:X.mg "_law_refused" =some (.ref fR)
 kR:PySem.W.keepIn X.K (.ref fR)=true
structure LN (X:Cx)(x:Str)(i:Nat):Prop where
 nx:X.N[i]? =some x
 kx:X.env.scope.names.lookup x=some .cell
 fx:X.fn x=true
structure CG (params:Arguments)(body:Expr)(scope:Scope)(N:List Str):Prop where
 kind:scope.kind=.function
 co:scope.isCoroutine=false
 gen:scope.isGenerator=false
 gm:∀z∈scope.names,z.2≠.cell
 only:∀z∈scope.names,z.2=.free->z.1∈N
 free:∀x∈N,scope.names.lookup x=some .free
 bind:∀(q:Str) (cl:List (Str×Addr)) (pm:Value) (c:Addr) (ct:Value),bindArgs (PySem.W.kla_fn "<lambda>" q params body scope cl pm (.ref c) ct) ⟨[],[]⟩=pure []
def C2 (X:Cx)(kf:Nat)(C:Addr)(f:Addr)(q:Str)(bd:Expr)(scope:Scope)(cl:List (Str×Addr))(N:List Str)(ws:List V)(Pre:Hp->Prop):Prop:=
 ∀(gY:Heap) (cc:Addr) (A:Around) (outer:List Env) (s2:Shared) (H2:Hp) (Q2:VK) (E2:XK),bf kf (A.deeper (PySem.W.envX q scope s2.heap.objs.size f (.ref cc) cl))->Pre H2->(∀e H',ak H2 H'->E2 (.ref e) (some C) H')->
  ∃t,PE (tQ X.prog X.w X.K X.mg gY N q scope f (.ref cc) cl A outer s2 H2 E2) bd t/\t (ws.map some) H2 Q2
theorem VY {pins:List (Addr×Obj)}{σ:L2.St}{H:Hp}{s:Shared}{f C:Addr}{iC:Nat}{q:Str}{params:Arguments}{bd:Expr}{scope:Scope}{cl:List (Str×Addr)}{Q:VK}{N:List Str}{ws:List V}{Pre:Hp->Prop}(L:LCtx X cS c P fR kf)
  (LS:CG params bd scope N) (I:Inv X pins σ H s) (hl:CF H f q params bd scope cl) (hlen:ws.length=N.length) (il:∀(i:Nat) x v,N[i]? =some x->ws[i]? =some v->Ke X cl x v H s) (ik:∀z c,cl.lookup z=some c->(z,NameKind.free)∈scope.names)
  (Pm:∀a b c,cl.lookup a=some c->cl.lookup b=some c->a=b) (hi:iC<15) (M:qK X.K X.mg cS C iC) (bad:C2 X kf C f q bd scope cl N ws Pre) (pre:Pre H) (hq:∀l H',ak H H'->H l=none->H' l=some (.lst [.int (iC:Int)])->Q (.ref l) H'):
  wpAny (model X.prog X.w) X.A (call (.ref fR) [.ref f]) (EP X pins σ Q) X.xe s:=by
 obtain⟨gY,st,e0,bG⟩:=I.rebase (L.hd _ _ _ _ I).1 (L.hd _ _ _ _ I).2;obtain⟨pm,cc,ct,hf,hc⟩:=hl;have T:Cells gY scope cl N ws:=⟨hlen,fun u hu=>by
   rcases hu with hu |hu
   ·exact absurd rfl (LS.gm _ (Zcs hu))
   ·exact LS.only _ (Zcs hu) rfl,fun i a v h1 h2=>by
   obtain⟨ax,ux,lx,⟨ox,gx,dx⟩,rx,nx,fx⟩:=il i a v h1 h2;exact⟨LS.free a (ZaC h1),ax,ux,lx,⟨ox,bG _ _ gx nx fx,dx⟩,rx⟩,fun u c h=>LS.only _ (ik u c h) rfl,Pm⟩
 have FL:aw X.prog X.w X.K X.mg gY (bc X.prog X.w) (kf+1) f (PySem.W.kla_fn "<lambda>" q params bd scope cl pm (.ref cc) ct) []
   (fun vs H2 Q2 E2=> (vs=[]/\H2 f=some (pZ f q params bd scope cl pm cc ct)/\H2 cc=some (iS cc q))/\Pre H2/\∀e H',ak H2 H'->E2 (.ref e) (some C) H'):=by
  refine Tf (k:=kf) T LS.kind LS.co LS.gen LS.gm (fun vs H2 Q2 E2 h=>h.1) fun A outer s2 H2 Q2 E2 jn h=> ?_;exact bad gY cc A outer s2 H2 Q2 E2 jn h.2.1 h.2.2
 obtain⟨fR',Qx,FR,jt,hk,hb⟩:=L.hR gY;rw[L.mR]at jt;cases jt;refine Zfc (Zcy (FR.run X.A X.stack s H ⟨[.ref f],[]⟩ [.ref f] [.ref f] Q E0 L.room e0 (hb s [.ref f] I.bA rfl) (.cons rfl .nil)
  ⟨f,_,_,C,iC,rfl,hi,M,fun h ar=> ?_,FL,fun s2=> .of_eq (LS.bind q cl pm cc ct),fun Q' E' hE=> ⟨⟨rfl,hf,hc⟩,pre,hE⟩,hq⟩) fun r s' h=> ?_)
 ·have z:h.get? f=some _:=(ar f _ hf).1;exact⟨_,_,_,_,z⟩
 ·cases r with
  |error e=>exact h.elim
  |ok fl=>
   cases fl with
   |ret u=>exact I.after h
   |next=>exact False.elim h
   |brk=>exact False.elim h
   |cont=>exact False.elim h
def Df (X:Cx)(cS P:Addr)(kf:Nat)(bd:Expr)(scope:Scope)(N:List Str)(idx:List Nat):TE:=fun σ H Q=> ∃(ws:List V) (C:Addr) (iC:Nat) (Pre:Hp->Prop),ws.length=idx.length/\(∀(k i:Nat) v,idx[k]? =some i->ws[k]? =some v->σ[i]? =some (some v))/\TabAt H P (lq X)/\iC<15/\qK X.K X.mg cS C iC/\
 (∀f,C2 X kf C f (lq X) bd scope (eG scope X.env) N ws Pre)/\(∀H',aV P H H'->Pre H')/\∀l H',aV P H H'->TabAt H' P (lq X)->H l=none->H' l=some (.lst [.int (iC:Int)])->Q (.ref l) H'
theorem VU {params:Arguments}{scope:Scope}{bd:Expr}{p lp pos:Pos}{N:List Str}{idx:List Nat}(L:LCtx X cS c P fR kf)(LS:CG params bd scope N)(hN:idx.length=N.length)(LNs:∀(k:Nat) x i,N[k]? =some x->idx[k]? =some i->LN X x i)(hg:Gl X "_law_refused")(Bg:defaultsOf params X.env=([],[]))
  (cU:∀z∈scope.names,z.2=.free->X.env.kindOf z.1=some .cell∨X.env.kindOf z.1=some .free):
  PE X (.Call (.Name "_law_refused" p) [.Lambda params bd scope lp] [] pos) (Df X cS P kf bd scope N idx):=by
 intro pins s σ H Q I h;obtain⟨ws,C,iC,Pre,Oe,jl,tab,hi,M,bad,pre,q⟩:=h;refine ZbH (YL I hg L.mR ?_ .d);have ha:PA X [.Lambda params bd scope lp] _:=Za (TB L.lam Bg cU) Zb;refine Zdz (h₀:=X.base) I.ok.mod.kA L.kR (au (ha pos pins s σ H (fun vs H1=> ∃f,vs=[.ref f]/\aV P H H1/\TabAt H1 P (lq X)/\CF H1 f (lq X) params bd scope (eG scope X.env)) I ⟨tab,fun f H1 sx nf t1 l1=> ⟨f,rfl,sx,t1,l1⟩⟩) fun us s1 ⟨vs,H1,I1,r,f,ev,sx,t1,l1⟩=> ⟨I1.bA,?_⟩) rfl rfl;subst ev;obtain⟨u,rfl,ru⟩:=ZfD r;cases ru;refine VY L LS I1 l1 (by rw[Oe,hN]) (fun i x v h1 h2=> ?_) (fun z c h=>RM h) (fun a b c h1 h2=> ?_) hi M (bad f) (pre H1 sx) fun l H2 s2 nl hl=>q l H2 (sx.trans s2.x) (YR t1 s2) ?_ hl
 ·have hi:i<idx.length:=by have:=(Zaa.mp h1).1;omega
  have ei:=Zax hi;have n:=LNs i x _ h1 ei;exact VL I1 n.nx (jl i _ v ei h2) n.kx n.fx (Zcs (LS.free x (ZaC h1)))
 obtain⟨e1,m1⟩:=YH h1;obtain⟨e2,m2⟩:=YH h2;obtain⟨c1,g1⟩:=I1.ok.has a (cU _ m1 rfl);obtain⟨c2,g2⟩:=I1.ok.has b (cU _ m2 rfl);rw[g1]at e1;rw[g2]at e2;have z1:c1=c2:=by have y1:_=c1:=e1;have y2:_=c2:=e2;rw[<-y1,<-y2]
 subst z1;exact I1.ok.inj _ _ _ g1 g2;cases hh:H l with
 |none=>rfl
 |some u=>
  by_cases z:l=P
  ·obtain⟨ps,e,_⟩:=t1;rw[z,e]at nl;cases nl
  ·rw[sx _ _ hh z]at nl;cases nl
end
section
theorem Gw {H H':Hp}{P p:Addr}{q:Str}{o:HO}(h:TabAt H P q)(s:aV p H H')(hp:H p=some o)(h1:∀ps,o≠.bM ps)(h2:∀c,o≠iS c q):TabAt H' P q:=by obtain⟨ps,e,t,f⟩:=h;refine⟨ps,s _ _ e fun z=>by rw[z,hp]at e;cases e;exact h1 _ rfl,t,fun pos cv z=> ?_⟩;obtain⟨d,e1,e2⟩:=f pos cv z;exact⟨d,e1,s _ _ e2 fun z=>by rw[z,hp]at e2;cases e2;exact h2 _ rfl⟩
abbrev lu:Arguments:= {posonlyargs:=[],args:=[],vararg:=none,kwonlyargs:=[],kw_defaults:=[],kwarg:=none,defaults:=[]}
theorem Cb (xs:List V):(br xs).Pairwise fun a b=>a.1<b.1:=by unfold br;refine Zea.mpr (Zct ?_ (List.pairwise_lt_range (n:=xs.length)));intro a b Bn p hp q hq;obtain⟨r,hr,rfl⟩:=Za2.mp hp;obtain⟨r',cQ,rfl⟩:=Za2.mp hq;show(a:Int)< (b:Int);omega
def mZ (ps:List (Int×Int)):List aC:=ps.flatMap fun a=> (ps.filter fun b=>decide (a.1<b.1)).map fun b=> (a.1,a.2,b.1,b.2)
theorem Jl (ps:List (Int×Int)):cO ps=mZ ps:=by unfold cO jL mZ pairsOf;rw[ZaH]
theorem Yr {α β:Type}{f:α->β}{l:List α}(h:l.Nodup):(l.map f).Nodup↔∀a∈l,∀b∈l,f a=f b->a=b:=by
 rw[Zbb,ZcD];constructor
 ·intro pw a ha b hb e;obtain⟨i,hi,rfl⟩:=ZeR ha;obtain⟨j,hj,rfl⟩:=ZeR hb;have p:=Ze7.mp pw;rcases Nat.lt_trichotomy i j with q |q |q
  ·exact absurd e (p i j hi hj q)
  ·subst q;rfl
  ·exact absurd e.symm (p j i hj hi q)
 ·intro inj;refine Zfk ?_ (Zbb.mp h);intro a b ha hb ne e;exact ne (inj a ha b hb e)
theorem Y7 (xs:List V):(cO (br xs)).Nodup:=by have:=WP xs;rw[Zbb,ZcD]at this;exact Zbb.mpr (Zct (fun h e=>h (by rw[e])) this)
theorem Wu {xs:List V}{p:aC} :p∈cO (br xs)↔∃l o:Nat,l<o/\o<xs.length/\∃a b,rowAt xs l=some a/\rowAt xs o=some b/\p=((l:Int),a,(o:Int),b):=by
 rw[Jl];unfold mZ;rw[Zdr];constructor
 ·rintro⟨a,ha,hq⟩;obtain⟨b,hb,rfl⟩:=Za0.mp hq;obtain⟨wx,jU⟩:=ZaK.mp hb;obtain⟨l,hl,hr,e⟩:=YK.mp ha;obtain⟨o,ho,cQ,e'⟩:=YK.mp wx;have:=ZcQ jU;refine⟨l,o,.o,ho,a.2,b.2,hr,cQ,by rw[e,e']⟩
 ·rintro⟨l,o,h1,h2,a,b,h3,h4,rfl⟩;exact⟨((l:Int),a),YK.mpr ⟨l,.o,h3,rfl⟩,Za0.mpr ⟨((o:Int),b),ZaK.mpr ⟨YK.mpr ⟨o,h2,h4,rfl⟩,ZaA (by show(l:Int)<o;omega)⟩,rfl⟩⟩
def qG (xs:List V):Prop:=∀p∈cO (br xs),∀q∈cO (br xs),dm (dI p) (dI q)->p=q
theorem Si {a b:aC}(h:a.2.2.1≠b.2.2.1∨a.2.2.2≠b.2.2.2):gR a b=true∨gR b a=true:=by unfold gR;simp only[Yq,YF,Zfj,ZdD];omega
theorem VF {xs:List V}{r:Option aC}(f:eI (bz xs xs.length) r):r.isNone=true↔qG xs:=by
 have mem:∀{p:aC},p∈cO (br xs)->dI p∈bz xs xs.length:=fun hp=> (Yf xs).mem_iff.mp (Zb4 hp);cases r with
 |none=>
  refine⟨fun _ p hp q hq s=> ?_,fun _=>rfl⟩;refine Zfa fun ne=> ?_;obtain⟨l,o,_,_,a,b,g1,g2,rfl⟩:=Wu.mp hp;obtain⟨l',o',_,_,a',b',g3,g4,rfl⟩:=Wu.mp hq;have d:(l:Int)≠(l':Int)∨(o:Int)≠(o':Int):=by refine Zfa fun c=>ne ?_;have e1:l=l':=.o;have e2:o=o':=.o;subst e1 e2;rw[g1]at g3;rw[g2]at g4;cases g3;cases g4;rfl
  rcases Si (a:=dI ((l:Int),a,(o:Int),b)) (b:=dI ((l':Int),a',(o':Int),b')) d with z |z
  ·have:=f _ (mem hp) _ (mem hq) s;rw[z]at this;cases this
  ·have:=f _ (mem hq) _ (mem hp) ⟨s.1.symm,s.2.symm⟩;rw[z]at this;cases this
 |some k=>refine⟨fun h=> (by cases h),fun h=> ?_⟩;obtain⟨⟨a,ha,b,hb,s,l,_⟩,_⟩:=f;obtain⟨p,hp,rfl⟩:=Za0.mp ((Yf xs).mem_iff.mpr ha);obtain⟨q,hq,rfl⟩:=Za0.mp ((Yf xs).mem_iff.mpr hb);rw[h p hp q hq s]at l;unfold gR at l;simp only[Yq,YF,Zfj,ZdD]at l;omega
def kH (xs ys:List V):Prop:=ys.length=xs.length/\∀(i:Nat) (v:V),ys[i]? =some v->v=.ag∨xs[i]? =some v
theorem UX {xs ys:List V}(h:kH xs ys){i:Nat}{r:Int}(e:rowAt ys i=some r):rowAt xs i=some r:=by
 unfold rowAt at e |-;cases ey:ys[i]? with
 |none=>rw[ey]at e;cases e
 |some v=>
  rw[ey]at e;rcases h.2 i v ey with rfl |q
  ·cases e
  ·rw[q];exact e
theorem Xb {xs ys:List V}(h:kH xs ys)(u:qG xs):qG ys:=by
 have sub:∀{p:aC},p∈cO (br ys)->p∈cO (br xs):=fun {p} hp=>by obtain⟨l,o,h1,h2,a,b,g1,g2,rfl⟩:=Wu.mp hp;exact Wu.mpr ⟨l,o,h1,by rw[<-h.1];exact h2,a,b,UX h g1,UX h g2,rfl⟩
 exact fun p hp q hq s=>u p (sub hp) q (sub hq) s
theorem Ii:∀{xs ys:List V},kH xs ys->(rowsOf ys).Sublist (rowsOf xs)
 | [],[],_=> .refl _
 | [],_::_,h=>by simp[kH]at h
 |_::_,[],h=>by simp[kH]at h
 |x::xs,y::ys,h=>by
  have ht:kH xs ys:=⟨by have:=h.1;simpa using this,fun i v e=>by have:=h.2 (i+1) v (by simpa using e);simpa using this⟩;have ih:=Ii ht;unfold rowsOf at ih |-;rcases h.2 0 y rfl with rfl |q
  ·rw[Za9 (by simp)];exact ih.trans ((List.sublist_cons_self x xs).filter _)
  ·have:x=y:=by simpa using q
   subst this;by_cases z:(!decide (x=V.ag))=true
   ·rw[Zb5 (p:=fun x=> !decide (x=V.ag)) z,Zb5 (p:=fun x=> !decide (x=V.ag)) z];exact ih.cons₂ x
   ·rw[Za9 (p:=fun x=> !decide (x=V.ag)) z,Za9 (p:=fun x=> !decide (x=V.ag)) z];exact ih
end
end U
namespace U.S
open PySem L2 PyProof.Rows
section
def sk (a b:Int×Int):List Int:=[b.1-a.1,b.2-a.2]
def pk:List (Int×Int)->List (List Int)
 | []=> []
 |a::r=>r.map (sk a)++pk r
def bF (xs:List V):Bool:=decide (pk (br xs)).Nodup
def mE (p:aC):List Int:=[p.2.2.1-p.1,p.2.2.2-p.2.1]
theorem xb:∀{ps:List (Int×Int)},(ps.Pairwise fun a b=>a.1<b.1)->(mZ ps).map mE=pk ps
 | [],_=>rfl
 |a::l,h=>by
  obtain⟨h1,h2⟩:=Zcn.mp h;have ih:=xb h2;have e:mZ (a::l)=(l.map fun b=> (a.1,a.2,b.1,b.2))++mZ l:=by
   unfold mZ;rw[Zb9]
   congr 1
   ·rw[Za9 (by simp),List.filter_eq_self.mpr fun b hb=>ZaA (h1 b hb)]
   ·rw[List.flatMap_def,List.flatMap_def]
    congr 1
    refine List.map_congr_left fun c hc=> ?_;rw[Za9 (by have:=h1 c hc;simp;omega)]
  rw[e,ZaF,ih,Zdn];rfl
theorem HM (p q:aC):dm (dI p) (dI q)↔mE p=mE q:=by unfold dm dI mE;simp
theorem YC (xs:List V):bF xs=true↔qG xs:=by
 unfold bF;rw[Zeb,<-xb (Cb xs),<-Jl,Yr (Y7 xs)];unfold qG;constructor
 ·intro h p hp q hq s;exact h p hp q hq ((HM p q).mp s)
 ·intro h p hp q hq s;exact h p hp q hq ((HM p q).mpr s)
theorem GR {xs:List V}{r:Option aC}(f:eI (bz xs xs.length) r):r.isNone=bF xs:=by have h1:=VF f;have h2:=YC xs;cases hr:r.isNone<;>cases hu:bF xs<;>simp_all
def fj (hg:Nat)(xs:List V)(l:Nat):List Int:=((List.range hg).map fun(k:Nat)=> (k:Int)).filter fun r=> !aX (.int r) xs&&bF (xs.set l (.int r))
theorem ZL {H:Hp}{p:Addr}{o:HO}(h:H p=none):ak H (upd H p o):=fun b u hb=>by rw[Zi (Zd hb h)];exact hb
theorem Ih {v:V}(hv:v≠.ag):∀{xs:List V}{i:Nat},xs[i]? =some V.ag->(rowsOf (xs.set i v)).Perm (v::rowsOf xs)
 | [],_,h=>by simp at h
 |x::xs,0,h=>by
  have:x=.ag:=by simpa using h
  subst this;rw[Zec];unfold rowsOf;rw[Zb5 (by simpa using hv),Za9 (by simp)]
 |x::xs,i+1,h=>by
  have ih:=Ih hv (xs:=xs) (i:=i) (by simpa using h);rw[Zed];unfold rowsOf at ih |-;by_cases z:(!decide (x=V.ag))=true
  ·rw[Zb5 (p:=fun x=> !decide (x=V.ag)) z,Zb5 (p:=fun x=> !decide (x=V.ag)) z];exact(ih.cons x).trans (List.Perm.swap v x _)
  ·rw[Za9 (p:=fun x=> !decide (x=V.ag)) z,Za9 (p:=fun x=> !decide (x=V.ag)) z];exact ih
theorem Wa {r:Int}{xs:List V}(h:V.int r∈xs):aX (.int r) xs=true:=by unfold aX;exact ZdV.mpr ⟨_,h,by simp[jC]⟩
theorem Ck {wd hg:Int}{xs:List V}{i:Nat}{r:Int}(h:bq wd hg xs)(hi:xs[i]? =some V.ag)(h0:0<=r)(h1:r<hg)(hn:aX (.int r) xs=false):bq wd hg (xs.set i (.int r)):=by
 have pm:=Ih (v:=.int r) (by intro z;cases z) hi;refine⟨by rw[Zd7];exact h.len,fun x hx=> ?_,pm.nodup_iff.mpr (Zcp.mpr ⟨fun m=> ?_,h.nd⟩)⟩
 ·rcases Zaf.mp (pm.mem_iff.mp hx) with rfl |hx
  ·show(decide (0<=r)&&decide (r<=hg-1))=true;rw[ZaA h0,ZaA .o];rfl
  ·exact h.row x hx
 ·have:=Wa (ZaK.mp m).1;rw[hn]at this;cases this
theorem JN {wd hg:Int}{xs:List V}(h:bq wd hg xs):xs.all jA=true:=Zbm.mpr fun v hv=>by rcases h.ok v hv with rfl |⟨i,rfl⟩<;>rfl
theorem Jh {K:ZgE}{H:Hp}{a b:Addr}{xs ys:List V}{Q:VK}(h1:H a=some (.tup xs))(h2:H b=some (.tup ys))(hl:xs.length+ys.length<=1000)(q:∀t H',ak H H'->H' t=some (.tup (xs++ys))->Q (.ref t) H'):kY K (.ref a) (.ref b) H Q:=by
 cases xs with
 |nil=>exact .inl ⟨a,b,ys,rfl,rfl,aq.of h1,aq.of h2,q b H (ak.refl _) h2⟩
 |cons x xs=>refine .inr ⟨a,b,_,_,rfl,rfl,aq.of h1,aq.of h2,by simp,by rw[Zaz];omega,fun e=> ?_,fun _ p hp=>q p _ (ZL hp) Zc⟩;subst e;exact q a H (ak.refl _) (by rw[Zbx];exact h1)
theorem Cd {xs:List V}{i:Nat}(h:i<xs.length):dh xs none (some (i:Int))=xs.take i:=by unfold dh;rw[HT.zw,HT.pD,ZeT .o];simp
theorem JR {xs:List V}{i:Nat}(h:i<xs.length):dh xs (some ((i:Int)+1)) none=xs.drop (i+1):=by unfold dh;rw[show(i:Int)+1=((i+1:Nat):Int) from rfl,HT.zw,HT.pD,ZeT .o];exact ZcW (by simp)
end
section
variable {P:Program}{w:World}{K:ZgE}{mg:Str->Option Value}{base:Heap}
abbrev yR:Stmt:=top 30
def oX:Sp:=fun vs H Q _=> ∃(l:Addr) (xs:List V) (i:Nat) (v:V),vs=[.ref l,.int i,v]/\H l=some (.tup xs)/\i<xs.length/\xs.length<=12/\∀t H',ak H H'->H' t=some (.tup (xs.set i v))->Q (.ref t) H'
theorem Ly:aH ["lay", "line", "row"] ["lay", "line", "row"] (ay yR):=Zz (by decide+kernel)
theorem MT {f:Addr}{fd:FuncData}(F:aE K "with_point" "with_point" yR f fd):aw P w K mg base aF 1 f fd ["lay", "line", "row"] oX:=by
 refine F.ok Ly (fun vs H Q E h=> ?_) (fun cdv A outer s H vs Q E hr h=> ?_)
 ·obtain⟨l,xs,i,v,rfl,_⟩:=h;rfl
 ·obtain⟨l,xs,i,v,rfl,hl,hi,Qm,q⟩:=h;refine⟨_,Zg (Zo (Zp Ye (Zp Ye (ZX B6 (pv 0) Z8 (Z2 (pv 1))) (Zt (Za (pv 2) Zb))) (ZX B6 (pv 0) (Z2 (Zp Yl (pv 1) Zf)) Z8))),?_⟩;refine⟨_,rfl,_,rfl,_,rfl,l,xs,rfl,aq.of hl,?_,fun p hp=> ?_⟩
  ·rintro⟨_,z⟩;rw[HT.pD]at z;omega
  obtain⟨H1,zz,s1,e1⟩:=da (o:=.tup (dh xs none (some (i:Int)))) hp;rw[zz];rw[Cd hi]at e1;refine⟨_,rfl,bH,fun p2 gw=> ?_⟩;obtain⟨H2,zz,s2,e2⟩:=da (o:=.tup [v]) gw;rw[zz];refine Jh (s2 _ _ e1) e2 (by rw[ZaW];simp;omega) fun t3 H3 s3 e3=> ?_;refine⟨_,rfl,_,rfl,_,_,rfl,rfl,_,rfl,l,xs,rfl,aq.of ((s1.trans (s2.trans s3)) _ _ hl),?_,fun p4 OP=> ?_⟩
  ·rintro⟨z,_⟩;rw[show(i:Int)+1=((i+1:Nat):Int) from rfl,HT.pD]at z;omega
  obtain⟨H4,zz,s4,e4⟩:=da (o:=.tup (dh xs (some ((i:Int)+1)) none)) OP;rw[zz];rw[JR hi]at e4;refine Jh (s4 _ _ e3) e4 (by rw[Zam,ZaW,Zcz];simp;omega) fun t5 H5 s5 e5=> ?_;refine q t5 H5 (s1.trans (s2.trans (s3.trans (s4.trans s5)))) ?_;rw[e5,Zb7,Zee,ZaG hi];rfl
def wG (xs:List V)(l:Nat)(i:Nat):List Int:=((List.range i).map fun(k:Nat)=> (k:Int)).filter fun r=> !aX (.int r) xs&&bF (xs.set l (.int r))
theorem Zbd (xs:List V)(l i:Nat):wG xs l (i+1)=wG xs l i++(if (!aX (.int (i:Int)) xs&&bF (xs.set l (.int (i:Int))))=true then [(i:Int)] else []):=by unfold wG;rw[Zcq,ZaF,Zbo];cases h:(!aX (.int (i:Int)) xs&&bF (xs.set l (.int (i:Int))))<;>simp_all
abbrev zN:Stmt:=top 41
def mB:Sp:=fun vs H Q _=> ∃(b l:Addr) (i:Nat) (wd hg:Int) (xs:List V),vs=[.ref b,.ref l,.int i]/\cX H (.ref b) wd hg/\H l=some (.tup xs)/\bq wd hg xs/\(∀r:Int,iD (xs.set i (.int r)))/\xs[i]? =some .ag/\∀(q:Addr) (H':Hp),ak H H'->H q=none->H' q=some (.lst ((fj hg.toNat xs i).map V.int))->Q (.ref q) H'
theorem L3:aH ["board", "lay", "line"] ["board", "lay", "line"] (ay zN):=Zz (by decide+kernel)
theorem MZ {f:Addr}{fd:FuncData}(F:aE K "free_rows" "free_rows" zN f fd)(G:Gs mg)(CO:Def P w K mg base 111 "is_unlike" ["board", "lay"] uH)(iE:Def P w K mg base 1 "with_point" ["lay", "line", "row"] oX):aw P w K mg base aF 112 f fd ["board", "lay", "line"] mB:=by
 refine F.ok L3 (fun vs H Q E h=> ?_) (fun cdv A outer s H vs Q E hr h=> ?_)
 ·obtain⟨b,l,i,wd,hg,xs,rfl,_⟩:=h;rfl
 ·obtain⟨b,l,i,wd,hg,xs,rfl,bd,hl,ly,w7,hi,q⟩:=h;refine⟨_,Zg (Zo (ZZ ["row", "board", "lay", "line"] 1 [0,1,2] (ZV rfl G.range (Za (Zq ZE (pv 0) Zf (fun _ _=>rfl)) Zb)) (fun C s H fp=>pb 0)
   (fun C s H fp=>Yk (PW.pt (Cc (ZA (show aZ (aK _ _ _ C s H fp) (compareOp .NotIn) (rq K true) from Y4) (pv 0) (pv 2) rfl) (Cr (Z0 (Zh CO hr (Za (pv 1) (Za (Zh iE (hr.mono .d) (Za (pv 2) (Za (pv 3) (Za (pv 0) Zb)))) Zb))))))))
   (fun C s H fp D=>cz rfl (pv 0)))),?_⟩
  obtain⟨b',eb,hb⟩:=ZB bd.1;cases eb;have de:i<xs.length:=(Zaa.mp hi).1;have NS:xs.length<=12:=by have h1:=ly.len;have h2:=bd.2.2.1;omega
  have g1:=bd.2.2.2.1;have g2:=bd.2.2.2.2;refine⟨_,rfl,b,_,1,.int hg,rfl,rfl,aq.of hb,rfl,_,rfl,.o,.o,?_⟩;refine Y5 (fun k ys σ H1=> ∃v,σ=[v,some (.ref b),some (.ref l),some (.int i)]/\ak H H1/\ys=(wG xs i k).map V.int/\ys.length<=k) ⟨_,rfl,ak.refl _,rfl,ZaP _⟩ ?_ ?_
  ·rintro k ys σ H1 hk ⟨v,rfl,s1,rfl,hlen⟩;have es:=Zbd xs i k;rw[Zcm];refine Zl ?_;dsimp only[List.set];refine⟨_,rfl,_,rfl,l,xs,rfl,.inr (aq.of (s1 _ _ hl)),rfl,JN ly,_,rfl,?_⟩;cases hn:aX (.int (k:Int)) xs with
   |true=>rw[hn]at es;refine az ?_;refine az ⟨_,rfl,s1,?_,.o⟩;rw[es];simp
   |false=>
    rw[hn]at es;refine aB ?_;refine⟨_,rfl,_,rfl,_,rfl,_,rfl,l,xs,i,.int (k:Int),rfl,s1 _ _ hl,de,NS,fun t H2 s2 e2=> ?_⟩;refine⟨.ref b,.ref t,wd,hg,_,rfl,⟨bd.same (s1.trans s2),ZI e2,Ck ly hi .o .o hn⟩,w7 _,fun H3 r s3 fi=> ⟨_,rfl,?_⟩⟩;rw[GR fi];have kU:=s1.trans (s2.trans s3);cases hu:bF (xs.set i (.int (k:Int))) with
    |true=>rw[hu]at es;refine aB ⟨_,rfl,by rw[Zaz];omega,⟨_,rfl,kU,?_,by rw[Zam];simp at hlen |-;omega⟩⟩;rw[es];simp
    |false=>rw[hu]at es;refine az ⟨_,rfl,kU,?_,.o⟩;rw[es];simp
  ·rintro ys σ H1 ⟨v,rfl,s1,rfl,hlen⟩ p hp;exact q p _ (s1.trans (ZL hp)) (s1.free hp) Zc
end
section
theorem UV {α β:Type}(f:α->List β)(n:Nat):∀l:List α,(∀a∈l,(f a).length<=n)->(l.flatMap f).length<=l.length*n
 | [],_=>by simp
 |a::l,h=>by have h1:=h a Zai;have h2:=UV f n l fun b hb=>h b (Zad _ hb);rw[Zb9,Zam,ZaE,Nat.succ_mul];omega
theorem US (hg:Nat)(xs:List V)(l:Nat):(fj hg xs l).length<=hg:=by unfold fj;refine ZaL (Zbh _ _) ?_;rw[Zae,ZcR];exact Zaq _
end
section
variable {P:Program}{w:World}{K:ZgE}{mg:Str->Option Value}{base:Heap}
abbrev pC:Stmt:=top 25
def yn:Sp:=fun vs H Q _=> ∃(b:Addr) (wd hg W T:Int),vs=[.ref b,.int W,.int T]/\H b=some (.tup [.int wd,.int hg])/\wd<=W/\hg<=T/\Q .ag H
theorem yE:aH ["board", "wide", "high"] ["board", "wide", "high"] (ay pC):=Zz (by decide+kernel)
theorem MV {f:Addr}{fd:FuncData}(F:aE K "need_at_most" "need_at_most" pC f fd):aw P w K mg base aF 1 f fd ["board", "wide", "high"] yn:=by
 refine F.ok yE (fun vs H Q E h=> ?_) (fun cdv A outer s H vs Q E hr h=> ?_)
 ·obtain⟨b,wd,hg,W,T,rfl,_⟩:=h;rfl
 ·obtain⟨b,wd,hg,W,T,rfl,hb,h1,h2,q⟩:=h;refine⟨_,Zg (ZN (PW.pt (tW (ZA Y8 (Zq ZE (pv 0) Zf (fun _ _=>rfl)) (pv 1) (bJ _)) (WJ (ZA Y8 (Zq ZE (pv 0) Zf (fun _ _=>rfl)) (pv 2) (bJ _))))) ZP Zy),?_⟩;refine⟨_,rfl,b,_,0,.int wd,rfl,rfl,aq.of hb,rfl,_,rfl,_,_,rfl,rfl,_,rfl,?_⟩;rw[Zav .o];refine az ?_;refine⟨_,rfl,b,_,1,.int hg,rfl,rfl,aq.of hb,rfl,_,rfl,_,_,rfl,rfl,_,rfl,?_⟩;rw[Zav .o];exact az q
end
section
def dn (H:Hp)(v:V)(xs:List V):Prop:=∃t:Addr,v=.ref t/\H t=some (.tup xs)
theorem dn.same {H H':Hp}{v:V}{xs:List V}(h:dn H v xs)(s:ak H H'):dn H' v xs:=let ⟨t,e,h1⟩:=h;⟨t,e,s _ _ h1⟩
theorem UG {H H1:Hp}{L:Addr}{o:HO}(s:ak H H1)(n:H L=none):ak H (upd H1 L o):=fun b u h=>by rw[Zi (Zd h n)];exact s b u h
theorem YD {α β:Type}{F:α->β->Prop} :∀{a c:List α}{b d:List β},Paired F a b->Paired F c d->Paired F (a++c) (b++d)
 |_,_,_,_,.nil,h=>h
 |_,_,_,_,.cons x y,h=> .cons x (YD y h)
theorem HX {hg:Nat}{xs:List V}{l:Nat}{r:Int} :r∈fj hg xs l↔(0<=r/\r<hg)/\aX (.int r) xs=false/\bF (xs.set l (.int r))=true:=by
 unfold fj;rw[ZaK,Za0,ZaJ,Zep];constructor
 ·rintro⟨⟨k,hk,rfl⟩,h⟩;rw[ZbC]at hk;exact⟨.o,h⟩
 ·rintro⟨h,h'⟩;exact⟨⟨r.toNat,ZbC.mpr .o,.o⟩,h'⟩
end
end U.S
namespace U.T
open PySem L2 PyProof.Rows
section
theorem uC {t u:TS}{D:Ends}{σ:L2.St}{H:Hp}(R:L2.St->Hp->Prop)(h2:∀ah H',R ah H'->u D ah H')(h1:∀D':Ends,(∀ah H',R ah H'->D'.nx ah H')->t D' σ H):xU t u D σ H:=h1 _ h2
theorem C9 {t:TE}{σ:L2.St}{H:Hp}{Q:VK}(R:V->Hp->Prop)(h2:∀v H',R v H'->Q v H')(h1:∀Q':VK,(∀v H',R v H'->Q' v H')->t σ H Q'):t σ H Q:=h1 Q h2
end
end U.T
namespace U.S
open PySem L2 PyProof.Rows
theorem UB (xs:List V):mq xs=bF xs:=by
 have h:mq xs=true↔bF xs=true:=by
  unfold mq bF;rw[Zeb,Zeb,<-xb (Cb xs),<-Jl,<-((Yf xs).map keyOf).nodup_iff,Zdn];rw[Yr (Y7 xs),Yr (Y7 xs)];have e:∀p q:aC,(keyOf∘dI) p=(keyOf∘dI) q↔mE p=mE q:=fun p q=>by unfold keyOf dI mE;simp
  constructor
  ·intro h a ha b hb z;exact h a ha b hb ((e a b).mpr z)
  ·intro h a ha b hb z;exact h a ha b hb ((e a b).mp z)
 cases h1:mq xs<;>cases h2:bF xs<;>simp_all
def vG (ys:List V):Bool:=decide (rowsOf ys).Nodup
def cW (ys:List V):Bool:=vG ys&&bF ys
theorem Yd {ys:List V} :cW ys=true↔(rowsOf ys).Nodup/\qG ys:=by unfold cW vG;rw[ZaJ,Zeb,YC]
theorem W9 {xs ys:List V}(h:kH xs ys)(g:cW xs=true):cW ys=true:=by obtain⟨h1,h2⟩:=Yd.mp g;exact Yd.mpr ⟨h1.sublist (Ii h),Xb h h2⟩
theorem V9 {b rest:List V}{v:V} :kH (b++v::rest) (b++V.ag::rest):=by
 refine⟨by simp,fun i u hu=> ?_⟩;by_cases h1:i<b.length
 ·rw[ZcE h1]at hu |-;exact .inr hu
 ·rw[ZcB .o]at hu |-;cases hk:i-b.length with
  |zero=>rw[hk]at hu;exact .inl (by simpa using hu.symm)
  |succ k=>rw[hk]at hu;exact .inr (by simpa using hu)
theorem Xa {b rest:List V} :kH (b++rest) (b++List.replicate rest.length V.ag):=by
 refine⟨by simp,fun i u hu=> ?_⟩;by_cases h1:i<b.length
 ·rw[ZcE h1]at hu |-;exact .inr hu
 ·rw[ZcB .o,Zdo]at hu;split at hu
  ·exact .inl (by simpa using hu.symm)
  ·cases hu
theorem UU {α β:Type}{f g:α->Option β} :∀{l:List α},(∀x∈l,f x=g x)->l.filterMap f=l.filterMap g
 | [],_=>rfl
 |a::l,h=>by rw[ZaZ,ZaZ,h a Zai,UU fun x hx=>h x (Zad _ hx)]
theorem Xs (xs:List V)(n:Nat):br (xs++List.replicate n V.ag)=br xs:=by
 unfold br;rw[Zam,Zc7,ZeH,ZeH,<-List.range'_append_1 (s:=0),Zex];have e2:(List.range' (0+xs.length) n).filterMap (fun l=> (rowAt (xs++List.replicate n V.ag) l).map fun r=> ((l:Int),r))=[]:=by
  rw[List.filterMap_eq_nil_iff];intro l hl;rw[Zfi]at hl;have:rowAt (xs++List.replicate n V.ag) l=none:=by unfold rowAt;rw[ZcB .o,Zdo];split<;>rfl
  rw[this];rfl
 have e1:(List.range' 0 xs.length).filterMap (fun l=> (rowAt (xs++List.replicate n V.ag) l).map fun r=> ((l:Int),r))=(List.range' 0 xs.length).filterMap (fun l=> (rowAt xs l).map fun r=> ((l:Int),r)):=by refine UU fun l hl=> ?_;rw[Zfi]at hl;unfold rowAt;rw[ZcE .o]
 simp only[e1,e2,Zbx]
theorem V2 (b:List V)(n:Nat):bF (b++List.replicate n V.ag)=bF b:=by unfold bF;rw[Xs]
theorem YT (a b:List V):rowsOf (a++b)=rowsOf a++rowsOf b:=by unfold rowsOf;rw[Zbo]
theorem HH {b rest:List V}(g:cW (b++rest)=true):cW b=true:=by
 obtain⟨h1,h2⟩:=Yd.mp (W9 Xa g);refine Yd.mpr ⟨?_,?_⟩
 ·rw[YT]at h1;exact(Zdj.mp h1).1
 ·have:=(YC _).mpr h2;rw[V2]at this;exact(YC _).mp this
def mS (hg:Nat):List Int:=(List.range hg).map fun(k:Nat)=> (k:Int)
def jF (hg:Nat):Option V->List Int
 |some (.int r)=> [r]
 |_=>mS hg
def dR (hg:Nat)(xs:List V):Nat->List (List V)
 |0=>if bF xs=true then [xs] else []
 |i+1=>if xs[i]? =some V.ag then (dR hg xs i).flatMap fun p=> (fj hg p i).map fun r=>p.set i (.int r) else dR hg xs i
def hV (hg:Nat)(xs:List V)(i:Nat)(b:List V):List (List V):=((jF hg xs[i]?).filter fun r=> !aX (.int r) b&&bF (b++[.int r])).map fun r=>b++[V.int r]
def ba (hg:Nat)(xs:List V):Nat->List (List V)
 |0=> [[]]
 |i+1=> (ba hg xs i).flatMap (hV hg xs i)
theorem Yn (hg:Nat)(xs:List V):∀i,∀b∈ba hg xs i,b.length=i/\cW b=true/\∃ks:List Int,b=ks.map V.int
 |0,b,h=>by
  have:b=[]:=by simpa[ba] using h
  subst this;exact⟨rfl,rfl,[],rfl⟩
 |i+1,b,h=>by
  unfold ba at h;obtain⟨a,ha,hm⟩:=Zdr.mp h;obtain⟨h1,h2,ks,rfl⟩:=Yn hg xs i a ha;unfold hV at hm;obtain⟨r,hr,rfl⟩:=Za0.mp hm;obtain⟨_,jn⟩:=ZaK.mp hr;rw[ZaJ,Zep]at jn;refine⟨by rw[Zam,h1];rfl,Yd.mpr ⟨?_,(YC _).mp jn.2⟩,ks++[r],by simp⟩;rw[YT];refine Zdj.mpr ⟨(Yd.mp h2).1,by unfold rowsOf;simp,fun x hx y hy e=> ?_⟩;have ig:y=.int r:=by unfold rowsOf at hy;simpa using (ZaK.mp hy).1
  subst ig;subst e;have:=Wa (ZaK.mp hx).1;rw[jn.1]at this;cases this
theorem FE {α β:Type}{f g:α->List β} :∀{l:List α},(∀x∈l,f x=g x)->l.flatMap f=l.flatMap g
 | [],_=>rfl
 |a::l,h=>by rw[Zb9,Zb9,h a Zai,FE fun x hx=>h x (Zad _ hx)]
theorem Wk {α β:Type}(p:β->Bool)(f:α->List β):∀l:List α,(l.flatMap f).filter p=l.flatMap fun a=> (f a).filter p
 | []=>rfl
 |a::l=>by rw[Zb9,Zb9,Zbo,Wk p f l]
theorem Je {α β:Type}(p:α->Bool)(f:α->List β):∀l:List α,(l.filter p).flatMap f=l.flatMap fun a=>if p a=true then f a else []
 | []=>rfl
 |a::l=>by
  rw[ZcA,Zb9];cases h:p a with
  |true=>rw[ZaG rfl,Zb9,Je p f l];simp
  |false=>rw[ZaD Zaj,Je p f l];simp
theorem Ik {x v:V}{t:List V} :∀{fs:List V},(fs++x::t).set fs.length v=fs++v::t
 | []=>rfl
 |a::fs=>by show a::(fs++x::t).set fs.length v=_;rw[Ik];rfl
theorem GB {r:Int}{xs:List V}(ok:j7 xs)(h:aX (.int r) xs=true):V.int r∈xs:=by
 unfold aX at h;obtain⟨y,hy,e⟩:=ZdV.mp h;rcases ok y hy with z |⟨j,z⟩
 ·rw[z]at e;simp[jC]at e
 ·rw[z]at e;have:j=r:=by simpa[jC] using e
  rw[<-this,<-z];exact hy
theorem HI {b rest:List V}{r:Int}(ok:j7 (b++V.ag::rest))(g:cW (b++V.ag::rest)=true):cW (b++V.int r::rest)=(!aX (.int r) (b++V.ag::rest)&&bF (b++V.int r::rest)):=by
 have hp:(rowsOf (b++V.int r::rest)).Perm (V.int r::rowsOf (b++V.ag::rest)):=by rw[YT,YT];have e1:rowsOf (V.int r::rest)=V.int r::rowsOf rest:=rfl;have e2:rowsOf (V.ag::rest)=rowsOf rest:=rfl;rw[e1,e2];exact List.perm_middle
 have hn:(rowsOf (b++V.int r::rest)).Nodup↔V.int r∉rowsOf (b++V.ag::rest):=by rw[hp.nodup_iff,Zcp];exact⟨fun h=>h.1,fun h=> ⟨h,(Yd.mp g).1⟩⟩
 have hm:V.int r∈rowsOf (b++V.ag::rest)↔aX (.int r) (b++V.ag::rest)=true:=by unfold rowsOf;rw[ZaK];exact⟨fun h=>Wa h.1,fun h=> ⟨GB ok h,by simp⟩⟩
 unfold cW
 congr 1
 unfold vG;cases hi:aX (.int r) (b++V.ag::rest) with
 |true=>rw[Bool.not_true];exact Zav fun h=>hn.mp h (hm.mpr hi)
 |false=>rw[Zf7];exact ZaA (hn.mpr fun h=>by rw[hm.mp h]at hi;cases hi)
theorem B7 {wd:Int}{hg:Nat}{xs:List V}(ly:bq wd hg xs):∀i,i<=xs.length->dR hg xs i=((ba hg xs i).filter fun b=>cW (b++xs.drop i)).map fun b=>b++xs.drop i
 |0,_=>by
  have e:cW xs=bF xs:=by unfold cW vG;rw[ZaA ly.nd,Zfs]
  unfold dR ba;simp only[ZcA,ZeU,Zeq,ZeQ,e];split<;>simp
 |i+1,hi=>by
  have aI:i<xs.length:=.o;have ed:xs.drop i=xs[i]::xs.drop (i+1):=Zb8 aI;have hx:xs[i]? =some xs[i]:=Zax aI;have eW:∀v∈xs.drop (i+1),v=.ag∨∃j,v=V.int j:=fun v hv=>ly.ok v (List.mem_of_mem_drop hv);have ih:=B7 ly i .o;generalize xs.drop (i+1)=rest at ed eW |-;have DS:∀{b:List V}{v:V},b∈ba hg xs i->(v=.ag∨∃j,v=V.int j)->j7 (b++v::rest):=fun {b v} hb hv x Ob=>by
   obtain⟨_,_,ks,rfl⟩:=Yn hg xs i b hb;rcases Zbf.mp Ob with h |h
   ·obtain⟨k,_,rfl⟩:=Za0.mp h;exact .inr ⟨k,rfl⟩
   ·rcases Zaf.mp h with rfl |h
    ·exact hv
    ·exact eW x h
  unfold dR ba;rw[hx,ih,ed,Wk,List.map_flatMap];rcases ly.ok xs[i] (ZeB aI) with hv |⟨r,hv⟩
  ·rw[hv,ZaG rfl,List.flatMap_map,Je];refine FE fun b hb=> ?_;obtain⟨lb,gb,_⟩:=Yn hg xs i b hb;have es:∀v:V,(b++V.ag::rest).set i v=b++v::rest:=fun v=>by rw[<-lb];exact Ik
   have ea:jF hg xs[i]? =mS hg:=by rw[hx,hv];rfl
   unfold hV;rw[ea,ZfV,Zdn,List.filter_filter];have eb:∀v:V,b++[v]++rest=b++v::rest:=fun v=>by rw[Zb7];rfl
   cases nZ:cW (b++V.ag::rest) with
   |true=>
    rw[ZaG rfl];unfold fj;simp only[es];have e1:((fun c:List V=>c++rest)∘fun r:Int=>b++[V.int r])=fun r=>b++V.int r::rest:=funext fun r=>eb _;rw[e1];refine Zcr (List.map _) (List.filter_congr fun r _=> ?_);show _=(cW (b++[V.int r]++rest)&&_);rw[eb,HI (DS hb (.inl rfl)) nZ];cases h1:(!aX (.int r) (b++V.ag::rest)&&bF (b++V.int r::rest)) with
    |false=>rfl
    |true=>
     have gg:cW (b++V.int r::rest)=true:=by rw[HI (DS hb (.inl rfl)) nZ];exact h1
     rw[<-eb]at gg;have g1:=HH gg;rw[ZaJ,Zep]at h1;have hn:aX (.int r) b=false:=by
      cases hz:aX (.int r) b with
      |false=>rfl
      |true=>
       have:aX (.int r) (b++V.ag::rest)=true:=by unfold aX at hz |-;rw[List.any_append,hz];rfl
       rw[this]at h1;cases h1.1
     rw[hn,(YC _).mpr (Yd.mp g1).2];rfl
   |false=>
    rw[ZaD Zaj];symm;rw[List.map_eq_nil_iff,Zej];intro r _;show ¬(cW (b++[V.int r]++rest)&&_)=true;rw[eb];cases hz:cW (b++V.int r::rest) with
    |false=>simp
    |true=>have:=W9 V9 hz;rw[nZ]at this;cases this
  ·rw[hv,ZaD (by intro z;cases z)];have ea:jF hg xs[i]? =[r]:=by rw[hx,hv];rfl
   have eb:∀b:List V,b++[V.int r]++rest=b++V.int r::rest:=fun b=>by rw[Zb7];rfl
   have key:∀l:List (List V),(∀b∈l,b∈ba hg xs i)->(l.filter fun b=>cW (b++V.int r::rest)).map (fun b=>b++V.int r::rest)=l.flatMap fun b=> ((hV hg xs i b).filter fun b=>cW (b++rest)).map fun b=>b++rest:=by
    intro l hl
    induction l with
    |nil=>rfl
    |cons b l NX=>
     rw[Zb9,<-NX fun x hx=>hl x (Zad _ hx),ZcA];have hb:=hl b Zai;have en:((hV hg xs i b).filter fun b=>cW (b++rest)).map (fun b=>b++rest)=if cW (b++V.int r::rest)=true then [b++V.int r::rest] else []:=by
      unfold hV;rw[ea];cases nZ:cW (b++V.int r::rest) with
      |false=>
       rw[ZaD Zaj];rw[List.map_eq_nil_iff,Zej];intro y hy;obtain⟨r',cQ,rfl⟩:=Za0.mp hy;have:r'=r:=by simpa using (ZaK.mp cQ).1
       rw[this,eb,nZ];simp
      |true=>
       rw[ZaG rfl];have gg:=nZ;rw[<-eb]at gg;have g1:=HH gg;have hn:aX (.int r) b=false:=by
        cases hz:aX (.int r) b with
        |false=>rfl
        |true=>obtain⟨_,_,ks,rfl⟩:=Yn hg xs i b hb;have hm:=GB (fun x hx=>by obtain⟨k,_,rfl⟩:=Za0.mp hx;exact .inr ⟨k,rfl⟩) hz;have nd:=(Yd.mp g1).1;rw[YT]at nd;have:=(Zdj.mp nd).2.2 (V.int r) (ZaK.mpr ⟨hm,by simp⟩) (V.int r) (by unfold rowsOf;simp);exact absurd rfl this
       have hu:=(YC _).mpr (Yd.mp g1).2;simp only[ZcA,ZeU,hn,hu,Zf7,Bool.and_self,Zem,ZaQ,Zdm,eb,nZ]
     rw[en];split<;>simp
   exact key _ fun b hb=>hb
theorem S4 {wd:Int}{hg:Nat}{xs:List V}(ly:bq wd hg xs):dR hg xs xs.length=ba hg xs xs.length:=by rw[B7 ly xs.length (Zaq _)];have e:xs.drop xs.length=[]:=List.drop_length;simp only[e,Zbx];rw[List.map_id'' (fun _=>rfl)];exact List.filter_eq_self.mpr fun b hb=> (Yn hg xs _ b hb).2.1
theorem Hx {hg:Nat}(h:hg<=7)(o:Option V):(jF hg o).length<=7:=by
 unfold jF;split
 ·simp
 ·unfold mS;simp;exact h
theorem HC {hg:Nat}(h:hg<=7)(xs:List V):∀i,(ba hg xs i).length<=7^i
 |0=>by simp[ba]
 |i+1=>by
  have ih:=HC h xs i;unfold ba;refine ZaL (UV _ 7 _ fun a _=> ?_) ?_
  ·unfold hV;rw[Zae];exact ZaL (Zbh _ _) (Hx h _)
  ·rw[Nat.pow_succ];exact Nat.mul_le_mul_right _ ih
theorem Jf {hg:Nat}(h:hg<=7)(xs:List V){i:Nat}(hi:i<=6):(ba hg xs i).length<=117649:=
 ZaL (HC h xs i) (ZaL (Nat.pow_le_pow_right .d hi) .d)
theorem Vg {wd:Int}{hg:Nat}{xs:List V}(ly:bq wd hg xs)(h:hg<=7){i:Nat}(hi:i<=6)(hl:i<=xs.length):(dR hg xs i).length<=117649:=by rw[B7 ly i hl,Zae];exact ZaL (Zbh _ _) (Jf h xs hi)
theorem Ue {wd:Int}{hg:Nat}{xs:List V}(ly:bq wd hg xs):∀i,∀p∈dR hg xs i,bq wd hg p/\∀j,i<=j->p[j]? =xs[j]?
 |0,p,hp=>by
  unfold dR at hp;split at hp
  ·rw[Zar.mp hp];exact⟨ly,fun _ _=>rfl⟩
  ·cases hp
 |i+1,p,hp=>by
  unfold dR at hp;split at hp
  ·rename_i hx;obtain⟨a,ha,hm⟩:=Zdr.mp hp;obtain⟨h1,h2⟩:=Ue ly i a ha;obtain⟨r,hr,rfl⟩:=Za0.mp hm;obtain⟨⟨r0,r1⟩,hn,_⟩:=HX.mp hr;have hi:a[i]? =some V.ag:=by rw[h2 i (Zaq _)];exact hx
   refine⟨Ck h1 hi r0 r1 hn,fun j hj=> ?_⟩;rw[ZdQ .o];exact h2 j .o
  ·obtain⟨h1,h2⟩:=Ue ly i p hp;exact⟨h1,fun j hj=>h2 j .o⟩
def oz (hg:Nat)(xs:List V)(i j:Nat):List (List V):=((dR hg xs i).take j).flatMap fun p=> (fj hg p i).map fun r=>p.set i (.int r)
theorem Zbk {hg:Nat}{xs:List V}{i j:Nat}{p:List V}(e:(dR hg xs i)[j]? =some p):oz hg xs i (j+1)=oz hg xs i j++(fj hg p i).map fun r=>p.set i (.int r):=by unfold oz;rw[ZaT,e,ZcU];simp
section
variable {P:Program}{w:World}{K:ZgE}{mg:Str->Option Value}{base:Heap}
abbrev pB:Stmt:=top 40
def yk:Sp:=fun vs H Q _=> ∃x y wd hg xs,vs=[x,y]/\fU H x y wd hg xs/\wd<=6/\hg<=7/\∀H',ak H H'->Q .ag H'
theorem yB:aH ["board", "lay"] ["board", "lay"] (ay pB):=Zz (by decide+kernel)
theorem MU {f:Addr}{fd:FuncData}(F:aE K "need_small" "need_small" pB f fd)(G:Gs mg)(uo:Def P w K mg base 6 "need_lay" ["board", "lay"] o8)(CT:Def P w K mg base 1 "need_at_most" ["board", "wide", "high"] yn):aw P w K mg base aF 7 f fd ["board", "lay"] yk:=by
 obtain⟨Ku,Br⟩:=G.Ec;obtain⟨qS,qu⟩:=G.Ee;refine F.ok yB (fun vs H Q E h=> ?_) (fun cdv A outer s H vs Q E hr h=> ?_)
 ·obtain⟨x,y,wd,hg,xs,rfl,_⟩:=h;rfl
 ·obtain⟨x,y,wd,hg,xs,rfl,la,w6,g7,q⟩:=h;refine⟨_,Ze (ZR (Zh uo hr (Za (pv 0) (Za (pv 1) Zb))))
   (Zg (ZR (Zh CT (hr.mono .d) (Za (pv 0) (Za (ZK (v:=.int 6) rfl Br ⟨_,rfl⟩) (Za (ZK (v:=.int 7) rfl qu ⟨_,rfl⟩) Zb)))))),?_⟩
  refine Zj ⟨_,rfl,_,rfl,x,y,wd,hg,xs,rfl,la,fun H1 s1=> ?_⟩;dsimp only;obtain⟨b,rfl,hb⟩:=ZB la.1.1;exact⟨_,rfl,b,wd,hg,6,7,rfl,s1 _ _ hb,w6,g7,q H1 s1⟩
abbrev pH:Stmt:=top 42
def kP:Sp:=fun vs H Q _=> ∃(b l:Addr) (wd hg:Int) (xs:List V),vs=[.ref b,.ref l]/\cX H (.ref b) wd hg/\H l=some (.tup xs)/\bq wd hg xs/\wd<=6/\hg<=7/\∀(q:Addr) (H':Hp) (ts:List V),ak H H'->H q=none->H' q=some (.lst ts)->Paired (dn H') ts (ba hg.toNat xs xs.length)->Q (.ref q) H'
theorem pA:aH ["board", "lay", "found", "line"] ["board", "lay"] (ay pH):=Zz (by decide+kernel)
theorem M4 {f:Addr}{fd:FuncData}(F:aE K "all_fits" "all_fits" pH f fd)(G:Gs mg)(CQ:Def P w K mg base 7 "need_small" ["board", "lay"] yk)(CO:Def P w K mg base 111 "is_unlike" ["board", "lay"] uH)(iE:Def P w K mg base 1 "with_point" ["lay", "line", "row"] oX)(uq:Def P w K mg base 112 "free_rows" ["board", "lay", "line"] mB):aw P w K mg base aF 113 f fd ["board", "lay"] kP:=by
 refine F.ok pA (fun vs H Q E h=> ?_) (fun cdv A outer s H vs Q E hr h=> ?_)
 ·obtain⟨b,l,wd,hg,xs,rfl,_⟩:=h;rfl
 ·obtain⟨b,l,wd,hg,xs,rfl,bd,hl,ly,w6,g7,q⟩:=h;refine⟨_,Ze (ZR (Zh CQ (hr.mono .d) (Za (pv 0) (Za (pv 1) Zb))))
   (Ze (ZF (i:=2) pA.nd rfl (Or.inl rfl) (Yt (Z0 (Zh CO (hr.mono .d) (Za (pv 0) (Za (pv 1) Zb)))) (ZH (Za (pv 1) Zb)) (ZH Zb)))
   (Ze (Yx Zb6 rfl (ZV rfl G.range (Za (Zq ZE (pv 0) Zf (fun _ _=>rfl)) Zb)) (Zx (i:=3) pA.nd rfl (Or.inr rfl))
    (Zg (ZN (YM (Ju (Zq ZE (pv 1) (pv 3) (fun _ _=>rfl))))
     (Zg (Y0 ["part", "row", "board", "line"] 2 [0,3] (i:=2) pA.nd rfl (Or.inl rfl) (ZW (pv 2)) (fun C s H fp=>pb 0) (fun C s H fp=>Z1)
      (fun C s H fp D=>Ie rfl rfl rfl (show PI (aK _ _ _ C s H fp) _ _ (AA K _) from ZW (Zh uq hr (Za (pv 2) (Za (pv 0) (Za (pv 3) Zb)))))
       (show PG (aK _ _ _ C s H fp) _ (bQ 1) from pb 1) Z1 (cz rfl (Zh iE (hr.mono .d) (Za (pv 0) (Za (pv 3) (Za (pv 1) Zb))))) (by intro _;rfl) (by intro g' h;cases h)))) Zy)))
   (Zg (Zo (pv 2))))),?_⟩
  obtain⟨b',eb,hb⟩:=ZB bd.1;cases eb;obtain⟨_,w1,_,g1,_⟩:=id bd;have eH:(hg.toNat:Int)=hg:=.o;have nD:bq wd (hg.toNat:Int) xs:=by rw[eH];exact ly
  have wB:hg.toNat<=7:=.o;have ll:=ly.len;have eq:=S4 nD;refine Zj ⟨_,rfl,_,rfl,.ref b,.ref l,wd,hg,xs,rfl,⟨bd,ZI hl,ly⟩,w6,g7,fun H1 s1=> ?_⟩;dsimp only;have cg:=s1 _ _ hl;refine Zj (Zu (T.C9 (t:=xY _ _ _) (fun v H'=> ∃fa ts,v=.ref fa/\ak H H'/\H fa=none/\H' fa=some (.lst ts)/\Paired (dn H') ts (dR hg.toNat xs 0)) ?_ ?_))
  case refine_2=>
   intro Q' hq;refine⟨_,rfl,_,rfl,.ref b,.ref l,wd,hg,xs,rfl,⟨bd.same s1,ZI cg,ly⟩,Hd .o,fun H2 r s2 fi=> ⟨_,rfl,?_⟩⟩;rw[GR fi];have mJ:=s1.trans s2;have eB:=s2 _ _ cg;have e0:dR hg.toNat xs 0=if bF xs=true then [xs] else []:=rfl
   cases hu:bF xs with
   |true=>rw[hu,ZaG rfl]at e0;refine aB ⟨_,rfl,bH,fun L hL=>hq _ _ ⟨L,_,rfl,mJ.trans (ZL hL),mJ.free hL,Zc,?_⟩⟩;rw[e0];exact .cons ⟨l,rfl,ZL hL _ _ eB⟩ .nil
   |false=>rw[hu,ZaD Zaj]at e0;refine az ⟨ZaP _,fun L hL=>hq _ _ ⟨L,_,rfl,mJ.trans (ZL hL),mJ.free hL,Zc,?_⟩⟩;rw[e0];exact .nil
  rintro v H2 ⟨Qz,Kq,rfl,s2,n2,e2,cb⟩;refine Zl ?_;dsimp only[List.set];refine Zj ⟨_,rfl,b,_,_,_,rfl,rfl,aq.of (s2 _ _ hb),gF,wd,rfl,.o,.o,?_⟩;refine Yh (n:=wd.toNat) (fun i σ H'=> ∃fa ts v,σ=[some (.ref b),some (.ref l),some (.ref fa),v]/\ak H H'/\H fa=none/\H' fa=some (.lst ts)/\Paired (dn H') ts (dR hg.toNat xs i)) ⟨Qz,Kq,_,rfl,s2,n2,e2,cb⟩ ?_ ?_
  ·rintro i σ H3 hi ⟨fa,ts,v,rfl,s3,nh,jD,bO⟩;rw[Zcm];refine Zl ?_;dsimp only[List.set];have jw:i<xs.length:=.o;obtain⟨v,hv⟩:∃v,xs[i]? =some v:=⟨_,Zax jw⟩;have aT:=Vg nD wB (i:=i) .o .o;have jg:=Za6 bO;have es:dR hg.toNat xs (i+1)=if xs[i]? =some V.ag then (dR hg.toNat xs i).flatMap fun p=> (fj hg.toNat p i).map fun r=>p.set i (.int r) else dR hg.toNat xs i:=rfl
   rw[hv]at es;refine⟨_,rfl,_,rfl,l,xs,(i:Int),v,rfl,rfl,aq.of (s3 _ _ hl),Ya hv,_,rfl,?_⟩;rcases ly.ok v (ZaC hv) with rfl |⟨r,rfl⟩
   ·rw[ZaG rfl]at es;refine aB ⟨_,rfl,fa,rfl,⟨ts,ao.of jD⟩,?_⟩;refine ZQ (xs:=ts) (fun j ys σ H4=> ∃v0 v1,σ=[v0,v1,some (.ref b),some (.int (i:Int))]/\ak H3 H4/\Paired (dn H4) ys (oz hg.toNat xs i j)/\ys.length<=j*7) ⟨_,_,rfl,ak.refl _,.nil,ZaP _⟩ (fun j ys σ H4 _ ⟨_,_,_,s4,_⟩=>ao.of (s4 _ _ jD)) ?_ ?_
    ·rintro j v ys σ H4 gT ⟨v0,v1,rfl,s4,kr,nY⟩;obtain⟨p,hp,t,rfl,ht⟩:=Paired.at bO gT;have hj:j<ts.length:=(Zaa.mp gT).1;obtain⟨Al,tail⟩:=Ue nD i p (ZaC hp);have lp:=Al.len;rw[eH]at Al;have hx:p[i]? =some V.ag:=by rw[tail i (Zaq _)];exact hv
     have fG:=s4 _ _ ht;refine Zl ?_;dsimp only[List.set]
     try unfold mw
     refine aB ?_;refine⟨_,rfl,_,rfl,_,rfl,b,t,i,wd,hg,p,rfl,bd.same (s3.trans s4),fG,Al,(fun r=>Hd (by rw[Zd7];omega)),hx,fun fb H5 s5 nf ef=> ?_⟩;have fl:=US hg.toNat p i;have l0:=Zbk hp;generalize fj hg.toNat p i=fr at ef fl l0;refine⟨fb,rfl,⟨_,ao.of ef⟩,?_⟩;refine ZQ (xs:=fr.map V.int) (fun k zs σ H6=> ∃v1,σ=[some (.ref t),v1,some (.ref b),some (.int (i:Int))]/\ak H5 H6/\Paired (dn H6) zs (oz hg.toNat xs i j++(fr.take k).map fun r=>p.set i (.int r))/\zs.length<=j*7+k) ⟨_,rfl,ak.refl _,by simpa using Paired.bj kr fun v q' hq=>dn.same hq s5,nY⟩ (fun k zs σ H6 _ ⟨_,_,s6,_⟩=>ao.of (s6 _ _ ef)) ?_ ?_
     ·rintro k u zs σ H6 hu ⟨v1,rfl,s6,kZ,sE⟩;rw[Zbi]at hu;obtain⟨r,cQ,rfl⟩:=Za2.mp hu;have hk:k<fr.length:=(Zaa.mp cQ).1;refine Zl ?_;dsimp only[List.set]
      try unfold mw
      refine aB ?_;refine⟨_,rfl,_,rfl,_,rfl,t,p,i,.int r,rfl,(s5.trans s6) _ _ fG,.o,.o,fun t7 H7 s7 e7=> ⟨by rw[Zaz];omega,_,rfl,s6.trans s7,?_,by rw[Zam];simp;omega⟩⟩;rw[ZaT,cQ,ZaF,<-Zb7];exact Zdc (Paired.bj kZ fun v q' hq=>dn.same hq s7) ⟨t7,rfl,e7⟩
     ·rintro zs σ H6 ⟨v1,rfl,s6,kZ,sE⟩;rw[Zae]at kZ sE;rw[ZaH]at kZ;refine⟨_,_,rfl,s4.trans (s5.trans s6),?_,.o⟩;rw[l0];exact kZ
    ·rintro ys σ H4 ⟨v0,v1,rfl,s4,kr,nY⟩ p hp;dsimp only[List.set];have s5:=ZL (o:=.lst ys) hp;refine⟨p,ys,_,rfl,s3.trans (s4.trans s5),s3.free (s4.free hp),Zc,?_⟩;have e:oz hg.toNat xs i ts.length=dR hg.toNat xs (i+1):=by unfold oz;rw[jg,ZaH,es]
     rw[<-e];exact Paired.bj kr fun v q' hq=>dn.same hq s5
   ·rw[ZaD (by intro z;cases z)]at es;refine az (Zw ⟨fa,ts,_,rfl,s3,nh,jD,?_⟩);rw[es];exact bO
  ·rintro σ H3 ⟨fa,ts,v,rfl,s3,nh,jD,bO⟩;have e:dR hg.toNat xs wd.toNat=ba hg.toNat xs xs.length:=by rw[show wd.toNat=xs.length by omega];exact eq
   rw[e]at bO;exact⟨_,rfl,q fa H3 ts s3 nh jD bO⟩
end
end U.S
namespace L2
open PySem PySem.Spec PyProof.Rows
theorem Tc {a b:Key}(h:kV a=kV b):a=b:=by cases a<;>cases b<;>first |(cases h;rfl) |cases h
theorem DC.FH:∀{ps qs:List (Key×V)},DC.iw ps=DC.iw qs->ps=qs
 | [],[],_=>rfl
 | [],q::qs,h=>by cases h
 |p::ps,[],h=>by cases h
 |(a,v)::ps,(b,w)::qs,h=>by have h':kV a::v::DC.iw ps=kV b::w::DC.iw qs:=h;injection h' with h1 h2;injection h2 with h2 h3;rw[Tc h1,h2,DC.FH h3]
theorem UF {j:Nat}(h:j<1000):((j:Int)).natAbs.log2<1920:=by
 rw[Int.natAbs_natCast];by_cases h0:j=0
 ·subst h0;decide
 ·exact(Nat.log2_lt h0).mpr (Zaw h (ZaL (by decide:1000<=2^10) (Nat.pow_le_pow_right .d .d)))
end L2
namespace U
open PySem L2 PyProof.Rows
def lg (n:Nat):List (Key×V):=(List.range n).map fun(k:Nat)=> (.inr (Str.ofString (toString (k:Int))),.int (k:Int))
theorem XI (n:Nat):lg (n+1)=lg n++[(.inr (Str.ofString (toString (n:Int))),.int (n:Int))]:=by unfold lg;rw[Zcq,ZaF];rfl
def hJ (z:Str):V:=(bD (DC.ir (lg 100)) (.inr z)).getD .ag
section
variable {P:Program}{w:World}{K:ZgE}{mg:Str->Option Value}{base:Heap}
abbrev zj:Stmt:=top 46
theorem Dw:aH ["word", "numbers"] ["word"] (ay zj):=Zz (by decide+kernel)
def yl:Sp:=fun vs H Q _=> ∃z:Str,vs=[.str z]/\∀H',ak H H'->Q (hJ z) H'
theorem Ss {f:Addr}{fd:FuncData}(F:aE K "number_of" "number_of" zj f fd)(G:Gs mg):aw P w K mg base aF 1 f fd ["word"] yl:=by
 refine F.ok Dw (fun vs H Q E h=> ?_) (fun cdv A outer s H vs Q E hr h=> ?_)
 ·obtain⟨z,rfl,_⟩:=h;rfl
 ·obtain⟨z,rfl,q⟩:=h;have hu:=W8 hr;refine⟨_,Ze (DC.Mv (elt:=(_,_)) ["number"] 1 [] (i:=1) Dw.nd rfl (Or.inl rfl) (ZV rfl G.range (Za Zf Zb)) (fun C s H fp=>pb 0) (fun C s H fp=>Z1) (fun C s H fp D=>DC.cz rfl (ZD Zv rfl G.str PyProof.Rows.Boot.«str» (Za (pv 0) Zb)) (pv 0)))
   (Zg (Zo (Xl hu (pv 1) (pv 0) ⟨rfl,rfl,rfl,rfl⟩))),?_⟩
  refine Zj (Zu ⟨100,rfl,.d,.d,?_⟩);refine Y5 (n:=(100:Int).toNat) (fun j ys ah H'=>H'=H/\ys=DC.iw (lg j)/\∃v,ah=[v]) ⟨rfl,rfl,none,rfl⟩ ?_ ?_
  ·rintro j ys ah H' hj ⟨rfl,rfl,v,rfl⟩;have Pj:j<100:=hj;rw[Zcm];refine Zl ?_;dsimp only[List.set]
   try unfold mw
   refine aB ⟨_,rfl,(j:Int),rfl,UF .o,_,rfl,.inr (Str.ofString (toString (j:Int))),rfl,?_,rfl,?_,_,rfl⟩
   ·rw[DC.FG];unfold lg;rw[Zae,ZcR,Zaz];omega
   ·rw[XI,DC.FF]
  ·rintro ys ah H' ⟨rfl,rfl,v,rfl⟩ ps ep D hD;have tI:=DC.FH ep;subst tI;refine Zl ?_;dsimp only[List.set];have m:=Zk (o:=.dK (DC.ir (lg (100:Int).toNat))) hD;exact⟨_,rfl,D,rfl,.inl ⟨_,.inl Zc⟩,_,rfl,_,ka.k (k:=.inr z) Zc,q _ m⟩
end
def gO:V->Str
 | .int r=>Str.ofString (toString r)
 |_=> "."
def jx (wd hg:Int):Str:=Str.ofString (toString wd)++ "x" ++Str.ofString (toString hg)++ ":"
def dz (wd hg:Int)(xs:List V):Str:=Txt.join " " (jx wd hg::xs.map gO)
theorem WZ (sep:Str):∀(ws:List Str) (h:Str),(⟨ws.foldl (fun acc p=>acc++sep.cps++p.cps) h.cps⟩:Str)=ws.foldl (fun t w=>t++sep++w) h
 | [],h=>rfl
 |w::ws,h=>WZ sep ws (h++sep++w)
theorem YA (sep h:Str)(ws:List Str):Txt.join sep (h::ws)=ws.foldl (fun t w=>t++sep++w) h:=WZ sep ws h
theorem X8 (sep h:Str)(ws:List Str)(w:Str):Txt.join sep (h::(ws++[w]))=Txt.join sep (h::ws)++sep++w:=by rw[YA,YA,List.foldl_append];rfl
theorem YJ {n:Int}(h0:0<=n)(h:n<=12):(Str.ofString (toString n)).length<=2:=by have c:n=0∨n=1∨n=2∨n=3∨n=4∨n=5∨n=6∨n=7∨n=8∨n=9∨n=10∨n=11∨n=12:=.o;rcases c with rfl |rfl |rfl |rfl |rfl |rfl |rfl |rfl |rfl |rfl |rfl |rfl |rfl<;>decide
theorem Io (sep:Str):∀ws:List Str,(∀w∈ws,w.length<=20)->(ws.map (·.length)).sum<=20*ws.length
 | [],_=>Zaq _
 |w::ws,h=>by have h1:=h w Zai;have h2:=Io sep ws fun u hu=>h u (Zad _ hu);rw[ZaQ,List.sum_cons,ZaE];omega
theorem Hh {ws:List Str}(h:∀w∈ws,w.length<=20)(hl:ws.length<=1000):JoinOk " " ws=true:=by unfold JoinOk Builtin.Str.tooLong;rw[StrLaws.joinTotal];have h1:=Io " " ws h;have h2:(Str.ofString " ").length=1:=.d;rw[h2,Zav (by rw[Zaz];omega)];rfl
theorem Ct {wd hg:Int}{xs:List V}(ly:bq wd hg xs)(g:hg<=12):∀w∈xs.map gO,w.length<=20:=fun w hw=>by
 obtain⟨v,hv,rfl⟩:=Za0.mp hw;by_cases hn:v=.ag
 ·subst hn;decide
 ·have hm:v∈rowsOf xs:=ZaK.mpr ⟨hv,by simp[hn]⟩;have q:=ly.row v hm;cases v with
  |int r=>have q':(decide (0<=r)&&decide (r<=hg-1))=true:=q;rw[ZaJ,Za5,Za5]at q';have:=YJ (n:=r) q'.1 .o;show(Str.ofString (toString r)).length<=20;omega
  |_=>show(Str.ofString ".").length<=20;decide
theorem HJ {wd hg:Int}(w1:1<=wd)(i8:wd<=12)(g1:1<=hg)(iq:hg<=12):(jx wd hg).length<=6:=by have h1:=YJ (n:=wd) .o i8;have h2:=YJ (n:=hg) .o iq;have h3:(Str.ofString "x").length=1:=.d;have h4:(Str.ofString ":").length=1:=.d;unfold jx;rw[ZaM,ZaM,ZaM];omega
theorem ZO {i:Int}(h0:0<=i)(h:i<1000):i.natAbs.log2<1920:=by obtain⟨j,rfl⟩:∃j:Nat,i=j:=⟨i.toNat,.o⟩;exact UF .o
section
variable {P:Program}{w:World}{K:ZgE}{mg:Str->Option Value}{base:Heap}
abbrev zr:Stmt:=top 47
theorem Dy:aH ["board", "lay", "rows"] ["board", "lay"] (ay zr):=Zz (by decide+kernel)
def o9:Sp:=fun vs H Q _=> ∃(b l:Addr) (wd hg:Int) (xs:List V),vs=[.ref b,.ref l]/\cX H (.ref b) wd hg/\H l=some (.tup xs)/\bq wd hg xs/\∀H',ak H H'->Q (.str (dz wd hg xs)) H'
theorem So {f:Addr}{fd:FuncData}(F:aE K "lay_text" "lay_text" zr f fd)(G:Gs mg)(uo:Def P w K mg base 6 "need_lay" ["board", "lay"] o8):aw P w K mg base aF 7 f fd ["board", "lay"] o9:=by
 refine F.ok Dy (fun vs H Q E h=> ?_) (fun cdv A outer s H vs Q E hr h=> ?_)
 ·obtain⟨b,l,wd,hg,xs,rfl,_⟩:=h;rfl
 ·obtain⟨b,l,wd,hg,xs,rfl,bd,hl,ly,q⟩:=h;refine⟨_,Ze (ZR (Zh uo hr (Za (pv 0) (Za (pv 1) Zb))))
   (Ze (Y0 ["row"] 1 [] (i:=2) Dy.nd rfl (Or.inl rfl) (J0 (pv 1)) (fun C s H fp=>pb 0) (fun C s H fp=>Z1) (fun C s H fp D=>cz rfl (Yt (YM (Ju (pv 0))) Zr (ZD Zv rfl G.str PyProof.Rows.Boot.«str» (Za (pv 0) Zb)))))
   (Zg (Zo (Y6 ZcC Zc9 Zda JI Zr (Za (Zp YE (ZH (Za (Xn (Zq ZE (pv 0) Zf (fun _ _=>rfl)) Zr (Zq ZE (pv 0) Zf (fun _ _=>rfl)) Zr) Zb)) (pv 2)) Zb))))),?_⟩
  refine Zj ⟨_,rfl,_,rfl,.ref b,.ref l,wd,hg,xs,rfl,⟨bd,ZI hl,ly⟩,fun H1 s1=> ?_⟩;dsimp only;have cg:=s1 _ _ hl;obtain⟨b',eb,hb⟩:=ZB bd.1;cases eb;obtain⟨_,w1,i8,g1,iq⟩:=id bd;have hlen:=ly.len;refine Zj (Zu ⟨_,rfl,l,rfl,⟨_,aq.of cg⟩,?_⟩);refine Y9 (xs:=xs) (fun j ys ah H'=>H'=H1/\ys=((xs.take j).map gO).map V.str/\∃v,ah=[v]) ⟨rfl,rfl,none,rfl⟩ (fun j ys ah H' _ ⟨e,_⟩=>by rw[e];exact aq.of cg) ?_ ?_
  ·rintro j y ys ah H' hy ⟨rfl,rfl,v,rfl⟩;have hj:=(Zaa.mp hy).1;refine Zl ?_;dsimp only[List.set]
   try unfold mw
   have ln:(List.map V.str (List.map gO (List.take j xs))).length<sizeLine:=by rw[Zae,Zae,ZaW,Zaz];omega
   have es:((xs.take (j+1)).map gO).map V.str=((xs.take j).map gO).map V.str++[V.str (gO y)]:=by rw[ZaT,hy,ZaF,ZaF];rfl
   refine aB ⟨_,rfl,_,rfl,?_⟩;rcases ly.ok y (ZaC hy) with rfl |⟨r,rfl⟩
   ·exact aB ⟨ln,rfl,es.symm,_,rfl⟩
   ·have hm:V.int r∈rowsOf xs:=ZaK.mpr ⟨ZaC hy,by simp⟩;have q':(decide (0<=r)&&decide (r<=hg-1))=true:=ly.row _ hm;rw[ZaJ,Za5,Za5]at q';exact az ⟨_,rfl,r,rfl,ZO q'.1 .o,ln,rfl,es.symm,_,rfl⟩
  ·rintro ys ah H' ⟨rfl,rfl,v,rfl⟩ L hL;rw[ZaH];obtain⟨H2,zz,m1,e1⟩:=da (o:=.lst ((xs.map gO).map V.str)) hL;rw[zz];refine Zl ?_;dsimp only[List.set];have jU:=m1 _ _ (s1 _ _ hb);have a1:=YJ (n:=wd) .o i8;have a2:=YJ (n:=hg) .o iq;have a3:(Str.ofString "x").length=1:=.d;have a4:(Str.ofString ":").length=1:=.d;have a5:Str.empty.length=0:=.d;refine⟨rfl,?_⟩;refine⟨_,rfl,b,_,_,_,rfl,rfl,aq.of jU,gF,wd,rfl,ZO .o .o,by rw[ZaM,Zaz];omega,_,rfl,by rw[ZaM,ZaM,Zaz];omega,_,rfl,b,_,_,_,rfl,rfl,aq.of jU,dE,hg,rfl,ZO .o .o,by rw[ZaM,ZaM,ZaM,Zaz];omega,_,rfl,by rw[ZaM,ZaM,ZaM,ZaM,Zaz];omega,?_⟩;have eh:Str.empty++Str.ofString (toString wd)++ "x" ++Str.ofString (toString hg)++ ":" =jx wd hg:=by unfold jx;rw[Str.empty_append]
   rw[eh];refine⟨bH,fun d hd=> ?_⟩;have m2:=Zk (o:=.lst [V.str (jx wd hg)]) hd;refine⟨_,rfl,d,L,_,_,rfl,rfl,Zc,m2 _ _ e1,by rw[Zae,Zae,Zaz];show 1+xs.length<=_;omega,fun d2 hd2=> ?_⟩;have m3:=Zk (o:=.lst ([V.str (jx wd hg)]++(xs.map gO).map V.str)) hd2;refine⟨" ",d2,jx wd hg::xs.map gO,rfl,rfl,ao.of Zc,Hh (fun u hu=> ?_) (by rw[ZaE,Zae];omega),q _ (s1.trans (m1.trans (m2.trans m3)))⟩;rcases Zaf.mp hu with rfl |hu
   ·have:=HJ w1 i8 g1 iq;omega
   ·exact Ct ly iq u hu
end
section
variable {P:Program}{w:World}{K:ZgE}{mg:Str->Option Value}{base:Heap}{cB cL:Addr}
abbrev yY:Stmt:=top 74
theorem u5:aH ["_law_board", "_law_lay", "_law_text_here", "_law_row"] ["_law_board", "_law_lay"] (ay yY):=Zz (by decide+kernel)
theorem Iv (wd hg:Int){xs:List V}{j:Nat}{y:V}(h:xs[j]? =some y):dz wd hg (xs.take (j+1))=dz wd hg (xs.take j)++ " " ++gO y:=by unfold dz;rw[ZaT,h];show Txt.join " " (jx wd hg::(xs.take j++[y]).map gO)=_;rw[ZaF];exact X8 " " (jx wd hg) ((xs.take j).map gO) (gO y)
theorem WX {wd hg:Int}{xs:List V}(w1:1<=wd)(i8:wd<=12)(g1:1<=hg)(iq:hg<=12)(ly:bq wd hg xs):∀j,j<=xs.length->(dz wd hg (xs.take j)).length<=6+21*j
 |0,_=>by have:=HJ w1 i8 g1 iq;show(Txt.join " " [jx wd hg]).length<=_;rw[YA];exact this
 |j+1,hj=>by have ih:=WX w1 i8 g1 iq ly j .o;have hy:xs[j]? =some xs[j]:=Zax .o;have hr:=Ct ly iq _ (Zb4 (ZaC hy));have h1:(Str.ofString " ").length=1:=.d;rw[Iv wd hg hy,ZaM,ZaM];omega
theorem SG {f:Addr}{fd:FuncData}(F:aE K "_law_text" "_law_text" yY f fd)(G:Gs mg):aw P w K mg base aF 1 f fd ["_law_board", "_law_lay"] o9:=by
 refine F.ok u5 (fun vs H Q E h=> ?_) (fun cdv A outer s H vs Q E hr h=> ?_)
 ·obtain⟨b,l,wd,hg,xs,rfl,_⟩:=h;rfl
 ·obtain⟨b,l,wd,hg,xs,rfl,bd,hl,ly,q⟩:=h;refine⟨_,Ze (ZF (i:=2) u5.nd rfl (Or.inl rfl) (Zp Z9 (Zp Z9 (Zp Z9 (ZD Zv rfl G.str PyProof.Rows.Boot.«str» (Za (Zq ZE (pv 0) Zf (fun _ _=>rfl)) Zb)) Zr) (ZD Zv rfl G.str PyProof.Rows.Boot.«str» (Za (Zq ZE (pv 0) Zf (fun _ _=>rfl)) Zb))) Zr))
   (Ze (Yx Zb6 rfl (J0 (pv 1)) (Zx (i:=3) u5.nd rfl (Or.inl rfl))
    (Zg (ZF (i:=2) u5.nd rfl (Or.inl rfl) (Zp Z9 (Zp Z9 (pv 2) Zr) (Yt (YM (Ju (pv 3))) Zr (ZD Zv rfl G.str PyProof.Rows.Boot.«str» (Za (pv 3) Zb)))))))
   (Zg (Zo (pv 2)))),?_⟩
  obtain⟨b',eb,hb⟩:=ZB bd.1;cases eb;obtain⟨_,w1,i8,g1,iq⟩:=id bd;have hlen:=ly.len;have a1:=YJ (n:=wd) .o i8;have a2:=YJ (n:=hg) .o iq;have a3:(Str.ofString "x").length=1:=.d;have a4:(Str.ofString ":").length=1:=.d;have a5:(Str.ofString " ").length=1:=.d;refine Zj (Zu ?_);refine⟨_,rfl,b,_,_,_,rfl,rfl,aq.of hb,gF,wd,rfl,ZO .o .o,_,_,rfl,rfl,by rw[Zaz];omega,_,rfl,b,_,_,_,rfl,rfl,aq.of hb,dE,hg,rfl,ZO .o .o,_,_,rfl,rfl,by rw[ZaM,Zaz];omega,_,_,rfl,rfl,by rw[ZaM,ZaM,Zaz];omega,Zl ?_⟩;dsimp only[List.set];refine Zj ⟨_,rfl,l,rfl,⟨xs,aq.of hl⟩,?_⟩;refine S5 (xs:=xs) (fun i σ H'=> ∃v3,σ=[some (.ref b),some (.ref l),some (.str (dz wd hg (xs.take i))),v3]/\H'=H) ⟨none,?_,rfl⟩ (fun i σ H' _ ⟨_,_,s'⟩=>by rw[s'];exact aq.of hl) ?_ ?_
  ·rfl
  ·rintro i y σ H2 hy ⟨v3,rfl,rfl⟩;have hi:=(Zaa.mp hy).1;have hL:=WX w1 i8 g1 iq ly i .o;have es:=Iv wd hg hy;have hr:=Ct ly iq _ (Zb4 (ZaC hy));refine Zl ?_;dsimp only[List.set];refine Zu ?_;refine⟨_,rfl,_,_,rfl,rfl,by rw[Zaz];omega,_,rfl,_,rfl,?_⟩;rcases ly.ok y (ZaC hy) with rfl |⟨r,rfl⟩
   ·exact aB ⟨_,_,rfl,rfl,by rw[ZaM,Zaz];have:(Str.ofString ".").length=1:=(by decide);omega,Zl ⟨_,by rw[es];rfl,rfl⟩⟩
   ·have hm:V.int r∈rowsOf xs:=ZaK.mpr ⟨ZaC hy,by simp⟩;have q':(decide (0<=r)&&decide (r<=hg-1))=true:=ly.row _ hm;rw[ZaJ,Za5,Za5]at q';have cQ:(Str.ofString (toString r)).length<=20:=hr;exact az ⟨_,rfl,r,rfl,ZO q'.1 .o,_,_,rfl,rfl,by rw[ZaM,Zaz];omega,Zl ⟨_,by rw[es];rfl,rfl⟩⟩
  ·rintro σ H2 ⟨v3,rfl,rfl⟩;rw[ZaH];exact⟨_,rfl,q _ (ak.refl _)⟩
end
theorem HE:∀(ps d:List (Key×V)),(∀p∈ps,∃i,p.2=V.int i)->(∀j y,bD d j=some y->∃i,y=V.int i)->∀j y,bD (ps.foldl (fun d p=>putK d p.1 p.2) d) j=some y->∃i,y=V.int i
 | [],d,_,h=>h
 |p::ps,d,h,hd=>by
  refine HE ps _ (fun q hq=>h q (Zad _ hq)) fun j y e=> ?_;rw[V4]at e;split at e
  ·cases e;exact h p Zai
  ·exact hd j y e
theorem XJ (z:Str):hJ z=.ag∨∃i,hJ z=.int i:=by
 unfold hJ;cases h:bD (DC.ir (lg 100)) (.inr z) with
 |none=>exact .inl rfl
 |some y=>refine .inr (HE _ [] (fun p hp=> ?_) (fun j y e=>by cases e) _ _ h);obtain⟨k,_,rfl⟩:=Za0.mp hp;exact⟨_,rfl⟩
theorem Tb (sep:Str)(ws:List Str):Txt.join sep ws=Str.join sep ws:=StrLaws.glued_eq_join sep ws
theorem GO:(" " :Str)=⟨#[32]⟩:=by decide+kernel
end U
namespace L2
open PySem PySem.StrLaws
theorem UJ (x:Str)(w:Nat):∀(Gg:List Nat) (a:Nat),(partsFrom x w a Gg).length=Gg.length+1
 | [],a=>rfl
 |c::r,a=>Zcr (· +1) (UJ x w r _)
theorem Tq (z:Str)(c:Nat):Builtin.Str.occurrences z ⟨#[c]⟩ 0 z.length (z.length+1)=(List.range' 0 (z.length+1)).filter (eX z ⟨#[c]⟩ z.length):=by have hw:(⟨#[c]⟩:Str).length=1:=rfl;rw[occ_eq,ZfP,Ww hw z.length (z.length+1) (z.length+1) 0 (#[],0) (Zaq _) (by show 0+(z.length+1)<=_;omega)];rfl
theorem Zbv (z:Str)(c:Nat):(Builtin.Str.partsBetween z (Builtin.Str.occurrences z ⟨#[c]⟩ 0 z.length (z.length+1)) (⟨#[c]⟩:Str).length).length<=z.length+2:=by rw[partsBetween_eq,UJ,Tq];have:=Zbh (eX z ⟨#[c]⟩ z.length) (List.range' 0 (z.length+1));rw[List.length_range']at this;omega
theorem SX (c:Nat):∀l:List Nat,eF c l≠[]
 | [],h=>by cases h
 |d::l,h=>by
  unfold eF at h;split at h
  ·cases h
  ·split at h<;>cases h
theorem UZ (c:Nat):∀(l:List Nat),(eF c l).length<=l.length+1
 | []=>Zaq _
 |d::l=>by
  have ih:=UZ c l;unfold eF;split
  ·exact Zc6 ih
  ·split
   ·rename_i q r e;rw[e]at ih;exact ZcP ih
   ·exact Zc6 (ZaP _)
theorem V0 {z:Str}{c:Nat}(hc:c<256):∃h r,Txt.split z ⟨#[c]⟩=h::r:=by
 have e:=Js (z:=z) hc;cases hs:Txt.split z ⟨#[c]⟩ with
 |nil=>rw[hs]at e;exact absurd e.symm (SX c _)
 |cons h r=>exact⟨h,r,rfl⟩
theorem XT {z:Str}{c:Nat}(hc:c<256):(Txt.split z ⟨#[c]⟩).length<=z.length+1:=by have e:=Zcr List.length (Js (z:=z) hc);rw[Zae]at e;rw[e];have:=UZ c z.cps.toList;rw[Zbq]at this;exact this
end L2
namespace U
open PySem L2 PyProof.Rows
def pV:List (Key×V):=[(.inr "board",.int 2),(.inr "put",.int 2),(.inr "take",.int 1),(.inr "back",.int 0),(.inr "shown",.int 0),(.inr "like",.int 0),(.inr "free",.int 1),(.inr "many",.int 0),(.inr "first",.int 0)]
def nA (z:Str):V:=(bD pV (.inr z)).getD .ag
def CD (ns:List V):Prop:=∀v∈ns,v=.ag∨∃i:Int,v=.int i
def gn (z:Str)(ns:List V):Bool:=decide (nA z=.int ns.length)&&(!aX .ag ns&&(!decide (z= "board")||nI (some ns)))
theorem ZbO (z:Str):nA z=.ag∨∃i:Int,nA z=.int i:=by
 unfold nA;cases e:bD pV (.inr z) with
 |none=>exact .inl rfl
 |some v=>refine .inr ?_;unfold bD at e;obtain⟨kv,h1,rfl⟩:=Za2.mp e;have m:=List.mem_of_find?_eq_some h1;unfold pV at m;simp only[Zaf,ZcK,ZdD]at m;rcases m with rfl |rfl |rfl |rfl |rfl |rfl |rfl |rfl |rfl<;>exact⟨_,rfl⟩
section
variable {P:Program}{w:World}{K:ZgE}{mg:Str->Option Value}{base:Heap}
abbrev zm:Stmt:=top 61
theorem LV:aH ["word", "numbers"] ["word", "numbers"] (ay zm):=Zz (by decide+kernel)
inductive yo (vs:List V) (H:Hp) (Q:VK) (E:XK):Prop
 |mk (z:Str) (L:Addr) (ns:List V) (ev:vs=[.str z,.ref L]) (hl:H L=some (.lst ns)) (ok:CD ns) (aT:ns.length<=1000) (q:∀H',ak H H'->Q (.bl (gn z ns)) H')
theorem Sq {f aM:Addr}{fd:FuncData}(F:aE K "makes_line" "makes_line" zm f fd)(G:Gs mg)(mM:mg "MANY_NUMBERS" =some (.ref aM))(dM:iY K w aM pV)(Dib:Def P w K mg base 3 "is_board" ["thing"] (uX K)):aw P w K mg base aF 4 f fd ["word", "numbers"] yo:=by
 refine F.ok LV (fun vs H Q E h=> ?_) (fun cdv A outer s H vs Q E hr h=> ?_)
 ·obtain⟨z,L,ns,rfl,_⟩:=h;rfl
 ·obtain⟨z,L,ns,rfl,hl,ok,aT,q⟩:=h;refine⟨_,Ze (ZN (PW.pt (tW (ZA BZ (XQ (ZK (v:=.ref aM) rfl mM rfl) (pv 0) ⟨rfl,rfl,rfl,rfl⟩) (Zn ZG rfl G.len ZdE (Za (pv 1) Zb)) (bJ _)) (WJ (ZA J5 Yb (pv 1) rfl)))) (Zg (Zo JG)) Zy)
   (Zg (Zo (SJ (Y1 BZ (pv 0) Zr (bJ _)) (YN (Zh Dib hr (Za (ZD Ut rfl G.tuple PyProof.Rows.Boot.«tuple» (Za (pv 1) Zb)) Zb)))))),?_⟩
  have hs:yz (nA z) (.int ns.length)=true:=by rcases ZbO z with h |⟨i,h⟩<;>rw[h]<;>rfl
  have fl:ns.all jA=true:=Zbm.mpr fun v hv=>by rcases ok v hv with rfl |⟨i,rfl⟩<;>rfl
  refine Zj ⟨aM,pV,rfl,dM,_,rfl,.inr z,rfl,_,rfl,L,ns,rfl,.inl (ao.of hl),hs,_,rfl,?_⟩;show if (!decide (nA z=.int ns.length))=true then _ else _
  cases e1:decide (nA z=.int ns.length) with
  |false=>
   have em:gn z ns=false:=by unfold gn;rw[e1];rfl
   rw[em]at q;exact aB (aB (q H (ak.refl H)))
  |true=>
   refine az ⟨_,rfl,L,ns,rfl,.inl (ao.of hl),rfl,fl,_,rfl,?_⟩;cases e2:aX .ag ns with
   |true=>
    have em:gn z ns=false:=by unfold gn;rw[e1,e2];rfl
    rw[em]at q;exact aB (q H (ak.refl H))
   |false=>
    refine az (Zw ?_);dsimp only;refine⟨_,rfl,rfl,_,rfl,?_⟩;show if (!decide (V.str z=V.str "board"))=true then _ else _
    have ez:decide (V.str z=V.str "board")=decide (z= "board"):=by
     by_cases e:z= "board"
     ·rw[e,ZaA rfl,ZaA rfl]
     ·rw[Zav e,Zav fun q=>e (by injection q)]
    rw[ez];cases e3:decide (z= "board") with
    |false=>
     have em:gn z ns=true:=by unfold gn;rw[e1,e2,e3];rfl
     rw[em]at q;exact aB (q H (ak.refl H))
    |true=>
     have em:gn z ns=nI (some ns):=by unfold gn;rw[e1,e2,e3];simp
     rw[em]at q;refine az ⟨_,rfl,L,ns,rfl,.inl ⟨ao.of hl,fun t ht=> ?_⟩⟩;obtain⟨H1,zz,s1,e4⟩:=da (o:=.tup ns) ht;rw[zz];refine⟨.ref t,rfl,?_,fun H2 s2=> ?_⟩
     ·refine⟨⟨_,.tup e4⟩,fun xs ex y hy=> ?_⟩;rw[ZI e4]at ex;cases ex;rcases ok y hy with rfl |⟨i,rfl⟩
      ·exact⟨_,.ag⟩
      ·exact⟨_,.int i⟩
     ·rw[ZI e4];exact q H2 (s1.trans s2)
end
theorem R5 (K:ZgE):PySem.W.kitOne K (.type "str") (.type "str")=some true:=by rfl
abbrev qE:List Value:=[.type "ValueError",.type "Exception",.type "BaseException",.type "object"]
def cn (z:Str):Str:=(Txt.split z ⟨#[32]⟩).headD Str.empty
def cf (z:Str):List V:=(Txt.split z ⟨#[32]⟩).tail.map hJ
theorem Tp (z:Str):CD (cf z):=fun v hv=>by obtain⟨u,_,rfl⟩:=Za0.mp hv;exact XJ u
section
variable {P:Program}{w:World}{K:ZgE}{mg:Str->Option Value}{base:Heap}
abbrev zc:Stmt:=top 62
abbrev Nj:List Str:=["line", "word", "others", "numbers"]
theorem u6:aH Nj ["line"] (ay zc):=Zz (by decide+kernel)
inductive oY (K:ZgE) (cL:Addr) (vs:List V) (H:Hp) (Q:VK) (E:XK):Prop
 |txt (z:Str) (ev:vs=[.str z]) (hz:z.length<=1000) (good:gn (cn z) (cf z)=true->∀(t L:Addr) (H':Hp),ak H H'->H' t=some (.tup [.str (cn z),.ref L])->H' L=some (.lst (cf z))->Q (.ref t) H') (bad:gn (cn z) (cf z)=false->∀e H',ak H H'->E (.ref e) (some cL) H')
 |no (x:V) (t:Value) (ev:vs=[x]) (ty:dF K H x t) (kt:PySem.W.kitOne K t (.type "str")=some false) (bad:∀e H',ak H H'->E (.ref e) (some cL) H')
theorem Sw {f cL:Addr}{fd:FuncData}(F:aE K "read_line" "read_line" zc f fd)(G:Gs mg)(mL:mg "NoLine" =some (.ref cL))(xL:PySem.W.excIn K cL qE "ValueError.__new__" =true)(CS:Def P w K mg base 1 "number_of" ["word"] yl)(CU:Def P w K mg base 4 "makes_line" ["word", "numbers"] yo):
  aw P w K mg base (bc P w) 5 f fd ["line"] (oY K cL):=by
 refine F.eW u6 (fun vs H Q E h=> ?_) (fun cdv A outer s H vs Q E hr h=> ?_)
 ·cases h with
  |txt z ev=>rw[ev];rfl
  |no x t ev=>rw[ev];rfl
 ·refine⟨_,Ze (ZN (Z0 (Zn (Yi (c:= "str")) rfl G.isinstance Za4 (Za (pv 0) (Za (Y2 (v:=.ty "str") rfl G.str boot_str rfl) Zb))))
   (Ze (Yp (Y6 ZcC PySem.F.slot_str_split PySem.F.type_str_split Xx (pv 0) (Za Zr Zb)) (VV rfl (Zx (i:=1) u6.nd rfl (Or.inl rfl)) (Zx (i:=2) u6.nd rfl (Or.inl rfl))))
   (Ze (Y0 ["other"] 1 [] (i:=3) u6.nd rfl (Or.inl rfl) (ZW (pv 2)) (fun C s H fp=>pb 0) (fun C s H fp=>Z1) (fun C s H fp D=>cz rfl (Zh CS (hr.mono .d) (Za (pv 0) Zb))))
   (Zg (ZN (Z0 (Zh CU hr (Za (pv 1) (Za (pv 3) Zb)))) (Zg (Zo (Zt (Za (pv 1) (Za (pv 3) Zb))))) Zy)))) Zy)
   (Zg (YV Zci mL xL rfl (Za Zr Zb))),?_⟩
  cases h with
  |no x t ev ty kt bad=>subst ev;refine Zj ⟨x,rfl,x,t,_,rfl,ty,kt,_,rfl,?_⟩;exact az ⟨bH,fun e=>bad e H (ak.refl H)⟩
  |txt z ev hz good bad=>
   subst ev;obtain⟨h,rs,es⟩:=V0 (z:=z) (c:=32) .d;have eh:cn z=h:=by unfold cn;rw[es];rfl
   have er:cf z=rs.map hJ:=by unfold cf;rw[es];rfl
   rw[eh,er]at good bad;have OH:rs.length<=1000:=by have:=XT (z:=z) (c:=32) .d;rw[es,ZaE]at this;omega
   have m32:=Zbv z 32;have Nb:CD (rs.map hJ):=by rw[<-er];exact Tp z
   refine Zj ⟨.str z,rfl,.str z,_,_,rfl,.str z,R5 K,_,rfl,?_⟩;refine aB ?_;refine Zj ⟨_,rfl,rfl,z,⟨#[32]⟩,rfl,(by rw[<-GO]),rfl,by rw[Zaz];omega,by rw[Zaz];omega,fun D hD=> ?_⟩;rw[es];have m1:=Zk (o:=.lst ((h::rs).map V.str)) hD;refine⟨D,.str h,rs.map V.str,rfl,ao.of Zc,fun L hL=> ?_⟩;have m2:=Zk (o:=.lst (rs.map V.str)) hL;have e2:upd (upd H D (.lst ((h::rs).map V.str))) L (.lst (rs.map V.str)) L=some (.lst (rs.map V.str)):=Zc;generalize upd (upd H D (.lst ((h::rs).map V.str))) L (.lst (rs.map V.str))=H2 at m2 e2;have s2:=m1.trans m2;refine Zl (Zl ?_);dsimp only[List.set];refine Zj ⟨_,rfl,L,rfl,⟨_,ao.of e2⟩,?_⟩;refine ZQ (xs:=rs.map V.str) (fun j ys ah H'=>ak H2 H'/\ys=(rs.take j).map hJ/\∃v,ah=[v]) ⟨ak.refl _,rfl,none,rfl⟩ (fun j ys ah H' _ ⟨sm,_⟩=>ao.of (sm _ _ e2)) ?_ ?_
   ·rintro j y ys ah H' hy ⟨sm,rfl,v,rfl⟩;have hj:=(Zaa.mp hy).1;rw[Zae]at hj;rw[Zbi]at hy;obtain⟨u,hu,rfl⟩:=Za2.mp hy;refine Zl ?_;dsimp only[List.set]
    try unfold mw
    refine aB ⟨.str u,rfl,u,rfl,fun uk eU=> ⟨?_,sm.trans eU,?_,_,rfl⟩⟩
    ·rw[Zae,ZaW,Zaz];omega
    ·rw[ZaT,hu,ZaF];rfl
   ·rintro ys ah H' ⟨sm,rfl,v,rfl⟩ N hN;rw[Zae,ZaH];obtain⟨H3,zz,m3,e3⟩:=da (o:=.lst (rs.map hJ)) hN;rw[zz];have s3:=s2.trans (sm.trans m3);dsimp only[List.set];refine⟨_,rfl,_,rfl,h,N,_,rfl,e3,Nb,by rw[Zae];exact OH,fun H4 s4=> ⟨_,rfl,?_⟩⟩;cases hm:gn h (rs.map hJ) with
    |true=>refine aB ⟨_,rfl,_,rfl,bo,fun t ht=> ?_⟩;have m5:=Zk (o:=.tup [.str h,.ref N]) ht;have g:=good hm t N _ (s3.trans (s4.trans m5)) Zc ((s4.trans m5) _ _ e3);exact g
    |false=>refine az (Zw ?_);exact⟨bH,fun e=>bad hm e H4 (s3.trans s4)⟩
end
section
variable {P:Program}{w:World}{K:ZgE}{mg:Str->Option Value}{base:Heap}{cN cP:Addr}
abbrev zi:Stmt:=top 21
theorem LU:aH ["number", "least", "most"] ["number", "least", "most"] (ay zi):=Zz (by decide+kernel)
inductive uN (cN:Addr) (vs:List V) (H:Hp) (Q:VK) (E:XK):Prop
 |mk (i:Int) (b:Int) (ev:vs=[.int i,.int 0,.int b]) (b0:0<=b) (b1:b<=12) (good:0<=i->i<=b->Q .ag H) (bad:¬(0<=i/\i<=b)->∀e H',ak H H'->E (.ref e) (some cN) H')
theorem Su {f:Addr}{fd:FuncData}(F:aE K "need_whole_within" "need_whole_within" zi f fd)(mN:mg "NoNumber" =some (.ref cN))(xN:PySem.W.excIn K cN qE "ValueError.__new__" =true)(D1:Def P w K mg base 2 "is_whole_within" ["thing", "least", "most"] (oW K)):aw P w K mg base (bc P w) 3 f fd ["number", "least", "most"] (uN cN):=by
 refine F.eW LU (fun vs H Q E h=> ?_) (fun cdv A outer s H vs Q E hr h=> ?_)
 ·obtain⟨i,b,rfl,_⟩:=h;rfl
 ·obtain⟨i,b,rfl,b0,b1,good,bad⟩:=h;refine⟨_,Zg (ZN (Yw (Z0 (Zh D1 hr (Za (pv 0) (Za (pv 1) (Za (pv 2) Zb)))))) (Zg (YV Zci mN xN rfl (Za (Ic Zr (pv 1) Zr (pv 2) Zr) Zb))) Zy),?_⟩;refine⟨_,rfl,_,rfl,_,rfl,.int i,0,b,rfl,⟨_,.int i⟩,_,rfl,?_⟩;have ew:cY (.int i) 0 b=decide (0<=i/\i<=b):=by show(decide (0<=i)&&decide (i<=b))=_;rw[Bool.decide_and]
  rw[ew];by_cases hi:0<=i/\i<=b
  ·rw[ZaA hi];exact az (Zw (good hi.1 hi.2))
  ·rw[Zav hi];have hb:=YJ (n:=b) b0 b1;have hp:(Str.empty++Str.ofString "a whole number from " ++Str.ofString (toString (0:Int))++Str.ofString " to ").length=25:=by decide+kernel
   have hq:(Str.ofString " is asked for").length=13:=by decide+kernel
   refine aB ⟨_,rfl,.d,_,rfl,0,rfl,.d,.d,_,rfl,.d,_,rfl,b,rfl,ZO b0 .o,?_,_,rfl,?_,fun z=> ⟨bH,fun e=>bad hi e H (ak.refl H)⟩⟩
   ·rw[ZaM,hp,Zaz];omega
   ·rw[ZaM,ZaM,hp,hq,Zaz];omega
end
end U
namespace U
open PySem L2 PyProof.Rows U.S
theorem HL (n:Nat):(List.replicate n [V.ag]).flatten=List.replicate n V.ag:=by
 induction n with
 |zero=>rfl
 |succ n ih=>rw[ZcT,ZdN,ih];rfl
theorem Uj {wd hg:Int}(w0:0<=wd):bq wd hg (List.replicate wd.toNat V.ag):=by
 have e:rowsOf (List.replicate wd.toNat V.ag)=[]:=by unfold rowsOf;rw[Zej];intro v hv;rw[(List.mem_replicate.mp hv).2];simp
 refine⟨by rw[Zc7];omega,fun r hr=> ?_,?_⟩
 ·rw[e]at hr;cases hr
 ·rw[e];exact .nil
inductive dU (H:Hp) (v:V) (wd hg:Int) (xs:List V):Prop
 |mk (t b l:Addr) (ev:v=.ref t) (ht:H t=some (.tup [.ref b,.ref l])) (bd:cX H (.ref b) wd hg) (hl:H l=some (.tup xs)) (ly:bq wd hg xs)
theorem dU.same {H H':Hp}{v:V}{wd hg:Int}{xs:List V}(h:dU H v wd hg xs)(s:ak H H'):dU H' v wd hg xs:=by obtain⟨t,b,l,e,h1,h2,h3,h4⟩:=h;exact⟨t,b,l,e,s _ _ h1,h2.same s,s _ _ h3,h4⟩
section
variable {P:Program}{w:World}{K:ZgE}{mg:Str->Option Value}{base:Heap}{cN cP:Addr}
abbrev cF:List Str:=["board", "lay", "numbers"]
abbrev zk:Stmt:=top 49
theorem yC:aH ["board", "lay", "numbers", "wide", "high"] cF (ay zk):=Zz (by decide+kernel)
inductive uO (vs:List V) (H:Hp) (Q:VK) (E:XK):Prop
 |mk (x y:V) (L:Addr) (wd hg:Int) (ev:vs=[x,y,.ref L]) (hl:H L=some (.lst [.int wd,.int hg])) (w1:1<=wd) (w2:wd<=12) (g1:1<=hg) (g2:hg<=12) (q:∀v H',ak H H'->dU H' v wd hg (List.replicate wd.toNat V.ag)->Q v H')
theorem Sr {f:Addr}{fd:FuncData}(F:aE K "new_board" "new_board" zk f fd):aw P w K mg base aF 1 f fd cF uO:=by
 refine F.ok yC (fun vs H Q E h=> ?_) (fun cdv A outer s H vs Q E hr h=> ?_)
 ·obtain⟨x,y,L,wd,hg,rfl,_⟩:=h;rfl
 ·obtain⟨x,y,L,wd,hg,rfl,hl,w1,w2,g1,g2,q⟩:=h;refine⟨_,Ze (Yp (pv 2) (Ht rfl (Zm (Zx (i:=3) yC.nd rfl (Or.inl rfl)) (Zm (Zx (i:=4) yC.nd rfl (Or.inl rfl)) ZS))))
   (Zg (Zo (Zt (Za (Zt (Za (pv 3) (Za (pv 4) Zb))) (xg (Zp Hr (Zt (Za Yb Zb)) (pv 3)) Zb))))),?_⟩
  refine Zj (Zu ⟨_,rfl,L,_,rfl,ao.of hl,rfl,_,_,rfl,_,_,rfl,rfl,?_⟩);dsimp only[List.set];refine⟨_,rfl,_,rfl,bo,fun b hb=> ?_⟩;obtain⟨H1,zz,s1,e1⟩:=da (o:=.tup [V.int wd,V.int hg]) hb;rw[zz];refine⟨bH,fun t ht=> ⟨_,rfl,t,wd,[.ag],rfl,rfl,Zc,by simp,.o,.o,by simp;omega,fun c H3 s3 e3=> ?_⟩⟩;have kU:=(ZL (o:=.tup [V.ag]) ht).trans s3;refine⟨bo,fun p hp=> ?_⟩;obtain⟨H4,zz,s4,e4⟩:=da (o:=.tup [V.ref b,V.ref c]) hp;rw[zz];refine q _ H4 (s1.trans (kU.trans s4)) ⟨p,b,c,rfl,e4,⟨ZI ((kU.trans s4) _ _ e1),w1,w2,g1,g2⟩,?_,?_⟩
  ·rw[<-HL];exact s4 _ _ e3
  ·exact Uj .o
end
theorem WF:∀(xs:List V) (i:Nat),(rowsOf (xs.set i .ag)).Sublist (rowsOf xs)
 | [],_=>by rw[List.set_nil];exact List.Sublist.refl _
 |x::xs,0=>by
  rw[Zec];unfold rowsOf;rw[Za9 (by simp)];by_cases z:(!decide (x=V.ag))=true
  ·rw[Zb5 (p:=fun x=> !decide (x=V.ag)) z];exact List.sublist_cons_self _ _
  ·rw[Za9 (p:=fun x=> !decide (x=V.ag)) z];exact List.Sublist.refl _
 |x::xs,i+1=>by
  have ih:=WF xs i;rw[Zed];unfold rowsOf at ih |-;by_cases z:(!decide (x=V.ag))=true
  ·rw[Zb5 (p:=fun x=> !decide (x=V.ag)) z,Zb5 (p:=fun x=> !decide (x=V.ag)) z];exact ih.cons₂ x
  ·rw[Za9 (p:=fun x=> !decide (x=V.ag)) z,Za9 (p:=fun x=> !decide (x=V.ag)) z];exact ih
theorem Uk {x:V} :fQ [x] 0=some x:=(Ya (j:=0) rfl:fQ [x] ((0:Nat):Int)=some x)
theorem JM {wd hg:Int}{xs:List V}(h:bq wd hg xs)(i:Nat):bq wd hg (xs.set i .ag):=
 ⟨by rw[Zd7];exact h.len,fun r hr=>h.row r ((WF xs i).mem hr),h.nd.sublist (WF xs i)⟩
theorem Iu {wd hg:Int}{xs:List V}{i:Nat}{r:Int}(h:bq wd hg xs)(hi:i<xs.length)(h0:0<=r)(h1:r<hg)(hn:aX (.int r) (xs.set i .ag)=false):bq wd hg (xs.set i (.int r)):=by
 have:=Ck (i:=i) (r:=r) (JM h i) (by rw[List.getElem?_set];simp[hi]) h0 h1 hn
 rwa [List.set_set]at this
section
variable {P:Program}{w:World}{K:ZgE}{mg:Str->Option Value}{base:Heap}{cN cP:Addr}
abbrev yW:Stmt:=top 51
theorem LG:aH cF cF (ay yW):=Zz (by decide+kernel)
inductive rb (cN:Addr) (vs:List V) (H:Hp) (Q:VK) (E:XK):Prop
 |mk (b l L:Addr) (wd hg i:Int) (xs:List V) (ev:vs=[.ref b,.ref l,.ref L]) (bd:cX H (.ref b) wd hg) (hl:H l=some (.tup xs)) (ly:bq wd hg xs) (hL:H L=some (.lst [.int i]))
  (good:0<=i->i<wd->∀v H',ak H H'->dU H' v wd hg (xs.set i.toNat .ag)->Q v H') (bad:¬(0<=i/\i<wd)->∀e H',ak H H'->E (.ref e) (some cN) H')
theorem SA {f:Addr}{fd:FuncData}(F:aE K "take_point" "take_point" yW f fd)(oJ:dW P w K mg base 3 "need_whole_within" ["number", "least", "most"] (uN cN))(iE:Def P w K mg base 1 "with_point" ["lay", "line", "row"] oX):aw P w K mg base (bc P w) 4 f fd cF (rb cN):=by
 refine F.eW LG (fun vs H Q E h=> ?_) (fun cdv A outer s H vs Q E hr h=> ?_)
 ·obtain⟨b,l,L,wd,hg,i,xs,rfl,_⟩:=h;rfl
 ·obtain⟨b,l,L,wd,hg,i,xs,rfl,bd,hl,ly,hL,good,bad⟩:=h;refine⟨_,Ze (ZR (Z6 oJ hr (Za (Zq Zs (pv 2) Zf (fun _ _=>rfl)) (Za Zf (Za (Zp Yy (Zq ZE (pv 0) Zf (fun _ _=>rfl)) Zf) Zb)))))
   (Zg (Zo (Zt (Za (pv 0) (Za (Zh iE (hr.mono .d) (Za (pv 1) (Za (Zq Zs (pv 2) Zf (fun _ _=>rfl)) (Za Yb Zb)))) Zb))))),?_⟩
  obtain⟨b',eb,hb⟩:=ZB bd.1;cases eb;obtain⟨_,w1,w2,g1,g2⟩:=id bd;have ll:=ly.len;refine Zj ⟨_,rfl,L,_,_,_,rfl,rfl,ao.of hL,Uk,_,rfl,b,_,_,_,rfl,rfl,aq.of hb,gF,_,_,rfl,rfl,i,wd-1,rfl,.o,.o,fun i0 i1=> ?_,fun hi=>bad fun hh=>hi ⟨hh.1,.o⟩⟩;have ei:(i.toNat:Int)=i:=.o;dsimp only;refine⟨_,rfl,_,rfl,_,rfl,L,_,_,_,rfl,rfl,ao.of hL,Uk,l,xs,i.toNat,.ag,(by rw[ei];rfl),hl,.o,.o,fun t H1 s1 e1=> ?_⟩;refine⟨bo,fun p hp=> ?_⟩;have s2:=ZL (o:=.tup [V.ref b,V.ref t]) hp;exact good i0 .o _ _ (s1.trans s2) ⟨p,b,t,rfl,Zc,bd.same (s1.trans s2),s2 _ _ e1,JM ly _⟩
abbrev zf:Stmt:=top 50
theorem yA:aH ["board", "lay", "numbers", "line", "row"] cF (ay zf):=Zz (by decide+kernel)
inductive oZ (cN cP:Addr) (vs:List V) (H:Hp) (Q:VK) (E:XK):Prop
 |mk (b l L:Addr) (wd hg i r:Int) (xs:List V) (ev:vs=[.ref b,.ref l,.ref L]) (bd:cX H (.ref b) wd hg) (hl:H l=some (.tup xs)) (ly:bq wd hg xs) (hL:H L=some (.lst [.int i,.int r]))
  (good:0<=i->i<wd->0<=r->r<hg->aX (.int r) (xs.set i.toNat .ag)=false->∀v H',ak H H'->dU H' v wd hg (xs.set i.toNat (.int r))->Q v H')
  (bad:¬((0<=i/\i<wd)/\0<=r/\r<hg)->∀e H',ak H H'->E (.ref e) (some cN) H')
  (Gk:(0<=i/\i<wd)->(0<=r/\r<hg)->aX (.int r) (xs.set i.toNat .ag)=true->∀e H',ak H H'->E (.ref e) (some cP) H')
theorem Sv {f:Addr}{fd:FuncData}(F:aE K "put_point" "put_point" zf f fd)(mP:mg "NoPoint" =some (.ref cP))(xP:PySem.W.excIn K cP qE "ValueError.__new__" =true)(oJ:dW P w K mg base 3 "need_whole_within" ["number", "least", "most"] (uN cN))(iE:Def P w K mg base 1 "with_point" ["lay", "line", "row"] oX):aw P w K mg base (bc P w) 4 f fd cF (oZ cN cP):=by
 refine F.eW yA (fun vs H Q E h=> ?_) (fun cdv A outer s H vs Q E hr h=> ?_)
 ·obtain⟨b,l,L,wd,hg,i,r,xs,rfl,_⟩:=h;rfl
 ·obtain⟨b,l,L,wd,hg,i,r,xs,rfl,bd,hl,ly,hL,good,bad,Gk⟩:=h;refine⟨_,Ze (Yp (pv 2) (Ht rfl (Zm (Zx (i:=3) yA.nd rfl (Or.inl rfl)) (Zm (Zx (i:=4) yA.nd rfl (Or.inl rfl)) ZS))))
   (Ze (ZR (Z6 oJ hr (Za (pv 3) (Za Zf (Za (Zp Yy (Zq ZE (pv 0) Zf (fun _ _=>rfl)) Zf) Zb)))))
   (Ze (ZR (Z6 oJ hr (Za (pv 4) (Za Zf (Za (Zp Yy (Zq ZE (pv 0) Zf (fun _ _=>rfl)) Zf) Zb)))))
   (Ze (ZN (ZA J5 (pv 4) (Zh iE (hr.mono .d) (Za (pv 1) (Za (pv 3) (Za Yb Zb)))) rfl) (Zg (YV Zci mP xP rfl (Za Zr Zb))) Zy)
   (Zg (Zo (Zt (Za (pv 0) (Za (Zh iE (hr.mono .d) (Za (pv 1) (Za (pv 3) (Za (pv 4) Zb)))) Zb)))))))),?_⟩
  obtain⟨b',eb,hb⟩:=ZB bd.1;cases eb;obtain⟨_,w1,w2,g1,g2⟩:=id bd;have ll:=ly.len;refine Zj (Zu ⟨_,rfl,L,_,rfl,ao.of hL,rfl,_,_,rfl,_,_,rfl,rfl,?_⟩);dsimp only[List.set];refine Zj ⟨_,rfl,_,rfl,b,_,_,_,rfl,rfl,aq.of hb,gF,_,_,rfl,rfl,i,wd-1,rfl,.o,.o,fun i0 i1=> ?_,fun hi=>bad fun hh=>hi ⟨hh.1.1,.o⟩⟩;dsimp only;refine Zj ⟨_,rfl,_,rfl,b,_,_,_,rfl,rfl,aq.of hb,dE,_,_,rfl,rfl,r,hg-1,rfl,.o,.o,fun r0 r1=> ?_,fun hi=>bad fun hh=>hi ⟨hh.2.1,.o⟩⟩;dsimp only;have ei:(i.toNat:Int)=i:=.o;have fl:=JN (JM ly i.toNat);refine Zj ⟨_,rfl,_,rfl,_,rfl,l,xs,i.toNat,.ag,(by rw[ei];rfl),hl,.o,.o,fun t H1 s1 e1=> ⟨t,_,rfl,.inr (aq.of e1),rfl,fl,_,rfl,?_⟩⟩;cases hn:aX (.int r) (xs.set i.toNat .ag) with
  |true=>exact aB ⟨bH,fun e=>Gk ⟨i0,.o⟩ ⟨r0,.o⟩ hn e H1 s1⟩
  |false=>refine az (Zw ?_);dsimp only;refine⟨_,rfl,_,rfl,_,rfl,_,rfl,l,xs,i.toNat,.int r,(by rw[ei];rfl),s1 _ _ hl,.o,.o,fun t2 H2 s2 e2=> ?_⟩;refine⟨bo,fun p hp=> ?_⟩;have s3:=ZL (o:=.tup [V.ref b,V.ref t2]) hp;have kU:=s1.trans (s2.trans s3);exact good i0 .o r0 .o hn _ _ kU ⟨p,b,t2,rfl,Zc,bd.same kU,s3 _ _ e2,Iu ly .o r0 .o hn⟩
end
section
variable {P:Program}{w:World}{K:ZgE}{mg:Str->Option Value}{base:Heap}{cM:Addr}
theorem VT {X:Cx}{g:Str}{es:List Expr}{te:TE}{p p1 p2 kp ji pos:Pos}(hg:Gl X "min")(hm:X.mg "min" =none)(he:PE X (.Call (.Name g p1) es [] p2) te):
  PE X (.Call (.Name "min" p) [.Call (.Name g p1) es [] p2] [⟨some "default",.Constant .none 0 kp,ji⟩] pos) (fun σ H _=>te σ H fun _ _=>False):=by
 intro pins s σ H Q I h;refine ZbH (YQ I hg hm PyProof.Rows.Boot.«min» ?_ .d .d);have pa:PA X [.Call (.Name g p1) es [] p2] (cq te cZ):=Za he Zb;exact Zd1 (au (pa pos pins s σ H (fun _ _=>False) I h) fun us s1 ⟨uy,H1,I1,r1,q1⟩=>q1.elim)
structure Exc (K:ZgE)(mg:Str->Option Value)(nm:Str)(C:Addr):Prop where
 m:mg nm=some (.ref C)
 x:PySem.W.excIn K C qE "ValueError.__new__" =true
abbrev pC:Stmt:=top 25
theorem yE:aH ["board", "wide", "high"] ["board", "wide", "high"] (ay pC):=Zz (by decide+kernel)
inductive ym (cM:Addr) (vs:List V) (H:Hp) (Q:VK) (E:XK):Prop
 |mk (x:V) (wd hg:Int) (ev:vs=[x,.int 6,.int 7]) (bd:cX H x wd hg) (gr:6<wd∨7<hg) (q:∀e H',ak H H'->E (.ref e) (some cM) H')
theorem TY {f:Addr}{fd:FuncData}(F:aE K "need_at_most" "need_at_most" pC f fd)(X:Exc K mg "TooMany" cM):aw P w K mg base (bc P w) 1 f fd ["board", "wide", "high"] (ym cM):=by
 refine F.eW yE (fun vs H Q E h=> ?_) (fun cdv A outer s H vs Q E hr h=> ?_)
 ·obtain⟨x,wd,hg,rfl,_⟩:=h;rfl
 ·obtain⟨x,wd,hg,rfl,bd,gr,q⟩:=h;obtain⟨b,rfl,hb⟩:=ZB bd.1;refine⟨_,Zg (ZN (PW.pt (tW (ZA Y8 (Zq ZE (pv 0) Zf (fun _ _=>rfl)) (pv 1) (bJ _)) (WJ (ZA Y8 (Zq ZE (pv 0) Zf (fun _ _=>rfl)) (pv 2) (bJ _)))))
   (Zg (YV Zci X.m X.x rfl (Za (Ic Zr (pv 1) Zr (pv 2) Zr) Zb))) Zy),?_⟩
  refine⟨_,rfl,b,_,0,.int wd,rfl,rfl,aq.of hb,rfl,_,rfl,_,_,rfl,rfl,_,rfl,?_⟩;by_cases h1:wd>6
  ·rw[ZaA h1];refine aB (aB ⟨_,rfl,.d,_,rfl,6,rfl,.d,.d,_,rfl,.d,_,rfl,7,rfl,.d,.d,_,rfl,.d,fun z=> ⟨bH,fun e=>q e H (ak.refl H)⟩⟩)
  ·rw[Zav h1];refine az ⟨_,rfl,b,_,1,.int hg,rfl,rfl,aq.of hb,rfl,_,rfl,_,_,rfl,rfl,_,rfl,?_⟩;rw[ZaA (show hg>7 by omega)];exact aB ⟨_,rfl,.d,_,rfl,6,rfl,.d,.d,_,rfl,.d,_,rfl,7,rfl,.d,.d,_,rfl,.d,fun z=> ⟨bH,fun e=>q e H (ak.refl H)⟩⟩
abbrev BL:List Str:=["board", "lay"]
inductive g9 (cM:Addr) (vs:List V) (H:Hp) (Q:VK) (E:XK):Prop
 |mk (x y:V) (wd hg:Int) (xs:List V) (ev:vs=[x,y]) (la:fU H x y wd hg xs) (gr:6<wd∨7<hg) (q:∀e H',ak H H'->E (.ref e) (some cM) H')
inductive kO (cM:Addr) (vs:List V) (H:Hp) (Q:VK) (E:XK):Prop
 |mk (x y z:V) (wd hg:Int) (xs:List V) (ev:vs=[x,y,z]) (la:fU H x y wd hg xs) (gr:6<wd∨7<hg) (q:∀e H',ak H H'->E (.ref e) (some cM) H')
abbrev pB:Stmt:=top 40
theorem yB:aH BL BL (ay pB):=Zz (by decide+kernel)
theorem TZ {f:Addr}{fd:FuncData}(F:aE K "need_small" "need_small" pB f fd)(G:Gs mg)(uo:Def P w K mg base 6 "need_lay" BL o8)(CC:dW P w K mg base 1 "need_at_most" ["board", "wide", "high"] (ym cM)):aw P w K mg base (bc P w) 7 f fd BL (g9 cM):=by
 obtain⟨Ku,Br⟩:=G.Ec;obtain⟨qS,qu⟩:=G.Ee;refine F.eW yB (fun vs H Q E h=> ?_) (fun cdv A outer s H vs Q E hr h=> ?_)
 ·obtain⟨x,y,wd,hg,xs,rfl,_⟩:=h;rfl
 ·obtain⟨x,y,wd,hg,xs,rfl,la,gr,q⟩:=h;refine⟨_,Ze (ZR (Zh uo hr (Za (pv 0) (Za (pv 1) Zb))))
   (Zg (ZR (Z6 CC (hr.mono .d) (Za (pv 0) (Za (ZK (v:=.int 6) rfl Br ⟨_,rfl⟩) (Za (ZK (v:=.int 7) rfl qu ⟨_,rfl⟩) Zb)))))),?_⟩
  refine⟨_,rfl,_,rfl,x,y,wd,hg,xs,rfl,la,fun H1 s1=> ?_⟩;exact⟨x,rfl,x,wd,hg,rfl,la.1.same s1,gr,fun e H' s'=>q e H' (s1.trans s')⟩
abbrev pH:Stmt:=top 42
theorem pA:aH ["board", "lay", "found", "line"] BL (ay pH):=Zz (by decide+kernel)
theorem R7 {f:Addr}{fd:FuncData}(F:aE K "all_fits" "all_fits" pH f fd)(R1:dW P w K mg base 7 "need_small" BL (g9 cM)):aw P w K mg base (bc P w) 8 f fd BL (g9 cM):=by
 refine F.eW pA (fun vs H Q E h=> ?_) (fun cdv A outer s H vs Q E hr h=> ?_)
 ·obtain⟨x,y,wd,hg,xs,rfl,_⟩:=h;rfl
 ·obtain⟨x,y,wd,hg,xs,rfl,la,gr,q⟩:=h;refine⟨_,Ze (ZR (Z6 R1 hr (Za (pv 0) (Za (pv 1) Zb)))) ZP,?_⟩;exact⟨x,rfl,y,rfl,x,y,wd,hg,xs,rfl,la,gr,q⟩
abbrev pF:Stmt:=top 43
theorem yG:aH BL BL (ay pF):=Zz (by decide+kernel)
theorem R9 {f:Addr}{fd:FuncData}(F:aE K "fits_many" "fits_many" pF f fd)(G:Gs mg)(R1:dW P w K mg base 8 "all_fits" BL (g9 cM)):aw P w K mg base (bc P w) 9 f fd BL (g9 cM):=by
 refine F.eW yG (fun vs H Q E h=> ?_) (fun cdv A outer s H vs Q E hr h=> ?_)
 ·obtain⟨x,y,wd,hg,xs,rfl,_⟩:=h;rfl
 ·obtain⟨x,y,wd,hg,xs,rfl,la,gr,q⟩:=h;refine⟨_,Zg (Zo (Zn ZG rfl G.len ZdE (Za (Z6 R1 hr (Za (pv 0) (Za (pv 1) Zb))) Zb))),?_⟩;exact⟨x,rfl,y,rfl,x,y,wd,hg,xs,rfl,la,gr,q⟩
abbrev pG:Stmt:=top 44
theorem yH:aH BL BL (ay pG):=Zz (by decide+kernel)
theorem R8 {f:Addr}{fd:FuncData}(F:aE K "first_fit" "first_fit" pG f fd)(G:Gs mg)(R1:dW P w K mg base 8 "all_fits" BL (g9 cM)):aw P w K mg base (bc P w) 9 f fd BL (g9 cM):=by
 refine F.eW yH (fun vs H Q E h=> ?_) (fun cdv A outer s H vs Q E hr h=> ?_)
 ·obtain⟨x,y,wd,hg,xs,rfl,_⟩:=h;rfl
 ·obtain⟨x,y,wd,hg,xs,rfl,la,gr,q⟩:=h;refine⟨_,Zg (Zo (VT rfl G.min (Z6 R1 hr (Za (pv 0) (Za (pv 1) Zb))))),?_⟩;exact⟨x,rfl,y,rfl,x,y,wd,hg,xs,rfl,la,gr,q⟩
abbrev ve:Stmt:=top 56
theorem Ds:aH cF cF (ay ve):=Zz (by decide+kernel)
theorem T5 {f:Addr}{fd:FuncData}(F:aE K "tell_many" "tell_many" ve f fd)(G:Gs mg)(R1:dW P w K mg base 9 "fits_many" BL (g9 cM)):aw P w K mg base (bc P w) 10 f fd cF (kO cM):=by
 refine F.eW Ds (fun vs H Q E h=> ?_) (fun cdv A outer s H vs Q E hr h=> ?_)
 ·obtain⟨x,y,z,wd,hg,xs,rfl,_⟩:=h;rfl
 ·obtain⟨x,y,z,wd,hg,xs,rfl,la,gr,q⟩:=h;refine⟨_,Zg (Zo (ZD Zv rfl G.str PyProof.Rows.Boot.«str» (Za (Z6 R1 hr (Za (pv 0) (Za (pv 1) Zb))) Zb))),?_⟩;exact⟨x,rfl,y,rfl,x,y,wd,hg,xs,rfl,la,gr,q⟩
abbrev vf:Stmt:=top 57
theorem Dt:aH cF cF (ay vf):=Zz (by decide+kernel)
theorem T4 {f:Addr}{fd:FuncData}(F:aE K "tell_first" "tell_first" vf f fd)(G:Gs mg)(CA:dW P w K mg base 1 "words_of" ["numbers"] (fun _ _ _ _=>False))(R1:dW P w K mg base 9 "first_fit" BL (g9 cM)):aw P w K mg base (bc P w) 10 f fd cF (kO cM):=by
 refine F.eW Dt (fun vs H Q E h=> ?_) (fun cdv A outer s H vs Q E hr h=> ?_)
 ·obtain⟨x,y,z,wd,hg,xs,rfl,_⟩:=h;rfl
 ·obtain⟨x,y,z,wd,hg,xs,rfl,la,gr,q⟩:=h;refine⟨_,Zg (Zo (Z6 CA (hr.mono .d) (ZT (Z6 R1 hr (Za (pv 0) (Za (pv 1) Zb))) Zb))),?_⟩;exact⟨x,rfl,y,rfl,x,y,wd,hg,xs,rfl,la,gr,q⟩
theorem XA {f:Addr}{fd:FuncData}{k:Nat}{ps:List Str} :aw P w K mg base (bc P w) k f fd ps (fun _ _ _ _=>False):=⟨fun _ _ _ _ h=>h.elim,fun _ _ _ _ _ _ _ _ _ _ _ _ _ h=>h.elim⟩
abbrev yZ:Stmt:=top 53
theorem LH:aH cF cF (ay yZ):=Zz (by decide+kernel)
inductive uK (vs:List V) (H:Hp) (Q:VK) (E:XK):Prop
 |mk (b l:Addr) (z:V) (wd hg:Int) (xs:List V) (ev:vs=[.ref b,.ref l,z]) (bd:cX H (.ref b) wd hg) (hl:H l=some (.tup xs)) (ly:bq wd hg xs) (q:∀H',ak H H'->Q (.str (dz wd hg xs)) H')
theorem SF {f:Addr}{fd:FuncData}(F:aE K "tell_shown" "tell_shown" yZ f fd)(CW:Def P w K mg base 7 "lay_text" BL o9):aw P w K mg base aF 8 f fd cF uK:=by
 refine F.ok LH (fun vs H Q E h=> ?_) (fun cdv A outer s H vs Q E hr h=> ?_)
 ·obtain⟨b,l,z,wd,hg,xs,rfl,_⟩:=h;rfl
 ·obtain⟨b,l,z,wd,hg,xs,rfl,bd,hl,ly,q⟩:=h;refine⟨_,Zg (Zo (Zh CW hr (Za (pv 0) (Za (pv 1) Zb)))),?_⟩;exact⟨_,rfl,_,rfl,b,l,wd,hg,xs,rfl,bd,hl,ly,q⟩
end
structure qO (K:ZgE)(C:Addr):Prop where
 cls:iF K C
 ns:me K C "states"
inductive fX (C:Addr) (H:Hp) (a L:Addr) (ts:List V):Prop
 |mk (dx:Addr) (ha:H a=some (.ins C dx [("states",.ref L)])) (hL:H L=some (.lst ts))
section
variable {P:Program}{w:World}{K:ZgE}{mg:Str->Option Value}{base:Heap}{cD C:Addr}
abbrev yT:Stmt:=inClass (top 63) 2
theorem LA:aH ["self"] ["self"] (ay yT):=Zz (by decide+kernel)
inductive ye (C cD:Addr) (vs:List V) (H:Hp) (Q:VK) (E:XK):Prop
 |mk (a L:Addr) (ts:List V) (ev:vs=[.ref a]) (d:fX C H a L ts) (ne:ts≠[]) (aT:ts.length<=1000) (good:ts.length≠1->Q .ag (upd H L (.lst ts.dropLast))) (bad:ts.length=1->∀e H',ak H H'->E (.ref e) (some cD) H')
theorem SH {f:Addr}{fd:FuncData}(F:aE K "undo" "Desk.undo" yT f fd)(G:Gs mg)(DC:qO K C)(X:Exc K mg "NoDeed" cD):aw P w K mg base (bc P w) 1 f fd ["self"] (ye C cD):=by
 refine F.eW LA (fun vs H Q E h=> ?_) (fun cdv A outer s H vs Q E hr h=> ?_)
 ·obtain⟨a,L,ts,rfl,_⟩:=h;rfl
 ·obtain⟨a,L,ts,rfl,⟨dx,ha,hL⟩,ne,aT,good,bad⟩:=h;refine⟨_,Ze (ZN (ZA We (Zn ZG rfl G.len ZdE (Za (xh (pv 0) rfl) Zb)) Zf (bJ _)) (Zg (YV Zci X.m X.x rfl (Za Zr Zb))) Zy)
   (Zg (ZR (GX Zb0 PySem.F.slot_list_pop PySem.F.type_list_pop G5 (xh (pv 0) rfl)))),?_⟩
  refine Zj ⟨_,rfl,a,C,dx,_,_,rfl,ha,DC.cls,DC.ns,rfl,L,ts,rfl,.inl (ao.of hL),rfl,_,rfl,?_⟩;by_cases h1:ts.length=1
  ·rw[show decide (V.int (ts.length:Int)=V.int 1)=true from ZaA (by rw[h1];rfl)];exact aB ⟨bH,fun e=>bad h1 e H (ak.refl H)⟩
  ·rw[show decide (V.int (ts.length:Int)=V.int 1)=false from Zav (by intro z;injection z with z;omega)];refine az (Zw ?_);have aI:ts.length-1<ts.length:=by have:=List.length_pos_iff.mpr ne;omega
   exact⟨_,rfl,a,C,dx,_,_,rfl,ha,DC.cls,DC.ns,rfl,.inl ⟨rfl,_,ao.of hL⟩,L,ts,_,rfl,rfl,hL,Zax aI,good h1⟩
abbrev pE:Stmt:=inClass (top 63) 0
theorem LW:aH ["self"] ["self"] (ay pE):=Zz (by decide+kernel)
theorem UO:bq 1 1 [V.ag]:=Uj (wd:=1) (hg:=1) .d
inductive uR (C:Addr) (vs:List V) (H:Hp) (Q:VK) (E:XK):Prop
 |mk (a dx:Addr) (ev:vs=[.ref a]) (ha:H a=some (.ins C dx [])) (q:∀(L:Addr) (v:V) (H':Hp),H L=none->aV a H H'->fX C H' a L [v]->dU H' v 1 1 [.ag]->Q .ag H')
theorem Gp {f:Addr}{fd:FuncData}(F:aE K "__init__" "Desk.__init__" pE f fd)(DC:qO K C):aw P w K mg base aF 1 f fd ["self"] (uR C):=by
 refine F.ok LW (fun vs H Q E h=> ?_) (fun cdv A outer s H vs Q E hr h=> ?_)
 ·obtain⟨a,dx,rfl,_⟩:=h;rfl
 ·obtain⟨a,dx,rfl,ha,q⟩:=h;refine⟨_,Zg (TH (pv 0) (ZH (Za (Zt (Za (Zt (Za Zf (Za Zf Zb))) (Za (Zt (Za Yb Zb)) Zb))) Zb)) rfl),?_⟩;refine⟨bo,fun b hb=> ⟨bH,fun l hl=> ⟨bo,fun t ht=> ⟨bH,fun L hL=> ?_⟩⟩⟩⟩;have s1:=ZL (o:=.tup [V.int 1,V.int 1]) hb;have e1:upd H b (.tup [V.int 1,V.int 1]) b=some (.tup [V.int 1,V.int 1]):=Zc;generalize upd H b (HO.tup [V.int 1,V.int 1])=H1 at s1 e1 hl ht hL |-;have s2:=ZL (o:=.tup [V.ag]) hl;have e2:upd H1 l (.tup [V.ag]) l=some (.tup [V.ag]):=Zc;generalize upd H1 l (HO.tup [V.ag])=H2 at s2 e2 ht hL |-;have s3:=ZL (o:=.tup [V.ref b,V.ref l]) ht;have e3:upd H2 t (.tup [V.ref b,V.ref l]) t=some (.tup [V.ref b,V.ref l]):=Zc;generalize upd H2 t (HO.tup [V.ref b,V.ref l])=H3 at s3 e3 hL |-;have s4:=ZL (o:=.lst [V.ref t]) hL;have e4:upd H3 L (.lst [V.ref t]) L=some (.lst [V.ref t]):=Zc;generalize upd H3 L (HO.lst [V.ref t])=H4 at s4 e4 |-;have DF:=s1.trans (s2.trans (s3.trans s4));have Fm:=DF _ _ ha;refine⟨_,rfl,a,C,dx,_,rfl,Fm,DC.cls,DC.ns,.d,?_⟩;have ne:∀{p:Addr}{o:HO},H4 p=some o->(∀D dx fs,o≠.ins D dx fs)->p≠a:=fun h hn z=>by rw[z,Fm]at h;cases h;exact hn _ _ _ rfl
  have k:∀{p:Addr}{ys:List V},H4 p=some (.tup ys)->upd H4 a (.ins C dx (eV "states" (.ref L) [])) p=some (.tup ys):=fun h=>by rw[Zi (ne h fun _ _ _ z=>by cases z)];exact h
  refine q L (.ref t) _ ((s1.trans (s2.trans s3)).free hL) (fun p o h hn=>by rw[Zi hn];exact DF _ _ h) ⟨dx,Zc,?_⟩ ⟨t,b,l,rfl,k (s4 _ _ e3),⟨ZI (k ((s2.trans (s3.trans s4)) _ _ e1)),.d,.d,.d,.d⟩,k ((s3.trans s4) _ _ e2),UO⟩;rw[Zi (ne e4 fun _ _ _ z=>by cases z)];exact e4
end
def oG (xs:List V)(i:Int):Bool:=decide (0<=i)&&decide (i<=(xs.length:Int)-1)&&decide (xs[i.toNat]? =some .ag)
section
variable {P:Program}{w:World}{K:ZgE}{mg:Str->Option Value}{base:Heap}{cN:Addr}
abbrev zx:Stmt:=top 28
def yt (K:ZgE):Sp:=fun vs H Q _=> ∃(l:Addr) (x:V) (xs:List V),vs=[.ref l,x]/\H l=some (.tup xs)/\md K H x/\Q (.bl (cY x 0 ((xs.length:Int)-1))) H
theorem LY:aH ["lay", "thing"] ["lay", "thing"] (ay zx):=Zz (by decide+kernel)
theorem Sm {f:Addr}{fd:FuncData}(F:aE K "is_line" "is_line" zx f fd)(G:Gs mg)(D1:Def P w K mg base 2 "is_whole_within" ["thing", "least", "most"] (oW K)):aw P w K mg base aF 3 f fd ["lay", "thing"] (yt K):=by
 refine F.ok LY (fun vs H Q E h=> ?_) (fun cdv A outer s H vs Q E hr h=> ?_)
 ·obtain⟨l,x,xs,rfl,_⟩:=h;rfl
 ·obtain⟨l,x,xs,rfl,hl,t,q⟩:=h;refine⟨_,Zg (Zo (Zh D1 hr (Za (pv 1) (Za Zf (Za (Zp Yy (Zn ZG rfl G.len ZdE (Za (pv 0) Zb)) Zf) Zb))))),?_⟩;exact⟨_,rfl,_,rfl,l,xs,rfl,.inr (aq.of hl),_,_,rfl,rfl,x,0,_,rfl,t,q⟩
abbrev zy:Stmt:=top 29
theorem LZ:aH ["lay", "thing"] ["lay", "thing"] (ay zy):=Zz (by decide+kernel)
def uS:Sp:=fun vs H Q _=> ∃(l:Addr) (i:Int) (xs:List V),vs=[.ref l,.int i]/\H l=some (.tup xs)/\Q (.bl (oG xs i)) H
theorem Sd {f:Addr}{fd:FuncData}(F:aE K "is_bare_line" "is_bare_line" zy f fd)(D1:Def P w K mg base 3 "is_line" ["lay", "thing"] (yt K)):aw P w K mg base aF 4 f fd ["lay", "thing"] uS:=by
 refine F.ok LZ (fun vs H Q E h=> ?_) (fun cdv A outer s H vs Q E hr h=> ?_)
 ·obtain⟨l,x,xs,rfl,_⟩:=h;rfl
 ·obtain⟨l,i,xs,rfl,hl,q⟩:=h;refine⟨_,Zg (Zo (Jt (Zh D1 hr (Za (pv 0) (Za (pv 1) Zb))) (YN (GY (Ju (Zq ZE (pv 0) (pv 1) (fun _ _=>rfl))))))),?_⟩;refine⟨_,rfl,_,rfl,l,.int i,xs,rfl,hl,⟨_,.int i⟩,_,rfl,?_⟩;have e:oG xs i=(cY (.int i) 0 ((xs.length:Int)-1)&&decide (xs[i.toNat]? =some .ag)):=rfl;rw[e]at q;cases h:cY (.int i) 0 ((xs.length:Int)-1) with
  |false=>rw[h]at q;exact az q
  |true=>rw[h]at q;have hw:(decide (0<=i)&&decide (i<=(xs.length:Int)-1))=true:=h;rw[ZaJ,Za5,Za5]at hw;have hi:i.toNat<xs.length:=.o;have Fj:=Ya (Zax hi);rw[Int.toNat_of_nonneg hw.1]at Fj;refine aB ⟨_,rfl,_,rfl,l,_,_,_,rfl,rfl,aq.of hl,Fj,?_⟩;rw[Zax hi,show decide (some xs[i.toNat]=some V.ag)=decide (xs[i.toNat]=V.ag) from ZfA.mpr ⟨Za3,fun h=>Zcr _ h⟩,Zfs]at q;exact q
abbrev vm:Stmt:=top 55
theorem DA:aH cF cF (ay vm):=Zz (by decide+kernel)
inductive uU (cN:Addr) (vs:List V) (H:Hp) (Q:VK) (E:XK):Prop
 |mk (b l L:Addr) (i:Int) (xs:List V) (ev:vs=[.ref b,.ref l,.ref L]) (hl:H l=some (.tup xs)) (hL:H L=some (.lst [.int i])) (no:oG xs i=false) (bad:∀e H',ak H H'->E (.ref e) (some cN) H')
theorem Sb {f:Addr}{fd:FuncData}(F:aE K "tell_free" "tell_free" vm f fd)(X:Exc K mg "NoNumber" cN)(D1:Def P w K mg base 4 "is_bare_line" ["lay", "thing"] uS):aw P w K mg base (bc P w) 5 f fd cF (uU cN):=by
 refine F.eW DA (fun vs H Q E h=> ?_) (fun cdv A outer s H vs Q E hr h=> ?_)
 ·obtain⟨b,l,L,i,xs,rfl,_⟩:=h;rfl
 ·obtain⟨b,l,L,i,xs,rfl,hl,hL,no,bad⟩:=h;refine⟨_,Ze (ZN (Yw (Z0 (Zh D1 hr (Za (pv 1) (Za (Zq Zs (pv 2) Zf (fun _ _=>rfl)) Zb))))) (Zg (YV Zci X.m X.x rfl (Za Zr Zb))) Zy) ZP,?_⟩;refine Zj ?_;refine⟨_,rfl,_,rfl,L,_,_,_,rfl,rfl,ao.of hL,Uk,l,i,xs,rfl,hl,?_⟩;rw[no];exact⟨_,rfl,aB ⟨bH,fun e=>bad e H (ak.refl H)⟩⟩
end
abbrev aO (n:Int):Str:=Str.ofString (toString n)
theorem Tj:∀j∈List.range 100,hJ (aO (j:Int))=.int (j:Int)/\32∉(aO (j:Int)).cps.toList/\(aO (j:Int)).length<=2:=by decide+kernel
theorem Jw {n:Int}(h0:0<=n)(h:n<100):hJ (aO n)=.int n/\32∉(aO n).cps.toList/\(aO n).length<=2:=by obtain⟨j,rfl⟩:∃j:Nat,n=j:=⟨n.toNat,.o⟩;exact Tj j (ZbC.mpr .o)
theorem Tg {wd hg r:Int}{xs:List V}(ly:bq wd hg xs)(h:V.int r∈xs):0<=r/\r<hg:=by have q:(decide (0<=r)&&decide (r<=hg-1))=true:=ly.row _ (ZaK.mpr ⟨h,by simp⟩);rw[ZaJ,Za5,Za5]at q;omega
end U
namespace U.S
open PySem L2 PyProof.Rows PyProof.Rows.eO
def intOf:V->Int
 | .int i=>i
 |_=>0
def intsOf (b:List V):List Int:=b.map intOf
theorem ints_map (ks:List Int):intsOf (ks.map V.int)=ks:=by unfold intsOf;rw[Zdn];exact List.map_id'' (fun _=>rfl) _
theorem Hk:∀{u v:List Int}(r s:Int),u.length=v.length->aA u v=true->aA (u++[r]) (v++[s])=true
 | [],[],_,_,_,h=>by cases h
 | [],_::_,_,_,h,_=>by cases h
 |_::_,[],_,_,h,_=>by cases h
 |a::u,b::v,r,s,hl,h=>by
  rw[ZdU,ZdU];unfold aA at h |-;by_cases e:a=b
  ·rw[ZaG e]at h |-;exact Hk r s (by simpa using hl) h
  ·rw[ZaD e]at h |-;exact h
theorem HS:∀(u:List Int) {r s:Int},r<s->aA (u++[r]) (u++[s])=true
 | [],r,s,h=>by show aA [r] [s]=true;unfold aA;rw[ZaD .o];exact ZaA h
 |a::u,r,s,h=>by rw[ZdU,ZdU];unfold aA;rw[ZaG rfl];exact HS u h
theorem VI (hg:Nat)(o:Option V):(jF hg o).Pairwise (· < ·):=by
 unfold jF;split
 ·exact Zd9 _ _
 ·unfold mS;rw[ZcD];refine Zct ?_ (List.pairwise_lt_range (n:=hg));intro a b h;omega
theorem UW (hg:Nat)(xs:List V):∀i,(ba hg xs i).Pairwise fun a b=>aA (intsOf a) (intsOf b)=true
 |0=>by unfold ba;exact Zd9 _ _
 |i+1=>by
  have ih:=UW hg xs i;unfold ba;rw[Zey];have ap:∀(b:List V) (r:Int),intsOf (b++[V.int r])=intsOf b++[r]:=fun b r=>by unfold intsOf;rw[ZaF];rfl
  refine⟨fun b hb=> ?_,?_⟩
  ·unfold hV;rw[ZcD];refine Zct ?_ ((VI hg _).filter _);intro r s h;rw[ap,ap];exact HS _ h
  ·refine Zfk ?_ ih;intro a b ha hb h x hx y hy;unfold hV at hx hy;obtain⟨r,_,rfl⟩:=Za0.mp hx;obtain⟨s,_,rfl⟩:=Za0.mp hy;rw[ap,ap];refine Hk r s ?_ h;unfold intsOf;rw[Zae,Zae,(Yn hg xs i a ha).1,(Yn hg xs i b hb).1]
theorem WN {α β γ:Type}{R:α->β->Prop}{R':α->γ->Prop}{f:β->γ} :∀{xs:List α}{ys:List β},Paired R xs ys->(∀x y,y∈ys->R x y->R' x (f y))->Paired R' xs (ys.map f)
 |_,_,.nil,_=> .nil
 |_,_,.cons h t,k=> .cons (k _ _ Zai h) (WN t fun x y hy=>k x y (Zad _ hy))
section
variable {P:Program}{w:World}{K:ZgE}{mg:Str->Option Value}{base:Heap}{cB cL cM:Addr}
abbrev pF:Stmt:=top 43
def yw:Sp:=fun vs H Q _=> ∃(b l:Addr) (wd hg:Int) (xs:List V),vs=[.ref b,.ref l]/\cX H (.ref b) wd hg/\H l=some (.tup xs)/\bq wd hg xs/\wd<=6/\hg<=7/\∀(H':Hp),ak H H'->Q (.int (ba hg.toNat xs xs.length).length) H'
theorem yG:aH ["board", "lay"] ["board", "lay"] (ay pF):=Zz (by decide+kernel)
theorem M0 {f:Addr}{fd:FuncData}(F:aE K "fits_many" "fits_many" pF f fd)(G:Gs mg)(C0:Def P w K mg base 113 "all_fits" ["board", "lay"] kP):aw P w K mg base aF 114 f fd ["board", "lay"] yw:=by
 refine F.ok yG (fun vs H Q E h=> ?_) (fun cdv A outer s H vs Q E hr h=> ?_)
 ·obtain⟨b,l,wd,hg,xs,rfl,_⟩:=h;rfl
 ·obtain⟨b,l,wd,hg,xs,rfl,bd,hl,ly,w6,g7,q⟩:=h;refine⟨_,Zg (Zo (Zn ZG rfl G.len ZdE (Za (Zh C0 hr (Za (pv 0) (Za (pv 1) Zb))) Zb))),?_⟩;refine⟨_,rfl,_,rfl,b,l,wd,hg,xs,rfl,bd,hl,ly,w6,g7,fun fa H1 ts s1 nf ef pr=> ⟨fa,ts,rfl,.inl (ao.of ef),?_⟩⟩;rw[Za6 pr];exact q H1 s1
abbrev pG:Stmt:=top 44
def yx:Sp:=fun vs H Q _=> ∃(b l:Addr) (wd hg:Int) (xs:List V),vs=[.ref b,.ref l]/\cX H (.ref b) wd hg/\H l=some (.tup xs)/\bq wd hg xs/\wd<=6/\hg<=7/\∀(v:V) (H':Hp),ak H H'->((ba hg.toNat xs xs.length=[]/\v=.ag)∨∃k,(ba hg.toNat xs xs.length)[0]? =some k/\dn H' v k)->Q v H'
theorem yH:aH ["board", "lay"] ["board", "lay"] (ay pG):=Zz (by decide+kernel)
theorem M3 {f:Addr}{fd:FuncData}(F:aE K "first_fit" "first_fit" pG f fd)(G:Gs mg)(C0:Def P w K mg base 113 "all_fits" ["board", "lay"] kP):aw P w K mg base aF 114 f fd ["board", "lay"] yx:=by
 refine F.ok yH (fun vs H Q E h=> ?_) (fun cdv A outer s H vs Q E hr h=> ?_)
 ·obtain⟨b,l,wd,hg,xs,rfl,_⟩:=h;rfl
 ·obtain⟨b,l,wd,hg,xs,rfl,bd,hl,ly,w6,g7,q⟩:=h;refine⟨_,Zg (Zo (VR (hr.hd .d) (W8 hr) rfl G.min (Zh C0 hr (Za (pv 0) (Za (pv 1) Zb))))),?_⟩;refine⟨_,rfl,_,rfl,b,l,wd,hg,xs,rfl,bd,hl,ly,w6,g7,fun fa H1 ts s1 nf ef pr=> ?_⟩;have ri:=UW hg.toNat xs xs.length;have ok:=Yn hg.toNat xs xs.length;generalize ba hg.toNat xs xs.length=FQ at pr ri ok q;refine⟨fa,ts,FQ.map intsOf,rfl,ao.of ef,WN pr fun x y hy h=> ?_,fun e=> ?_,fun v k hv hk ht hle=> ?_⟩
  ·obtain⟨_,_,ks,rfl⟩:=ok y hy;rw[ints_map];exact h
  ·refine q _ _ s1 (.inl ⟨?_,rfl⟩);have:=Za6 pr;rw[e]at this;exact List.length_eq_zero_iff.mp this.symm
  ·obtain⟨y,hy,rfl⟩:=Za0.mp hk;refine q _ _ s1 (.inr ⟨y,?_,?_⟩)
   ·cases FQ with
    |nil=>cases hy
    |cons a l=>
     rcases Zaf.mp hy with rfl |hy
     ·rfl
     ·have h1:=(Zcn.mp ri).1 y hy;have h2:=hle (intsOf a) (Zb4 Zai);rw[h1]at h2;cases h2
   ·obtain⟨_,_,ks,rfl⟩:=ok y hy;rw[ints_map]at ht;exact ht
end
end U.S
namespace U.S
open PySem L2 PyProof.Rows
def qy (hg:Nat)(xs:List V)(i j:Nat):List (List V):=((ba hg xs i).take j).flatMap (hV hg xs i)
theorem Zbj {hg:Nat}{xs:List V}{i j:Nat}{b:List V}(e:(ba hg xs i)[j]? =some b):qy hg xs i (j+1)=qy hg xs i j++hV hg xs i b:=by unfold qy;rw[ZaT,e,ZcU];simp
theorem X0 (n:Nat):L2.upTo n=(mS n).map V.int:=by unfold L2.upTo mS;rw[Zdn];rfl
theorem GS {H:Hp}{L:Addr}{zs:List V}{o:HO}(e:H L=some (.lst zs)){v:V}{k:List V}(h:dn H v k):dn (upd H L o) v k:=by obtain⟨t,rfl,h1⟩:=h;refine⟨t,rfl,?_⟩;rw[Zi (fun z=>by rw[z,e]at h1;cases h1)];exact h1
section
variable {P:Program}{w:World}{K:ZgE}{mg:Str->Option Value}{base:Heap}
abbrev zv:Stmt:=top 73
abbrev Nm:List Str:=["_law_board", "_law_lay", "_law_found", "_law_line", "_law_longer", "_law_begun", "_law_some"]
theorem mH:aH Nm ["_law_board", "_law_lay"] (ay zv):=Zz (by decide+kernel)
theorem MY {f:Addr}{fd:FuncData}(F:aE K "_law_fits" "_law_fits" zv f fd)(G:Gs mg)(CV:Def P w K mg base 2 "_law_unlike" ["_law_lay"] uP):aw P w K mg base aF 103 f fd ["_law_board", "_law_lay"] kP:=by
 refine F.ok mH (fun vs H Q E h=> ?_) (fun cdv A outer s H vs Q E hr h=> ?_)
 ·obtain⟨b,l,wd,hg,xs,rfl,_⟩:=h;rfl
 ·obtain⟨b,l,wd,hg,xs,rfl,bd,hl,ly,w6,g7,q⟩:=h;refine⟨_,Ze (ZF (i:=2) mH.nd rfl (Or.inl rfl) (ZH (Za (Zt Zb) Zb)))
   (Ze (Yx Zb6 rfl (ZV rfl G.range (Za (Zq ZE (pv 0) Zf (fun _ _=>rfl)) Zb)) (Zx (i:=3) mH.nd rfl (Or.inl rfl))
    (Ze (ZF (i:=4) mH.nd rfl (Or.inl rfl) (ZH Zb))
    (Ze (Yx Zb6 rfl (ZW (pv 2)) (Zx (i:=5) mH.nd rfl (Or.inr rfl))
     (Ze (ZF (i:=6) mH.nd rfl (Or.inl rfl) (Yt (YM (Ju (Zq ZE (pv 1) (pv 3) (fun _ _=>rfl)))) (ZD (Uw (hr.hd .d)) rfl G.list boot_list (Za (ZD Zbp rfl G.range boot_range (Za (Zq ZE (pv 0) Zf (fun _ _=>rfl)) Zb)) Zb)) (ZH (Za (Zq ZE (pv 1) (pv 3) (fun _ _=>rfl)) Zb))))
     (Zg (ZR (Y6 Zb0 Zfl Zfm UM (pv 4) (Za
      (ZZ ["_law_row", "_law_begun"] 1 [5] (ZW (pv 6)) (fun C s H fp=>pb 0)
       (fun C s H fp=>Yk (PW.pt (Cc (ZA (show aZ (aK _ _ _ C s H fp) (compareOp .NotIn) (rq K true) from Y4) (pv 0) (pv 1) rfl) (Cr (Z0 (Zh CV (hr.mono .d) (Za (Zp (show aZ (aK _ _ _ C s H fp) (binaryOp .Add) (kY K) from Ye) (pv 1) (Zt (Za (pv 0) Zb))) Zb)))))))
       (fun C s H fp D=>cz rfl (Zp (show aZ (aK _ _ _ C s H fp) (binaryOp .Add) (kY K) from Ye) (pv 1) (Zt (Za (pv 0) Zb))))) Zb))))))
    (Zg (ZF (i:=2) mH.nd rfl (Or.inl rfl) (pv 4))))))
   (Zg (Zo (pv 2)))),?_⟩
  obtain⟨b',eb,hb⟩:=ZB bd.1;cases eb;obtain⟨_,w1,_,g1,_⟩:=id bd;have eH:(hg.toNat:Int)=hg:=.o;have wB:hg.toNat<=7:=.o;have ll:=ly.len;refine Zj (Zu ⟨ZaP _,fun p hp=> ⟨bH,fun L0 qv=>Zl ?_⟩⟩);dsimp only[List.set];have s1:=ZL (o:=.tup []) hp;have e1:upd H p (.tup []) p=some (.tup []):=Zc;generalize upd H p (HO.tup [])=H1 at s1 e1 qv;obtain⟨H2,zz,s2,e2⟩:=da (o:=.lst [.ref p]) qv;rw[zz];have mJ:=s1.trans s2;have pT:=s1.free qv;refine Zj ⟨_,rfl,b,_,_,_,rfl,rfl,aq.of (mJ _ _ hb),gF,wd,rfl,.o,.o,?_⟩;refine Yh (n:=wd.toNat) (fun i σ H'=> ∃fa ts x3 x4 x5 x6,σ=[some (.ref b),some (.ref l),some (.ref fa),x3,x4,x5,x6]/\ak H H'/\H fa=none/\H' fa=some (.lst ts)/\Paired (dn H') ts (ba hg.toNat xs i)) ⟨L0,_,_,_,_,_,rfl,mJ,pT,e2,.cons ⟨p,rfl,s2 _ _ e1⟩ .nil⟩ ?_ ?_
  ·rintro i σ H3 hi ⟨fa,ts,x3,x4,x5,x6,rfl,s3,nh,jD,bO⟩;rw[Zcm];refine Zl ?_;dsimp only[List.set];have aT:=Jf wB xs (i:=i) .o;have jg:=Za6 bO;have jw:i<xs.length:=.o;obtain⟨v,hv⟩:∃v,xs[i]? =some v:=⟨_,Zax jw⟩;refine Zj (Zu ⟨ZaP _,fun L hL=>Zl ?_⟩);dsimp only[List.set];have sL:=ZL (o:=.lst []) hL;have eL:upd H3 L (.lst []) L=some (.lst []):=Zc;have nLf:fa≠L:=Zd jD hL;have nL:=s3.free hL;generalize upd H3 L (HO.lst [])=H4 at sL eL;refine Zj ⟨_,rfl,fa,rfl,⟨ts,ao.of (sL _ _ jD)⟩,?_⟩;refine HG (xs:=ts) (fun j σ H5=> ∃zs x5 x6,σ=[some (.ref b),some (.ref l),some (.ref fa),some (.int (i:Int)),some (.ref L),x5,x6]/\ak H3 H5/\H5 L=some (.lst zs)/\Paired (dn H5) zs (qy hg.toNat xs i j)/\zs.length<=j*7) ⟨_,_,_,rfl,sL,eL,.nil,ZaP _⟩ (fun j σ H5 _ ⟨_,_,_,_,s5,_⟩=>ao.of (s5 _ _ jD)) ?_ ?_
   ·rintro j v' σ H5 gT ⟨zs,x5,x6,rfl,s5,wL,pN,Pa⟩;obtain⟨fs,Fb,t,rfl,ht⟩:=Paired.at bO gT;have hj:j<ts.length:=(Zaa.mp gT).1;obtain⟨lfs,_,ks,QI⟩:=Yn hg.toNat xs i fs (ZaC Fb);have DG:j7 fs:=fun x hx=>by rw[QI]at hx;obtain⟨k,_,rfl⟩:=Za0.mp hx;exact .inr ⟨k,rfl⟩
    have flat:fs.all jA=true:=Zbm.mpr fun x hx=>by rcases DG x hx with z |⟨j,z⟩<;>rw[z]<;>rfl
    have qe:=s5 _ _ ht;have P4:=(s3.trans s5) _ _ hb;have EU:=(s3.trans s5) _ _ hl;refine Zl ?_;dsimp only[List.set];refine Zj (Zu (T.C9 (t:=xY _ _ _) (fun v H'=> ∃S,v=.ref S/\ak H5 H'/\H5 S=none/\H' S=some (.lst ((jF hg.toNat xs[i]?).map V.int))) ?_ ?_))
    case refine_2=>
     intro Q' hq;refine⟨_,rfl,_,rfl,l,xs,(i:Int),v,rfl,rfl,aq.of EU,Ya hv,_,rfl,?_⟩;rcases ly.ok v (ZaC hv) with rfl |⟨r,rfl⟩
     ·refine aB ⟨_,rfl,b,_,_,_,rfl,rfl,aq.of P4,dE,hg,rfl,fun q1 jo=> ⟨q1,hg,rfl,Zc,.o,.o,fun S hS=>hq _ _ ⟨S,rfl,(ZL jo).trans (ZL hS),(ZL jo).free hS,?_⟩⟩⟩;rw[Zc,hv,X0];rfl
     ·refine az ⟨_,rfl,_,rfl,l,xs,(i:Int),_,rfl,rfl,aq.of EU,Ya hv,bH,fun S hS=>hq _ _ ⟨S,rfl,ZL hS,hS,?_⟩⟩;rw[Zc,hv];rfl
    rintro v6 H6 ⟨S,rfl,s6,nS,eS⟩;refine Zl ?_;dsimp only[List.set];have Ma:=s5.trans s6;have nSL:S≠L:=fun z=>by rw[z,wL]at nS;cases nS
    have FX:=s6 _ _ wL;have vV:=s6 _ _ qe;have NR:=Hx wB xs[i]?;have en:hV hg.toNat xs i fs=((jF hg.toNat xs[i]?).filter fun r=> !aX (.int r) fs&&bF (fs++[.int r])).map fun r=>fs++[V.int r]:=rfl;have l0:=Zbj Fb;generalize jF hg.toNat xs[i]? =ask at eS NR en;refine⟨_,rfl,.inl ⟨rfl,_,ao.of FX⟩,_,rfl,S,rfl,⟨_,ao.of eS⟩,?_⟩;refine ZQ (xs:=ask.map V.int) (fun k us ah H7=> ∃v,ah=[v,some (.ref t)]/\ak H6 H7/\Paired (dn H7) us (((ask.take k).filter fun r=> !aX (.int r) fs&&bF (fs++[.int r])).map fun r=>fs++[V.int r])/\us.length<=k) ⟨_,rfl,ak.refl _,.nil,ZaP _⟩ (fun k us ah H7 _ ⟨_,_,s7,_⟩=>ao.of (s7 _ _ eS)) ?_ ?_
    ·rintro k u us ah H7 hu ⟨v0,rfl,s7,dY,nX⟩;rw[Zbi]at hu;obtain⟨r,cQ,rfl⟩:=Za2.mp hu;have hk:k<ask.length:=(Zaa.mp cQ).1;refine Zl ?_;dsimp only[List.set];have ij:=s7 _ _ vV;have et:ask.take (k+1)=ask.take k++[r]:=by rw[ZaT,cQ];rfl
     refine⟨_,rfl,_,rfl,t,fs,rfl,.inr (aq.of ij),rfl,flat,_,rfl,?_⟩;cases hn:aX (.int r) fs with
     |true=>refine az (az ⟨_,rfl,s7,?_,.o⟩);rw[et,Zbo,ZaF];simpa[hn] using dY
     |false=>
      refine aB ?_;refine⟨_,rfl,_,rfl,bH,fun t8 jm=> ?_⟩;obtain⟨H8,zz,s8,e8⟩:=da (o:=.tup [.int r]) jm;rw[zz];refine Jh (s8 _ _ ij) e8 (by simp;omega) fun t9 H9 s9 e9=> ?_;refine⟨t9,_,rfl,e9,fun x hx=> ?_,by rw[Zam];simp;omega,fun mh je=> ⟨_,rfl,?_⟩⟩
      ·rcases Zbf.mp hx with z |z
       ·exact DG x z
       ·exact .inr ⟨r,Zar.mp z⟩
      rw[UB];have rk:=s8.trans (s9.trans je);cases hu:bF (fs++[.int r]) with
      |true=>refine aB ⟨_,rfl,_,rfl,bH,fun t11 OA=> ?_⟩;obtain⟨xp,zz,pL,e11⟩:=da (o:=.tup [.int r]) OA;rw[zz];refine Jh ((rk.trans pL) _ _ ij) e11 (by simp;omega) fun Lm CM pK e12=> ⟨by rw[Zaz];omega,_,rfl,s7.trans (rk.trans (pL.trans pK)),?_,by rw[Zam];simp;omega⟩;rw[et,Zbo,ZaF];simp only[ZcA,hn,hu,Zf7,Bool.and_self,Zem,ZeU,ZaQ,Zdm];exact Zdc (Paired.bj dY fun v q' hq=>dn.same hq (rk.trans (pL.trans pK))) ⟨Lm,rfl,e12⟩
      |false=>refine az ⟨_,rfl,s7.trans rk,?_,.o⟩;rw[et,Zbo,ZaF];simpa[hn,hu] using Paired.bj dY fun v q' hq=>dn.same hq rk
    ·rintro us ah H7 ⟨v0,rfl,s7,dY,nX⟩ M hM;rw[Zae]at dY nX;rw[ZaH,<-en]at dY;obtain⟨H8,zz,sM,eM⟩:=da (o:=.lst us) hM;rw[zz];have kT:=s7.trans sM;have BI:=kT _ _ FX;refine⟨L,M,zs,us,rfl,rfl,BI,eM,by rw[Zaz];omega,Zw ?_⟩;refine⟨_,_,_,rfl,UG (Ma.trans kT) hL,Zc,?_,by rw[Zam];omega⟩;rw[l0];exact YD (Paired.bj pN fun v q' hq=>GS BI (dn.same hq (s6.trans kT))) (Paired.bj dY fun v q' hq=>GS BI (dn.same hq sM))
   ·rintro σ H5 ⟨zs,x5,x6,rfl,s5,wL,pN,Pa⟩;dsimp only;refine Zu ⟨_,rfl,Zl ?_⟩;dsimp only[List.set];refine⟨L,zs,_,_,_,_,rfl,s3.trans s5,nL,wL,?_⟩;have e:qy hg.toNat xs i ts.length=ba hg.toNat xs (i+1):=by unfold qy;rw[jg,ZaH];rfl
    rw[<-e];exact pN
  ·rintro σ H3 ⟨fa,ts,x3,x4,x5,x6,rfl,s3,nh,jD,bO⟩;rw[show wd.toNat=xs.length by omega]at bO;exact⟨_,rfl,q fa H3 ts s3 nh jD bO⟩
end
end U.S
namespace U
open PySem L2 PyProof.Rows U.S
def gJ (ns:List Int):Str:=if ns.isEmpty=true then "none" else Txt.join " " (ns.map aO)
def jH (ns:List Int):Prop:=ns.length<=100/\∀n∈ns,0<=n/\n<100
theorem Jr {ns:List Int}(h:jH ns):JoinOk " " (ns.map aO)=true:=Hh (fun u hu=>by obtain⟨n,hn,rfl⟩:=Za0.mp hu;obtain⟨n0,n1⟩:=h.2 n hn;exact ZaL (Jw n0 n1).2.2 .d) (by rw[Zae];exact ZaL h.1 .d)
section
variable {P:Program}{w:World}{K:ZgE}{mg:Str->Option Value}{base:Heap}
abbrev vd:Stmt:=top 52
theorem Dr:aH ["numbers"] ["numbers"] (ay vd):=Zz (by decide+kernel)
inductive oV (vs:List V) (H:Hp) (Q:VK) (E:XK):Prop
 |mk (l:Addr) (ns:List Int) (ev:vs=[.ref l]) (hl:H l=some (.lst (ns.map V.int))) (ok:jH ns) (q:∀H',ak H H'->Q (.str (gJ ns)) H')
inductive uG (vs:List V) (H:Hp) (Q:VK) (E:XK):Prop
 |mk (l:Addr) (ns:List Int) (ev:vs=[.ref l]) (hl:H l=some (.tup (ns.map V.int))) (ok:jH ns) (q:∀H',ak H H'->Q (.str (gJ ns)) H')
 |ag (ev:vs=[.ag]) (q:∀H',ak H H'->Q (.str "none") H')
theorem T7 {f:Addr}{fd:FuncData}(F:aE K "words_of" "words_of" vd f fd)(G:Gs mg):aw P w K mg base aF 1 f fd ["numbers"] oV:=by
 refine F.ok Dr (fun vs H Q E h=> ?_) (fun cdv A outer s H vs Q E hr h=> ?_)
 ·obtain⟨l,ns,rfl,_⟩:=h;rfl
 ·obtain⟨l,ns,rfl,hl,ok,q⟩:=h;refine⟨_,Zg (Zo (Yt (Ig (pv 0) (fun _=>rfl)) (Y6 ZcC Zc9 Zda JI Zr (Za (ZZ ["number"] 1 [] (ZW (pv 0)) (fun C s H fp=>pb 0) (fun C s H fp=>Z1) (fun C s H fp D=>cz rfl (ZD Zv rfl G.str PyProof.Rows.Boot.«str» (Za (pv 0) Zb)))) Zb)) Zr)),?_⟩;refine⟨_,rfl,_,.inl ⟨_,ao.of hl,rfl⟩,?_⟩;unfold gJ at q;have he:(ns.map V.int).isEmpty=ns.isEmpty:=by cases ns<;>rfl
  rw[he];cases hn:ns.isEmpty with
  |true=>rw[hn,ZaG rfl]at q;exact az (q H (ak.refl H))
  |false=>
   rw[hn,ZaD Zaj]at q;refine aB ⟨rfl,_,rfl,l,rfl,⟨_,ao.of hl⟩,?_⟩;have hlen:=ok.1;refine ZQ (xs:=ns.map V.int) (fun j ys ah H'=>H'=H/\ys=((ns.take j).map aO).map V.str/\∃v,ah=[v]) ⟨rfl,rfl,none,rfl⟩ (fun j ys ah H' _ ⟨e,_⟩=>by rw[e];exact ao.of hl) ?_ ?_
   ·rintro j y ys ah H' hy ⟨rfl,rfl,v,rfl⟩;rw[Zbi]at hy;obtain⟨n,hz,rfl⟩:=Za2.mp hy;have hj:=(Zaa.mp hz).1;obtain⟨n0,n1⟩:=ok.2 n (ZaC hz);refine⟨_,rfl,n,rfl,ZO n0 .o,?_,rfl,?_,_,rfl⟩
    ·rw[Zae,Zae,ZaW,Zaz];omega
    ·rw[ZaT,hz,ZaF,ZaF];rfl
   ·rintro ys ah H' ⟨rfl,rfl,v,rfl⟩ L hL;rw[Zae,ZaH];exact⟨" ",L,ns.map aO,rfl,rfl,ao.of Zc,Jr ok,q _ (Zk hL)⟩
theorem T8 {f:Addr}{fd:FuncData}(F:aE K "words_of" "words_of" vd f fd)(G:Gs mg):aw P w K mg base aF 1 f fd ["numbers"] uG:=by
 refine F.ok Dr (fun vs H Q E h=> ?_) (fun cdv A outer s H vs Q E hr h=> ?_)
 ·cases h with
  |mk l ns ev=>rw[ev];rfl
  |ag ev=>rw[ev];rfl
 ·refine⟨_,Zg (Zo (Yt (Ig (pv 0) (fun _=>rfl)) (Y6 ZcC Zc9 Zda JI Zr (Za (ZZ ["number"] 1 [] (J0 (pv 0)) (fun C s H fp=>pb 0) (fun C s H fp=>Z1) (fun C s H fp D=>cz rfl (ZD Zv rfl G.str PyProof.Rows.Boot.«str» (Za (pv 0) Zb)))) Zb)) Zr)),?_⟩;cases h with
  |ag ev q=>subst ev;exact⟨_,rfl,false,rfl,az (q H (ak.refl H))⟩
  |mk l ns ev hl ok q=>
   subst ev;refine⟨_,rfl,_,.inr (.inl ⟨_,aq.of hl,rfl⟩),?_⟩;unfold gJ at q;have he:(ns.map V.int).isEmpty=ns.isEmpty:=by cases ns<;>rfl
   rw[he];cases hn:ns.isEmpty with
   |true=>rw[hn,ZaG rfl]at q;exact az (q H (ak.refl H))
   |false=>
    rw[hn,ZaD Zaj]at q;refine aB ⟨rfl,_,rfl,l,rfl,⟨_,aq.of hl⟩,?_⟩;have hlen:=ok.1;refine Y9 (xs:=ns.map V.int) (fun j ys ah H'=>H'=H/\ys=((ns.take j).map aO).map V.str/\∃v,ah=[v]) ⟨rfl,rfl,none,rfl⟩ (fun j ys ah H' _ ⟨e,_⟩=>by rw[e];exact aq.of hl) ?_ ?_
    ·rintro j y ys ah H' hy ⟨rfl,rfl,v,rfl⟩;rw[Zbi]at hy;obtain⟨n,hz,rfl⟩:=Za2.mp hy;have hj:=(Zaa.mp hz).1;obtain⟨n0,n1⟩:=ok.2 n (ZaC hz);refine⟨_,rfl,n,rfl,ZO n0 .o,?_,rfl,?_,_,rfl⟩
     ·rw[Zae,Zae,ZaW,Zaz];omega
     ·rw[ZaT,hz,ZaF,ZaF];rfl
    ·rintro ys ah H' ⟨rfl,rfl,v,rfl⟩ L hL;rw[Zae,ZaH];exact⟨" ",L,ns.map aO,rfl,rfl,ao.of Zc,Jr ok,q _ (Zk hL)⟩
end
def gp:Option aC->Str
 |none=> "none"
 |some k=>gJ [k.1,k.2.1,k.2.2.1,k.2.2.2]
theorem HN {xs:List V}{o l:Nat}{q:aC}(h:gK xs o l=some q):q.2.2.1=(l:Int)/\q.2.2.2=(o:Int):=by
 unfold gK at h;cases h1:rowAt xs l with
 |none=>rw[h1]at h;cases h
 |some a=>
  cases h2:rowAt xs o with
  |none=>rw[h1,h2]at h;cases h
  |some b=>rw[h1,h2]at h;cases h;exact⟨rfl,rfl⟩
theorem WT {xs:List V}{k:aC}(hl:xs.length<=12)(h:eI (bz xs xs.length) (some k)):jH [k.1,k.2.1,k.2.2.1,k.2.2.2]:=by obtain⟨⟨a,ha,b,hb,_,_,rfl⟩,_⟩:=h;obtain⟨l1,o1,a1,a2,ea⟩:=JK.mp ha;obtain⟨l2,o2,b1,b2,eb⟩:=JK.mp hb;obtain⟨x1,x2⟩:=HN ea;obtain⟨y1,y2⟩:=HN eb;refine⟨by show 4<=100;decide,fun n hn=> ?_⟩;simp only[four,Zaf,ZcK,ZdD]at hn;rcases hn with rfl |rfl |rfl |rfl<;>omega
section
variable {P:Program}{w:World}{K:ZgE}{mg:Str->Option Value}{base:Heap}
abbrev yV:Stmt:=top 54
theorem LF:aH cF cF (ay yV):=Zz (by decide+kernel)
inductive uJ (vs:List V) (H:Hp) (Q:VK) (E:XK):Prop
 |mk (b l:Addr) (z:V) (wd hg:Int) (xs:List V) (ev:vs=[.ref b,.ref l,z]) (bd:cX H (.ref b) wd hg) (hl:H l=some (.tup xs)) (ly:bq wd hg xs) (aT:iD xs) (q:∀r H',ak H H'->eI (bz xs xs.length) r->Q (.str (gp r)) H')
theorem SD {f:Addr}{fd:FuncData}(F:aE K "tell_like" "tell_like" yV f fd)(Dfi:Def P w K mg base 110 "first_like" ["board", "lay"] uV)(um:Def P w K mg base 1 "words_of" ["numbers"] uG):aw P w K mg base aF 111 f fd cF uJ:=by
 refine F.ok LF (fun vs H Q E h=> ?_) (fun cdv A outer s H vs Q E hr h=> ?_)
 ·obtain⟨b,l,z,wd,hg,xs,rfl,_⟩:=h;rfl
 ·obtain⟨b,l,z,wd,hg,xs,rfl,bd,hl,ly,aT,q⟩:=h;refine⟨_,Zg (Zo (Zh um (hr.mono .d) (ZT (Zh Dfi hr (Za (pv 0) (Za (pv 1) Zb))) Zb))),?_⟩;refine⟨_,rfl,_,rfl,.ref b,.ref l,wd,hg,xs,rfl,⟨bd,ZI hl,ly⟩,aT,fun H1 v r s1 fi ot=> ?_⟩;have ll:=ly.len;obtain⟨_,_,w2,_,_⟩:=bd;cases r with
  |none=>have e:v=.ag:=ot;subst e;exact .ag rfl fun H' s'=>q none H' (s1.trans s') fi
  |some k=>obtain⟨t,rfl,ht⟩:=ot;exact .mk t [k.1,k.2.1,k.2.2.1,k.2.2.2] rfl ht (WT .o fi) fun H' s'=>q (some k) H' (s1.trans s') fi
inductive uT (vs:List V) (H:Hp) (Q:VK) (E:XK):Prop
 |mk (b l L:Addr) (i:Nat) (wd hg:Int) (xs:List V) (ev:vs=[.ref b,.ref l,.ref L]) (bd:cX H (.ref b) wd hg) (hl:H l=some (.tup xs)) (ly:bq wd hg xs) (hL:H L=some (.lst [.int (i:Int)])) (hi:xs[i]? =some .ag) (aT:∀r:Int,iD (xs.set i (.int r))) (q:∀H',ak H H'->Q (.str (gJ (fj hg.toNat xs i))) H')
theorem Ub {hg:Nat}(h:hg<=12)(xs:List V)(i:Nat):jH (fj hg xs i):=by refine⟨ZaL (US hg xs i) .o,fun n hn=> ?_⟩;obtain⟨⟨h0,h1⟩,_⟩:=HX.mp hn;omega
theorem Sa {f:Addr}{fd:FuncData}(F:aE K "tell_free" "tell_free" vm f fd)(D1:Def P w K mg base 4 "is_bare_line" ["lay", "thing"] uS)(uq:Def P w K mg base 112 "free_rows" ["board", "lay", "line"] mB)(um:Def P w K mg base 1 "words_of" ["numbers"] oV):aw P w K mg base aF 113 f fd cF uT:=by
 refine F.ok DA (fun vs H Q E h=> ?_) (fun cdv A outer s H vs Q E hr h=> ?_)
 ·obtain⟨b,l,L,i,wd,hg,xs,rfl,_⟩:=h;rfl
 ·obtain⟨b,l,L,i,wd,hg,xs,rfl,bd,hl,ly,hL,hi,aT,q⟩:=h;refine⟨_,Ze (ZN (Yw (Z0 (Zh D1 (hr.mono .d) (Za (pv 1) (Za (Zq Zs (pv 2) Zf (fun _ _=>rfl)) Zb))))) ZP Zy)
   (Zg (Zo (Zh um (hr.mono .d) (ZT (Zh uq hr (Za (pv 0) (Za (pv 1) (Za (Zq Zs (pv 2) Zf (fun _ _=>rfl)) Zb)))) Zb)))),?_⟩
  obtain⟨_,_,_,g1,g2⟩:=id bd;have aI:=(Zaa.mp hi).1;refine Zj ⟨_,rfl,_,rfl,L,_,_,_,rfl,rfl,ao.of hL,Uk,l,(i:Int),xs,rfl,hl,?_⟩;have eb:oG xs (i:Int)=true:=by unfold oG;rw[ZcN,hi];simp;omega
  rw[eb];refine⟨_,rfl,az (Zw ?_)⟩;dsimp only;refine⟨_,rfl,_,rfl,_,rfl,L,_,_,_,rfl,rfl,ao.of hL,Uk,b,l,i,wd,hg,xs,rfl,bd,hl,ly,aT,hi,fun fa H1 s1 nf ef=> ?_⟩;exact .mk fa _ rfl ef (Ub .o xs i) fun H' s'=>q H' (s1.trans s')
end
theorem Co {n:Nat}(h:n<=117649):((n:Int)).natAbs.log2<1920:=by
 rw[Int.natAbs_natCast];rcases Nat.eq_zero_or_pos n with rfl |h0
 ·decide
 ·exact Zaw ((Nat.log2_lt .o).mpr (by omega:n<2^17)) .d
def dB (F:List (List V)):Str:=match F[0]? with
 |some b=>gJ (intsOf b)
 |none=> "none"
theorem Ud {wd:Int}{hg:Nat}{xs:List V}(ly:bq wd (hg:Int) xs)(g:hg<=7):∀i,∀b∈ba hg xs i,∀v∈b,∃r:Int,v=.int r/\0<=r/\r<100
 |0,b,h,v,hv=>by
  have e:b=[]:=by simpa[ba] using h
  rw[e]at hv;cases hv
 |i+1,b,h,v,hv=>by
  unfold ba at h;obtain⟨a,ha,hb⟩:=Zdr.mp h;unfold hV at hb;obtain⟨r,hr,rfl⟩:=Za0.mp hb;rcases Zbf.mp hv with hv |hv
  ·exact Ud ly g i a ha v hv
  ·rw[Zar]at hv;refine⟨r,hv,?_⟩;have hm:=(ZaK.mp hr).1;unfold jF at hm;split at hm
   ·rename_i k e;rw[Zar.mp hm];have:=Tg ly (ZaC e);omega
   ·unfold mS at hm;obtain⟨j,hj,rfl⟩:=Za0.mp hm;have:=ZbC.mp hj;omega
section
variable {P:Program}{w:World}{K:ZgE}{mg:Str->Option Value}{base:Heap}
inductive pe (o:Nat->List V->Str) (vs:List V) (H:Hp) (Q:VK) (E:XK):Prop
 |mk (b l:Addr) (z:V) (wd hg:Int) (xs:List V) (ev:vs=[.ref b,.ref l,z]) (bd:cX H (.ref b) wd hg) (hl:H l=some (.tup xs)) (ly:bq wd hg xs) (w6:wd<=6) (g7:hg<=7) (q:∀H',ak H H'->Q (.str (o hg.toNat xs)) H')
theorem SE {f:Addr}{fd:FuncData}(F:aE K "tell_many" "tell_many" ve f fd)(G:Gs mg)(Dfm:Def P w K mg base 114 "fits_many" BL S.yw):aw P w K mg base aF 115 f fd cF (pe fun hg xs=>aO ((ba hg xs xs.length).length:Int)):=by
 refine F.ok Ds (fun vs H Q E h=> ?_) (fun cdv A outer s H vs Q E hr h=> ?_)
 ·obtain⟨b,l,z,wd,hg,xs,rfl,_⟩:=h;rfl
 ·obtain⟨b,l,z,wd,hg,xs,rfl,bd,hl,ly,w6,g7,q⟩:=h;refine⟨_,Zg (Zo (ZD Zv rfl G.str PyProof.Rows.Boot.«str» (Za (Zh Dfm hr (Za (pv 0) (Za (pv 1) Zb))) Zb))),?_⟩;have ll:=ly.len;exact⟨_,rfl,_,rfl,b,l,wd,hg,xs,rfl,bd,hl,ly,w6,g7,fun H1 s1=> ⟨_,rfl,Co (Jf .o xs .o),q H1 s1⟩⟩
theorem Sz {f:Addr}{fd:FuncData}(F:aE K "tell_first" "tell_first" vf f fd)(Dff:Def P w K mg base 114 "first_fit" BL S.yx)(um:Def P w K mg base 1 "words_of" ["numbers"] uG):aw P w K mg base aF 115 f fd cF (pe fun hg xs=>dB (ba hg xs xs.length)):=by
 refine F.ok Dt (fun vs H Q E h=> ?_) (fun cdv A outer s H vs Q E hr h=> ?_)
 ·obtain⟨b,l,z,wd,hg,xs,rfl,_⟩:=h;rfl
 ·obtain⟨b,l,z,wd,hg,xs,rfl,bd,hl,ly,w6,g7,q⟩:=h;refine⟨_,Zg (Zo (Zh um (hr.mono .d) (ZT (Zh Dff hr (Za (pv 0) (Za (pv 1) Zb))) Zb))),?_⟩;have ll:=ly.len;refine⟨_,rfl,_,rfl,b,l,wd,hg,xs,rfl,bd,hl,ly,w6,g7,fun v H1 s1 hv=> ?_⟩;unfold dB at q;rcases hv with ⟨e,rfl⟩ |⟨k,hk,t,rfl,ht⟩
  ·rw[e]at q;exact .ag rfl fun H' s'=>q H' (s1.trans s')
  ·have hm:=ZaC hk;obtain⟨lk,_,ks,rfl⟩:=Yn hg.toNat xs xs.length k hm;obtain⟨_,_,_,g1,_⟩:=id bd;have nD:bq wd (hg.toNat:Int) xs:=by rw[show(hg.toNat:Int)=hg by omega];exact ly
   rw[hk]at q;have sm:jH ks:=⟨by rw[Zae]at lk;omega,fun n hn=>by obtain⟨r,e,r0,r1⟩:=Ud nD .o _ _ hm (.int n) (Zb4 hn);cases e;exact⟨r0,r1⟩⟩
   dsimp only at q;rw[S.ints_map]at q;exact .mk t ks rfl ht sm fun H' s'=>q H' (s1.trans s')
end
def DK (f1 f2 f3 f4 f5:Addr):List (Key×V):=[(.inr "shown",.ref f1),(.inr "like",.ref f2),(.inr "free",.ref f3),(.inr "many",.ref f4),(.inr "first",.ref f5)]
def F4 (f1 f2 f3:Addr):List (Key×V):=[(.inr "board",.ref f1),(.inr "put",.ref f2),(.inr "take",.ref f3)]
inductive Out
 |no (i:Nat)
 |tell (z:Str)
 |pop
 |push (wd hg:Int) (xs:List V)
inductive cI (An:Prop) (n:Nat) (wd hg:Int) (xs:List V):Str->List V->Out->Prop
 |shown:cI An n wd hg xs "shown" [] (.tell (dz wd hg xs))
 |many (h:6<wd∨7<hg):cI An n wd hg xs "many" [] (.no 11)
 |first (h:6<wd∨7<hg):cI An n wd hg xs "first" [] (.no 11)
 |free (i:Int) (h:oG xs i=false):cI An n wd hg xs "free" [.int i] (.no 2)
 |Ej (a:An) (aT:iD xs) (r:Option aC) (h:eI (bz xs xs.length) r):cI An n wd hg xs "like" [] (.tell (gp r))
 |FD (a:An) (i:Nat) (hi:xs[i]? =some .ag) (aT:∀r:Int,iD (xs.set i (.int r))):cI An n wd hg xs "free" [.int (i:Int)] (.tell (gJ (fj hg.toNat xs i)))
 |Ak (a:An) (w6:wd<=6) (g7:hg<=7):cI An n wd hg xs "many" [] (.tell (aO ((ba hg.toNat xs xs.length).length:Int)))
 |BB (a:An) (w6:wd<=6) (g7:hg<=7):cI An n wd hg xs "first" [] (.tell (dB (ba hg.toNat xs xs.length)))
 |BV (h:n=0):cI An n wd hg xs "back" [] (.no 14)
 |back (h:n≠0):cI An n wd hg xs "back" [] .pop
 |wX (a b:Int) (a0:1<=a) (a1:a<=12) (b0:1<=b) (b1:b<=12):cI An n wd hg xs "board" [.int a,.int b] (.push a b (List.replicate a.toNat V.ag))
 |take (i:Int) (h0:0<=i) (h1:i<wd):cI An n wd hg xs "take" [.int i] (.push wd hg (xs.set i.toNat .ag))
 |Kx (i:Int) (h:¬(0<=i/\i<wd)):cI An n wd hg xs "take" [.int i] (.no 2)
 |put (i r:Int) (h0:0<=i) (h1:i<wd) (r0:0<=r) (r1:r<hg) (h:aX (.int r) (xs.set i.toNat .ag)=false):cI An n wd hg xs "put" [.int i,.int r] (.push wd hg (xs.set i.toNat (.int r)))
 |Mu (i r:Int) (h:¬((0<=i/\i<wd)/\0<=r/\r<hg)):cI An n wd hg xs "put" [.int i,.int r] (.no 2)
 |DL (i r:Int) (h1:0<=i/\i<wd) (h2:0<=r/\r<hg) (h:aX (.int r) (xs.set i.toNat .ag)=true):cI An n wd hg xs "put" [.int i,.int r] (.no 4)
theorem ZbA {An:Prop}{n:Nat}{wd hg:Int}{xs N:List V}{W:Str}{o:Out}(h:cI An n wd hg xs W N o):gn W N=true:=by
 cases h with
 |wX a b a0 a1 b0 b1=>show(decide (1<=a)&&decide (a<=12)&&(decide (1<=b)&&decide (b<=12)))=true;simp[a0,a1,b0,b1]
 |_=>rfl
def Ends (cx:Nat->Addr)(H:Hp)(L:Addr)(ts:List V)(v:V)(Q:VK)(E:XK):Out->Prop
 | .no i=> ∀e H',ak H H'->E (.ref e) (some (cx i)) H'
 | .tell z=> ∀H',ak H H'->Q (.str z) H'
 | .pop=> ∀H',aV L H H'->H' L=some (.lst ts)->Q (.str "ok") H'
 | .push wd hg xs=> ∀v' H',aV L H H'->H' L=some (.lst (ts++[v]++[v']))->dU H' v' wd hg xs->Q (.str "ok") H'
def mf (H H':Hp):Prop:=∀p xs,H p=some (.tup xs)->H' p=some (.tup xs)
theorem ak.NU {H H':Hp}(s:ak H H'):mf H H':=fun p xs h=>s _ _ h
theorem Cj {p:Addr}{ys:List V}{H H':Hp}(s:aV p H H')(h:H p=some (.lst ys)):mf H H':=fun q xs e=>s _ _ e fun z=>by rw[z,h]at e;cases e
theorem dU.keep {H H':Hp}{v:V}{wd hg:Int}{xs:List V}(h:dU H v wd hg xs)(k:mf H H'):dU H' v wd hg xs:=by obtain⟨t,b,l,ev,ht,bd,hl,ly⟩:=h;obtain⟨a,e,ha⟩:=ZB bd.1;cases e;exact⟨t,b,l,ev,k _ _ ht,⟨ZI (k _ _ ha),bd.2⟩,k _ _ hl,ly⟩
def j9 (P:Program)(w:World)(K:ZgE)(mg:Str->Option Value)(base:Heap)(C:Addr)(k:Nat)(m:Str)(ps:List Str)(sp:Sp):Prop:=∃f fd,aw P w K mg base (bc P w) k f fd ps sp/\Meth K C m f/\Binds K fd ps []
def cm (P:Program)(w:World)(K:ZgE)(mg:Str->Option Value)(base:Heap)(k:Nat)(f:Addr)(sp:Sp):Prop:=∃fd ps,aw P w K mg base (bc P w) k f fd ps sp/\PySem.W.keepIn K (.ref f)=true/\Binds K fd ps []
section
variable {P:Program}{w:World}{K:ZgE}{mg:Str->Option Value}{base:Heap}{C aQ aD fS fL fF fM f1 fB fP fT:Addr}{cx:Nat->Addr}
abbrev vg:Stmt:=inClass (top 63) 1
abbrev Eb:List Str:=["self", "line", "word", "numbers", "board", "lay", "question", "deed"]
theorem mF:aH Eb ["self", "line"] (ay vg):=Zz (by decide+kernel)
inductive jc (An:Prop) (K:ZgE) (C:Addr) (cx:Nat->Addr) (vs:List V) (H:Hp) (Q:VK) (E:XK):Prop
 |no (a:Addr) (x:V) (t:Value) (ev:vs=[.ref a,x]) (ty:dF K H x t) (kt:PySem.W.kitOne K t (.type "str")=some false) (bad:∀e H',ak H H'->E (.ref e) (some (cx 13)) H')
 |bad (a:Addr) (z:Str) (ev:vs=[.ref a,.str z]) (hz:z.length<=1000) (hm:gn (cn z) (cf z)=false) (bad:∀e H',ak H H'->E (.ref e) (some (cx 13)) H')
 |txt (a L:Addr) (z:Str) (ts:List V) (v:V) (wd hg:Int) (xs:List V) (out:Out) (ev:vs=[.ref a,.str z]) (hz:z.length<=1000) (d:fX C H a L (ts++[v])) (sv:dU H v wd hg xs) (aT:ts.length<=900) (s:cI An ts.length wd hg xs (cn z) (cf z) out) (q:Ends cx H L ts v Q E out)
theorem G6 {An:Prop}{k:Nat}(hk:5<=k){f:Addr}{fd:FuncData}(F:aE K "say" "Desk.say" vg f fd)(DC:qO K C)(mQ:mg "QUESTIONS" =some (.ref aQ))(dQ:iY K w aQ (DK fS fL fF fM f1))(mD:mg "DEEDS" =some (.ref aD))(dD:iY K w aD (F4 fB fP fT))
  (xj:dW P w K mg base 5 "read_line" ["line"] (oY K (cx 13))) (xl:j9 P w K mg base C 1 "undo" ["self"] (ye C (cx 14)))
  (hS:cm P w K mg base k fS uK) (hF:cm P w K mg base k fF (uU (cx 2))) (hM:cm P w K mg base k fM (kO (cx 11))) (h1:cm P w K mg base k f1 (kO (cx 11))) (hB:cm P w K mg base k fB uO) (hP:cm P w K mg base k fP (oZ (cx 2) (cx 4))) (hT:cm P w K mg base k fT (rb (cx 2)))
  (hA:An->cm P w K mg base k fL uJ/\cm P w K mg base k fF uT/\cm P w K mg base k fM (pe fun hg xs=>aO ((ba hg xs xs.length).length:Int))/\cm P w K mg base k f1 (pe fun hg xs=>dB (ba hg xs xs.length))):
  aw P w K mg base (bc P w) (k+1) f fd ["self", "line"] (jc An K C cx):=by
 obtain⟨fu,fdu,Fu,mu,bu⟩:=xl;refine F.eW mF (fun vs H Q E h=> ?_) (fun cdv A outer s H vs Q E hr h=> ?_)
 ·cases h with
  |no a x t ev=>rw[ev];rfl
  |bad a z ev=>rw[ev];rfl
  |txt a L z ts v wd hg xs o ev=>rw[ev];rfl
 ·have fe:∀{g:Addr}{sp:Sp},cm P w K mg base k g sp->IA (ck (bc P w) P w K mg base Eb "Desk.say" (ay vg) f cdv A outer s H E) (bc P w) g sp:=fun d=>by obtain⟨Qy,Mw,F',k',b'⟩:=d;exact⟨k,Qy,Mw,F',hr,k',b'⟩
  refine⟨_,Ze (Yp (Z6 xj (hr.mono .o) (Za (pv 1) Zb)) (Z3 rfl (Zm (Zx (i:=2) mF.nd rfl (Or.inl rfl)) (Zm (Zx (i:=3) mF.nd rfl (Or.inl rfl)) ZS))))
   (Ze (Yp (Zq Zs (xh (pv 0) rfl) (UI JY Zf) (fun _ _=>rfl)) (Z3 rfl (Zm (Zx (i:=4) mF.nd rfl (Or.inl rfl)) (Zm (Zx (i:=5) mF.nd rfl (Or.inl rfl)) ZS))))
   (Ze (ZN (ZA Ts (pv 2) (ZK (v:=.ref aQ) rfl mQ rfl) rfl)
    (Ze (ZF (i:=6) mF.nd rfl (Or.inl rfl) (Ib (ZK (v:=.ref aQ) rfl mQ rfl) (pv 2) (fun _ _=>rfl)))
    (Zg (Zo (Ia (i:=6) (pv 6) vB (Za (pv 4) (Za (pv 5) (Za (pv 3) Zb))))))) Zy)
   (Ze (ZN (ZA We (pv 2) Zr (bJ _)) (Zg (ZR (Xo (pv 0) DC.cls mu Fu (hr.mono .o) bu .nil vB)))
    (Ze (ZF (i:=7) mF.nd rfl (Or.inl rfl) (Ib (ZK (v:=.ref aD) rfl mD rfl) (pv 2) (fun _ _=>rfl)))
    (Zg (ZR (Y6 Zb0 Zdk Zdl Jm (xh (pv 0) rfl) (Za (Ia (i:=7) (pv 7) vB (Za (pv 4) (Za (pv 5) (Za (pv 3) Zb)))) Zb))))))
   (Zg (Zo Zr))))),?_⟩
  cases h with
  |no a x t ev ty kt bad=>subst ev;exact Zj (Zu ⟨_,rfl,oY.no x t rfl ty kt bad⟩)
  |bad a z ev hz hm bad=>subst ev;exact Zj (Zu ⟨_,rfl,oY.txt z rfl hz (fun h=>by rw[hm]at h;cases h) fun _=>bad⟩)
  |txt a L z ts v wd hg xs o ev hz d sv aT sy q=>
   subst ev;have hm:=ZbA sy;refine Zj (Zu ⟨_,rfl,oY.txt z rfl hz (fun _ t NL H1 s1 et eN=> ?_) fun h=>by rw[hm]at h;cases h⟩);obtain⟨dx,ha,hL⟩:=d;obtain⟨tt,b,l,rfl,fH,bd,hl,ly⟩:=sv;refine⟨t,_,rfl,aq.of et,rfl,_,_,rfl,_,_,rfl,rfl,?_⟩;dsimp only[List.set];generalize cn z=W at *
   generalize cf z=N at *
   refine Zj (Zu ⟨_,rfl,a,C,dx,_,_,rfl,s1 _ _ ha,DC.cls,DC.ns,rfl,1,rfl,L,_,_,_,rfl,rfl,ao.of (s1 _ _ hL),Ji ts _,tt,_,rfl,aq.of (s1 _ _ fH),rfl,_,_,rfl,_,_,rfl,rfl,?_⟩);dsimp only[List.set];have iU:=bd.same s1;have cg:=s1 _ _ hl;have push:∀{xE n8:Int}{xC:List V},Ends cx H L ts (.ref tt) Q E (.push xE n8 xC)->∀v2 H2,ak H1 H2->dU H2 v2 xE n8 xC->∃l xs y,(V.ref L=.ref l/\[v2]=[y]/\H2 l=some (.lst xs)/\xs.length<sizeLine/\Q (.str "ok") (upd H2 l (.lst (xs++[y])))):=fun q v2 H2 s2 yb=>by have qu:=s2 _ _ (s1 _ _ hL);refine⟨L,_,v2,rfl,rfl,qu,by rw[Zam];show ts.length+1<sizeLine;exact ZdB (Zc6 aT) .d,?_⟩;have sx:aV L H2 (upd H2 L (.lst (ts++[V.ref tt]++[v2]))):=aV.upd;exact q v2 _ ((s1.trans s2).x.trans sx) Zc (yb.keep (Cj sx qu))
   have NO:(ts++[V.ref tt]).length=ts.length+1:=by rw[Zam];rfl
   have ll:=ly.len;cases sy with
   |shown=>refine Zj ⟨_,rfl,aQ,_,.inr "shown",rfl,rfl,dQ,_,rfl,aB ?_⟩;refine Zj (Zu ⟨_,rfl,aQ,_,.inr "shown",.ref fS,rfl,rfl,dQ,rfl,Zl ?_⟩);dsimp only[List.set];exact⟨fS,uK,rfl,fe hS,_,rfl,_,rfl,_,rfl,.mk b l _ wd hg xs rfl iU cg ly fun H' s'=>q H' (s1.trans s')⟩
   |many h=>refine Zj ⟨_,rfl,aQ,_,.inr "many",rfl,rfl,dQ,_,rfl,aB ?_⟩;refine Zj (Zu ⟨_,rfl,aQ,_,.inr "many",.ref fM,rfl,rfl,dQ,rfl,Zl ?_⟩);dsimp only[List.set];exact⟨fM,kO (cx 11),rfl,fe hM,_,rfl,_,rfl,_,rfl,.mk _ _ _ wd hg xs rfl ⟨iU,ZI cg,ly⟩ h fun e H' s'=>q e H' (s1.trans s')⟩
   |first h=>refine Zj ⟨_,rfl,aQ,_,.inr "first",rfl,rfl,dQ,_,rfl,aB ?_⟩;refine Zj (Zu ⟨_,rfl,aQ,_,.inr "first",.ref f1,rfl,rfl,dQ,rfl,Zl ?_⟩);dsimp only[List.set];exact⟨f1,kO (cx 11),rfl,fe h1,_,rfl,_,rfl,_,rfl,.mk _ _ _ wd hg xs rfl ⟨iU,ZI cg,ly⟩ h fun e H' s'=>q e H' (s1.trans s')⟩
   |free i h=>refine Zj ⟨_,rfl,aQ,_,.inr "free",rfl,rfl,dQ,_,rfl,aB ?_⟩;refine Zj (Zu ⟨_,rfl,aQ,_,.inr "free",.ref fF,rfl,rfl,dQ,rfl,Zl ?_⟩);dsimp only[List.set];exact⟨fF,uU (cx 2),rfl,fe hF,_,rfl,_,rfl,_,rfl,.mk b l NL i xs rfl cg eN h fun e H' s'=>q e H' (s1.trans s')⟩
   |Ej aa aT r h=>refine Zj ⟨_,rfl,aQ,_,.inr "like",rfl,rfl,dQ,_,rfl,aB ?_⟩;refine Zj (Zu ⟨_,rfl,aQ,_,.inr "like",.ref fL,rfl,rfl,dQ,rfl,Zl ?_⟩);dsimp only[List.set];exact⟨fL,uJ,rfl,fe (hA aa).1,_,rfl,_,rfl,_,rfl,.mk b l _ wd hg xs rfl iU cg ly aT fun r' H' s' fi=>eI.unique (fun _=>Iff.rfl) h fi▸q H' (s1.trans s')⟩
   |FD aa i hi aT=>refine Zj ⟨_,rfl,aQ,_,.inr "free",rfl,rfl,dQ,_,rfl,aB ?_⟩;refine Zj (Zu ⟨_,rfl,aQ,_,.inr "free",.ref fF,rfl,rfl,dQ,rfl,Zl ?_⟩);dsimp only[List.set];exact⟨fF,uT,rfl,fe (hA aa).2.1,_,rfl,_,rfl,_,rfl,.mk b l NL i wd hg xs rfl iU cg ly eN hi aT fun H' s'=>q H' (s1.trans s')⟩
   |Ak aa w6 g7=>refine Zj ⟨_,rfl,aQ,_,.inr "many",rfl,rfl,dQ,_,rfl,aB ?_⟩;refine Zj (Zu ⟨_,rfl,aQ,_,.inr "many",.ref fM,rfl,rfl,dQ,rfl,Zl ?_⟩);dsimp only[List.set];exact⟨fM,_,rfl,fe (hA aa).2.2.1,_,rfl,_,rfl,_,rfl,.mk b l _ wd hg xs rfl iU cg ly w6 g7 fun H' s'=>q H' (s1.trans s')⟩
   |BB aa w6 g7=>refine Zj ⟨_,rfl,aQ,_,.inr "first",rfl,rfl,dQ,_,rfl,aB ?_⟩;refine Zj (Zu ⟨_,rfl,aQ,_,.inr "first",.ref f1,rfl,rfl,dQ,rfl,Zl ?_⟩);dsimp only[List.set];exact⟨f1,_,rfl,fe (hA aa).2.2.2,_,rfl,_,rfl,_,rfl,.mk b l _ wd hg xs rfl iU cg ly w6 g7 fun H' s'=>q H' (s1.trans s')⟩
   |BV h=>
    refine Zj ⟨_,rfl,aQ,_,.inr "back",rfl,rfl,dQ,_,rfl,az (Zw ?_)⟩;dsimp only;refine Zj ⟨_,rfl,rfl,_,rfl,aB ?_⟩;refine⟨_,rfl,a,dx,_,rfl,s1 _ _ ha,rfl,.mk a L (ts++[.ref tt]) rfl ⟨dx,s1 _ _ ha,s1 _ _ hL⟩ (by simp) (by rw[Zam];show ts.length+1<=1000;omega) (fun hn=> ?_) (fun hn e H' s'=> ?_)⟩
    ·exact absurd (NO.trans (by rw[h])) hn
    ·exact q e H' (s1.trans s')
   |back h=>
    refine Zj ⟨_,rfl,aQ,_,.inr "back",rfl,rfl,dQ,_,rfl,az (Zw ?_)⟩;dsimp only;refine Zj ⟨_,rfl,rfl,_,rfl,aB ?_⟩;refine⟨_,rfl,a,dx,_,rfl,s1 _ _ ha,rfl,.mk a L (ts++[.ref tt]) rfl ⟨dx,s1 _ _ ha,s1 _ _ hL⟩ (by simp) (by rw[Zam];show ts.length+1<=1000;omega) (fun hn=> ?_) (fun hn e H' s'=> ?_)⟩
    ·rw[List.dropLast_concat];exact q _ (s1.x.trans aV.upd) Zc
    ·exact absurd (show ts.length=0 by omega) h
   |wX i r a0 a1 b0 b1=>refine Zj ⟨_,rfl,aQ,_,.inr "board",rfl,rfl,dQ,_,rfl,az (Zw ?_)⟩;dsimp only;refine Zj ⟨_,rfl,rfl,_,rfl,az ?_⟩;refine Zj (Zu ⟨_,rfl,aD,_,.inr "board",.ref fB,rfl,rfl,dD,rfl,Zl ?_⟩);dsimp only[List.set];refine⟨_,rfl,a,C,dx,_,_,rfl,s1 _ _ ha,DC.cls,DC.ns,rfl,.inl ⟨rfl,_,ao.of (s1 _ _ hL)⟩,fB,uO,rfl,fe hB,_,rfl,_,rfl,_,rfl,?_⟩;exact .mk _ _ NL i r rfl eN a0 a1 b0 b1 (push q)
   |take i h0 h1=>refine Zj ⟨_,rfl,aQ,_,.inr "take",rfl,rfl,dQ,_,rfl,az (Zw ?_)⟩;dsimp only;refine Zj ⟨_,rfl,rfl,_,rfl,az ?_⟩;refine Zj (Zu ⟨_,rfl,aD,_,.inr "take",.ref fT,rfl,rfl,dD,rfl,Zl ?_⟩);dsimp only[List.set];refine⟨_,rfl,a,C,dx,_,_,rfl,s1 _ _ ha,DC.cls,DC.ns,rfl,.inl ⟨rfl,_,ao.of (s1 _ _ hL)⟩,fT,rb (cx 2),rfl,fe hT,_,rfl,_,rfl,_,rfl,?_⟩;exact .mk b l NL wd hg i xs rfl iU cg ly eN (fun _ _=>push q) fun hh=>absurd ⟨h0,h1⟩ hh
   |Kx i h=>refine Zj ⟨_,rfl,aQ,_,.inr "take",rfl,rfl,dQ,_,rfl,az (Zw ?_)⟩;dsimp only;refine Zj ⟨_,rfl,rfl,_,rfl,az ?_⟩;refine Zj (Zu ⟨_,rfl,aD,_,.inr "take",.ref fT,rfl,rfl,dD,rfl,Zl ?_⟩);dsimp only[List.set];refine⟨_,rfl,a,C,dx,_,_,rfl,s1 _ _ ha,DC.cls,DC.ns,rfl,.inl ⟨rfl,_,ao.of (s1 _ _ hL)⟩,fT,rb (cx 2),rfl,fe hT,_,rfl,_,rfl,_,rfl,?_⟩;exact .mk b l NL wd hg i xs rfl iU cg ly eN (fun u1 u2=>absurd ⟨u1,u2⟩ h) fun _ e H' s'=>q e H' (s1.trans s')
   |put i r h0 h1 r0 r1 h=>refine Zj ⟨_,rfl,aQ,_,.inr "put",rfl,rfl,dQ,_,rfl,az (Zw ?_)⟩;dsimp only;refine Zj ⟨_,rfl,rfl,_,rfl,az ?_⟩;refine Zj (Zu ⟨_,rfl,aD,_,.inr "put",.ref fP,rfl,rfl,dD,rfl,Zl ?_⟩);dsimp only[List.set];refine⟨_,rfl,a,C,dx,_,_,rfl,s1 _ _ ha,DC.cls,DC.ns,rfl,.inl ⟨rfl,_,ao.of (s1 _ _ hL)⟩,fP,oZ (cx 2) (cx 4),rfl,fe hP,_,rfl,_,rfl,_,rfl,?_⟩;exact .mk b l NL wd hg i r xs rfl iU cg ly eN (fun _ _ _ _ _=>push q) (fun hh=>absurd ⟨⟨h0,h1⟩,r0,r1⟩ hh) fun _ _ hh=>by rw[h]at hh;cases hh
   |Mu i r h=>refine Zj ⟨_,rfl,aQ,_,.inr "put",rfl,rfl,dQ,_,rfl,az (Zw ?_)⟩;dsimp only;refine Zj ⟨_,rfl,rfl,_,rfl,az ?_⟩;refine Zj (Zu ⟨_,rfl,aD,_,.inr "put",.ref fP,rfl,rfl,dD,rfl,Zl ?_⟩);dsimp only[List.set];refine⟨_,rfl,a,C,dx,_,_,rfl,s1 _ _ ha,DC.cls,DC.ns,rfl,.inl ⟨rfl,_,ao.of (s1 _ _ hL)⟩,fP,oZ (cx 2) (cx 4),rfl,fe hP,_,rfl,_,rfl,_,rfl,?_⟩;exact .mk b l NL wd hg i r xs rfl iU cg ly eN (fun u1 u2 u3 u4 _=>absurd ⟨⟨u1,u2⟩,u3,u4⟩ h) (fun _ e H' s'=>q e H' (s1.trans s')) fun u1 u2 _=>absurd ⟨u1,u2⟩ h
   |DL i r u1 u2 h=>refine Zj ⟨_,rfl,aQ,_,.inr "put",rfl,rfl,dQ,_,rfl,az (Zw ?_)⟩;dsimp only;refine Zj ⟨_,rfl,rfl,_,rfl,az ?_⟩;refine Zj (Zu ⟨_,rfl,aD,_,.inr "put",.ref fP,rfl,rfl,dD,rfl,Zl ?_⟩);dsimp only[List.set];refine⟨_,rfl,a,C,dx,_,_,rfl,s1 _ _ ha,DC.cls,DC.ns,rfl,.inl ⟨rfl,_,ao.of (s1 _ _ hL)⟩,fP,oZ (cx 2) (cx 4),rfl,fe hP,_,rfl,_,rfl,_,rfl,?_⟩;exact .mk b l NL wd hg i r xs rfl iU cg ly eN (fun _ _ _ _ hh=>by rw[h]at hh;cases hh) (fun hh=>absurd ⟨u1,u2⟩ hh) fun _ _ _ e H' s'=>q e H' (s1.trans s')
end
theorem lsN {bd:Expr}{N:List Str}{scope:Scope}(h:(decide (scope.kind=.function)&& !scope.isCoroutine&& !scope.isGenerator&&scope.names.all (fun z=>z.2 !=.cell)&&scope.names.all (fun u=>u.2 !=.free||N.contains u.1)&&N.all (fun x=>scope.names.lookup x==some .free))=true):CG lu bd scope N:=by simp only[ZaJ,Zep,Za5,Zco,Zbm,Zgp,ne_eq,ZfS,List.contains_iff_mem]at h;obtain⟨⟨⟨⟨⟨h1,h2⟩,h3⟩,h4⟩,h5⟩,h6⟩:=h;exact⟨h1,h2,h3,h4,fun u hu e=> (h5 u hu).resolve_left fun z=>z e,h6,fun _ _ _ _ _=>rfl⟩
theorem ME {σ:L2.St}{i j:Nat}{a b:V}(h1:σ[i]? =some (some a))(h2:σ[j]? =some (some b)):∀(k i':Nat) v,[i,j][k]? =some i'->[a,b][k]? =some v->σ[i']? =some (some v):=fun k i' v e1 e2=>by
 match k,e1,e2 with
 |0,e1,e2=>cases e1;cases e2;exact h1
 |1,e1,e2=>cases e1;cases e2;exact h2
 |k+2,e1,e2=>simp at e1
theorem NJ {X:Cx}{x y:Str}{i j:Nat}(h1:LN X x i)(h2:LN X y j):∀(k:Nat) u m,[x,y][k]? =some u->[i,j][k]? =some m->LN X u m:=fun k u m e1 e2=>by
 match k,e1,e2 with
 |0,e1,e2=>cases e1;cases e2;exact h1
 |1,e1,e2=>cases e1;cases e2;exact h2
 |k+2,e1,e2=>simp at e1
def qI (An:Prop)(n:Nat)(wd hg:Int)(xs:List V)(z:Str)(o:Out):Prop:=(gn (cn z) (cf z)=false/\o=.no 13)∨cI An n wd hg xs (cn z) (cf z) o
theorem Ij {An:Prop}{K:ZgE}{C:Addr}{cx:Nat->Addr}{a L:Addr}{z:Str}{ts:List V}{v:V}{wd hg:Int}{xs:List V}{o:Out}{H:Hp}{Q:VK}{E:XK}(hz:z.length<=1000)(d:fX C H a L (ts++[v]))(sv:dU H v wd hg xs)(aT:ts.length<=900)(s:qI An ts.length wd hg xs z o)(q:Ends cx H L ts v Q E o):jc An K C cx [.ref a,.str z] H Q E:=by
 rcases s with ⟨h,rfl⟩ |h
 ·exact .bad a z rfl hz h q
 ·exact .txt a L z ts v wd hg xs o rfl hz d sv aT h q
abbrev vq:List Nat:=[2,4,11,13,14]
theorem TK:∀i∈vq,i<15:=.d
theorem Tx {An:Prop}{n:Nat}{wd hg:Int}{xs:List V}{z:Str}{i:Nat}(s:qI An n wd hg xs z (.no i)):i∈vq:=by
 rcases s with ⟨_,h⟩ |h
 ·cases h;decide
 ·generalize cn z=W at h;generalize cf z=N at h;generalize ho:Out.no i=o at h;cases h<;>cases ho<;>decide
theorem Vy {An:Prop}{n:Nat}{wd hg:Int}{xs:List V}{z:Str}{i:Nat}(s:qI An n wd hg xs z (.no i)):qI False n wd hg xs z (.no i):=by
 rcases s with h |h
 ·exact .inl h
 ·refine .inr ?_;generalize cn z=W at h |-;generalize cf z=N at h |-;generalize ho:Out.no i=o at h |-;cases h<;>first |cases ho;done |(cases ho;constructor<;>assumption)
abbrev wZ (p1 p2 p3 p4:Pos):Expr:=.Call (.Attribute (.Name "_law_desk" p1) "say" p2) [.Name "_law_line" p3] [] p4
def Refs (K:ZgE)(D:Addr)(cx:Nat->Addr)(a:Addr)(y:V)(i:Nat)(H:Hp):Prop:=∃dx fs,H a=some (.ins D dx fs)/\fs.lookup ("say" :Str)=none/\∀Q' E',(∀e H',ak H H'->E' (.ref e) (some (cx i)) H')->jc False K D cx [.ref a,y] H Q' E'
section
variable {X:Cx}{kf:Nat}
theorem Rz {scope:Scope}{D f:Addr}{q:Str}{cl:List (Str×Addr)}{a:Addr}{y:V}{cx:Nat->Addr}{i:Nat}{p1 p2 p3 p4:Pos}(cj:11<=kf)(DC:qO X.K D)(hY:∀b',j9 X.prog X.w X.K X.mg b' D 11 "say" ["self", "line"] (jc False X.K D cx))
    (kx:scope.names.lookup ("_law_desk" :Str)=some .free) (ky:scope.names.lookup ("_law_line" :Str)=some .free)
    (ht:∀env:Env,∃pl,eval (wZ p1 p2 p3 p4) env=(do
      let ov <-eval (.Name "_law_desk" p1) env
      standAt p2.atName
      let (f,first) <-holding [ov] (getMethod ov "say" pl)
      callWith p4 f first (backTo p4 (starEach [.Name "_law_line" p3] env)) (backToKw p4 (keywordEach [] env)))):
    C2 X kf (cx i) f q (wZ p1 p2 p3 p4) scope cl ["_law_desk", "_law_line"] [.ref a,y] (Refs X.K D cx a y i):=by
  intro gY cc A outer s2 H2 Q2 E2 hr pre hE;obtain⟨g,fd,F,hm,hb⟩:=hY gY;obtain⟨dx,fs,h1,h2,h3⟩:=pre;obtain⟨pl,hp⟩:=ht (PySem.W.envX q scope s2.heap.objs.size f (.ref cc) cl);refine⟨_,VQ (pl:=pl) (ht:=hp) (X:=tQ X.prog X.w X.K X.mg gY ["_law_desk", "_law_line"] q scope f (.ref cc) cl A outer s2 H2 E2) (J3 (i:=0) rfl (.inr (.inr kx)) .d .d) DC.cls hm F (hr.mono cj) hb .nil (E:=E2) (MG (X:=tQ X.prog X.w X.K X.mg gY ["_law_desk", "_law_line"] q scope f (.ref cc) cl A outer s2 H2 E2) (fun e s' z=>z) rfl rfl rfl)
    (Za (J3 (i:=1) rfl (.inr (.inr ky)) .d .d) Zb),?_⟩
  exact⟨_,rfl,a,dx,fs,rfl,h1,h2,_,rfl,h3 Q2 E2 hE⟩
end
section
variable {P:Program}{w:World}{K:ZgE}{mg:Str->Option Value}{base:Heap}{D:Addr}{cx:Nat->Addr}
abbrev eR:Stmt:=top 75
abbrev iJ:Str:= "_law_said.<locals>.<lambda>"
def aak (Pg:Addr)(H:Hp)(L:Addr)(ts:List V)(v:V)(Q:VK):Out->Prop
 | .no i=> ∀l H',aV Pg H H'->TabAt H' Pg iJ->H l=none->H' l=some (.lst [.int (i:Int)])->Q (.ref l) H'
 | .tell z=> ∀H',ak H H'->Q (.str z) H'
 | .pop=> ∀H',aV L H H'->H' L=some (.lst ts)->Q (.str "ok") H'
 | .push wd hg xs=> ∀v' H',aV L H H'->H' L=some (.lst (ts++[v]++[v']))->dU H' v' wd hg xs->Q (.str "ok") H'
inductive kg (D Pg:Addr) (vs:List V) (H:Hp) (Q:VK) (E:XK):Prop
 |mk (a L:Addr) (z:Str) (ts:List V) (v:V) (wd hg:Int) (xs:List V) (out:Out) (ev:vs=[.ref a,.str z]) (hz:z.length<=1000) (d:fX D H a L (ts++[v])) (sv:dU H v wd hg xs) (aT:ts.length<=900) (s:qI True ts.length wd hg xs z out) (tab:TabAt H Pg iJ) (q:aak Pg H L ts v Q out)
abbrev fA:List Str:=["_law_desk", "_law_line"]
theorem LO:aH fA fA (ay eR):=Zz (by decide+kernel)
theorem Hi {p:Addr}{ps:Array Value}{H H':Hp}(s:aV p H H')(h:H p=some (.bM ps)):mf H H':=fun q xs e=>s _ _ e fun z=>by rw[z,h]at e;cases e
theorem fX.xt {p a L:Addr}{ps:Array Value}{ts:List V}{H H':Hp}(d:fX D H a L ts)(s:aV p H H')(h:H p=some (.bM ps)):fX D H' a L ts:=by obtain⟨dx,h1,h2⟩:=d;exact⟨dx,s _ _ h1 (fun z=>by rw[z,h]at h1;cases h1),s _ _ h2 fun z=>by rw[z,h]at h2;cases h2⟩
theorem fX.same {a L:Addr}{ts:List V}{H H':Hp}(d:fX D H a L ts)(s:ak H H'):fX D H' a L ts:=by obtain⟨dx,h1,h2⟩:=d;exact⟨dx,s _ _ h1,s _ _ h2⟩
theorem Sx {f c Pg fR cS:Addr}{oc:Value}{od an:Option Addr}{kV doc pm ct:Value}{dZ:Array (Option Value)}
    (lk:K.lookup f=some ⟨oc,od,.func (PySem.W.fnOf "_law_said" "_law_said" (dC eR) (cE eR) (ay eR) .none kV doc pm an (.ref c) ct),dZ⟩) (cV:PySem.W.codeIn K (.ref c) "_law_said" =true)
    (DC:qO K D) (hY:∀b',j9 P w K mg b' D 11 "say" ["self", "line"] (jc False K D cx)) (hZ:j9 P w K mg base D 117 "say" ["self", "line"] (jc True K D cx))
    (hR:∀b',Def P w K mg b' 13 "_law_refused" ["_law_call"] (uM P w K mg b' cS 12)) (mR:mg "_law_refused" =some (.ref fR)) (kR:PySem.W.keepIn K (.ref fR)=true)
    (MX:∀i∈vq,qK K mg cS (cx i) i) (hC:PySem.W.CodeHd base c Pg)
    (Bl:∃bm ob,mg "__builtins__" =some (.ref bm)/\bm≠builtinsNs/\base.get? bm=some ob/\ob.cls=.type "module" /\ob.dict=some builtinsNs/\ob.data=.plain):
    aw P w K mg base aF 118 f (PySem.W.fnOf "_law_said" "_law_said" (dC eR) (cE eR) (ay eR) .none kV doc pm an (.ref c) ct) fA (kg D Pg):=by
  refine BX lk cV LO (fun vs H Q E h=> ?_) (fun A outer s H vs Q E hr h=> ?_)
  · obtain⟨a,L,z,ts,v,wd,hg,xs,o,rfl,_⟩:=h;rfl
  · obtain⟨a,L,z,ts,v,wd,hg,xs,o,rfl,hz,d,sv,aT,sy,tab,q⟩:=h;obtain⟨g,Qw,Fg,Nw,bg⟩:=hZ;have lctx:∀e ob,ua ob->LCtx ((ck aF P w K mg base fA "_law_said" (ay eR) f (.ref c) A outer s H E).hU.jr e ob) cS c Pg fR 11:=fun e ob rD=> ⟨⟨rfl,hC,Bl⟩,S8 rD,hR,bf.mark (hr.mono .d) .d _,mR,kR⟩;have main:∃tt,dG (ck aF P w K mg base fA "_law_said" (ay eR) f (.ref c) A outer s H E).hU (cE eR) tt/\tt {nx:=fun _ H'=>Q .ag H',rt:=Q} (start fA [.ref a,.str z]) H:=by
      refine⟨_,Zg (Vs (X:=(ck aF P w K mg base fA "_law_said" (ay eR) f (.ref c) A outer s H E).hU) (ix:=0) (iy:=1) (sp:=jc True K D cx)
        rfl (hr.hd .d) rfl rfl rfl (.inr (.inl rfl)) rfl (.inr (.inl rfl)) DC.cls Nw Fg (hr.mono .d) bg (MX 13 .d).ms rfl
        (show ∀e ob,ua ob->dG ((ck aF P w K mg base fA "_law_said" (ay eR) f (.ref c) A outer s H E).hU.jr e ob) _ (xV (Df (ck aF P w K mg base fA "_law_said" (ay eR) f (.ref c) A outer s H E).hU cS Pg 11 (wZ _ _ _ _) _ ["_law_desk", "_law_line"] [0,1])) from fun e ob rD=>
          Zg (Zo (VU (X:=(ck aF P w K mg base fA "_law_said" (ay eR) f (.ref c) A outer s H E).hU.jr e ob) (idx:=[0,1]) (N:=["_law_desk", "_law_line"]) (bd:=wZ _ _ _ _) (lctx e ob rD) (lsN .d) rfl (NJ ⟨rfl,rfl,rfl⟩ ⟨rfl,rfl,rfl⟩) rfl rfl (SS (by kernel_rfl)))))),?_⟩
      · have dd:=d;obtain⟨dx,ha,hL⟩:=dd;refine⟨a,dx,_,_,rfl,rfl,ha,rfl,Ij hz d sv aT sy ?_⟩;cases o with
        |tell t=>exact q
        |pop=>exact q
        |push xE n8 xC=>exact q
        |no i=>
         intro e H1 s1;have hi:=Tx sy;refine⟨e,cx i,rfl,rfl,(MX i hi).xs,?_⟩;have uB:=YR tab s1;obtain⟨Kr,eT,_⟩:=id uB;refine⟨[.ref a,.str z],cx i,i,Refs K D cx a (.str z) i,rfl,ME rfl rfl,uB,TK i hi,MX i hi,fun f'=>Rz (Zaq _) DC hY rfl rfl fun env=> ⟨_,rfl⟩,fun H2 x2=> ?_,fun l H2 x2 xS nl hl=> ?_⟩
         · have d2:=(d.same s1).xt x2 eT;have qX:=(sv.same s1).keep (Hi x2 eT);obtain⟨QN,P7,_⟩:=id d2;exact⟨QN,_,P7,rfl,fun Q' E' hE=>Ij hz d2 qX aT (Vy sy) hE⟩
         · exact q l H2 (s1.x.trans x2) xS (s1.free nl) hl
    obtain⟨tt,h1,h2⟩:=main;exact⟨tt,h1.hU,h2⟩
end
abbrev aY:=Int×Int×List V
inductive RV
 |no (i:Nat)
 |txt (z:Str)
def rv:Out->RV
 | .no i=> .no i
 | .tell z=> .txt z
 | .pop=> .txt "ok"
 | .push _ _ _=> .txt "ok"
def pP (S:List aY):Out->List aY
 | .no _=>S
 | .tell _=>S
 | .pop=>S.tail
 | .push wd hg xs=> (wd,hg,xs)::S
abbrev qJ (s:aY)(S:List aY)(z:Str)(o:Out):Prop:=z.length<=1000/\S.length<=900/\qI True S.length s.1 s.2.1 s.2.2 z o
inductive Run:List aY->List Str->List RV->List aY->Prop
 |nil (S:List aY):Run S [] [] S
 |cons {s:aY}{S S':List aY}{z:Str}{zs:List Str}{o:Out}{rs:List RV} (h:qJ s S z o) (r:Run (pP (s::S) o) zs rs S'):Run (s::S) (z::zs) (rv o::rs) S'
theorem UN (w:Str)(ws:List Str)(h:∀x∈w::ws,32∉x.cps.toList):cn (Txt.join " " (w::ws))=w/\cf (Txt.join " " (w::ws))=ws.map hJ:=by
 have e:Txt.split (Txt.join " " (w::ws)) ⟨#[32]⟩=w::ws:=by rw[Tb,GO];exact Zbw .d _ _ h
 unfold cn cf;rw[e];exact⟨rfl,rfl⟩
abbrev rN (w:Str)(a:Int):Str:=w++ " " ++aO a
abbrev ln2 (w:Str)(a b:Int):Str:=w++ " " ++aO a++ " " ++aO b
theorem Ym (a b:Str):(a++b).length=a.length+b.length:=by show(a.cps++b.cps).size=_;rw[Array.size_append];rfl
theorem HV {w:Str}{a:Int}(hw:32∉w.cps.toList)(hl:w.length<=900)(a0:0<=a)(a1:a<100):cn (rN w a)=w/\cf (rN w a)=[.int a]/\(rN w a).length<=1000:=by
 obtain⟨n1,n2,n3⟩:=Jw a0 a1;have:=UN w [aO a] (fun x hx=>by
  rcases Zaf.mp hx with rfl |hx
  ·exact hw
  ·rw[Zar.mp hx];exact n2)
 rw[YA]at this;refine⟨this.1,this.2.trans (by rw[ZaQ,Zdm,n1]),?_⟩;rw[Ym,Ym];have:(" " :Str).length=1:=.d;omega
theorem HW {w:Str}{a b:Int}(hw:32∉w.cps.toList)(hl:w.length<=900)(a0:0<=a)(a1:a<100)(b0:0<=b)(b1:b<100):cn (ln2 w a b)=w/\cf (ln2 w a b)=[.int a,.int b]/\(ln2 w a b).length<=1000:=by
 obtain⟨n1,n2,n3⟩:=Jw a0 a1;obtain⟨m1,m2,m3⟩:=Jw b0 b1;have:=UN w [aO a,aO b] (fun x hx=>by
  rcases Zaf.mp hx with rfl |hx
  ·exact hw
  ·rcases Zaf.mp hx with rfl |hx
   ·exact n2
   ·rw[Zar.mp hx];exact m2)
 rw[YA]at this;refine⟨this.1,this.2.trans (by rw[ZaQ,ZaQ,Zdm,n1,m1]),?_⟩;rw[Ym,Ym,Ym,Ym];have:(" " :Str).length=1:=.d;omega
theorem Z7 {s:aY}{S:List aY}{z W:Str}{N:List V}{o:Out}(hl:S.length<=900)(r:cn z=W/\cf z=N/\z.length<=1000)(h:cI True S.length s.1 s.2.1 s.2.2 W N o):qJ s S z o:=by obtain⟨r1,r2,r3⟩:=r;subst r1 r2;exact⟨r3,hl,.inr h⟩
theorem Ws:cn "back" = "back" /\cf "back" =[]/\("back" :Str).length<=1000:=by decide+kernel
theorem WH:cn "shown" = "shown" /\cf "shown" =[]/\("shown" :Str).length<=1000:=by decide+kernel
theorem Cs:cn "many" = "many" /\cf "many" =[]/\("many" :Str).length<=1000:=by decide+kernel
theorem WI:cn "first" = "first" /\cf "first" =[]/\("first" :Str).length<=1000:=by decide+kernel
def rep (n:Nat):List RV:=List.replicate n (.txt "ok")
abbrev S1:List aY:=[(1,1,[.ag])]
def Fr (ex:List Addr)(H H':Hp):Prop:=∀b o,H b=some o->b∉ex->H' b=some o
section
variable {ex QD:List Addr}{H H' H1 H2:Hp}
theorem Fr.trans (a:Fr ex H H1)(b:Fr ex H1 H2):Fr ex H H2:=fun c o h n=>b c o (a c o h n) n
theorem Fr.refl:Fr ex H H:=fun _ _ h _=>h
theorem Fr.same (s:ak H H1):Fr ex H H1:=fun c o h _=>s c o h
theorem Fr.of {p:Addr}(s:aV p H H1)(m:p∈ex):Fr ex H H1:=fun c o h n=>s c o h fun z=>n (z▸m)
end
def iZ (L Pg:Addr)(H:Hp)(v:V):RV->Prop
 | .no i=> ∃l,v=.ref l/\l∉[L,Pg]/\H l=some (.lst [.int (i:Int)])
 | .txt z=>v=.str z
theorem iZ.fr {L Pg:Addr}{H H':Hp}{v:V}{r:RV}(h:iZ L Pg H v r)(f:Fr [L,Pg] H H'):iZ L Pg H' v r:=by
 cases r with
 |no i=>obtain⟨l,e,n,hl⟩:=h;exact⟨l,e,n,f _ _ hl n⟩
 |txt z=>exact h
abbrev j6 (H:Hp)(v:V)(s:aY):Prop:=dU H v s.1 s.2.1 s.2.2
structure Dk (D L Pg:Addr)(H:Hp)(a:Addr)(S:List aY):Prop where
 d:∃us,fX D H a L us.reverse/\Paired (j6 H) us S
 tab:TabAt H Pg iJ
section
variable {D L Pg a p:Addr}{H H':Hp}{S:List aY}
theorem Yu {us:List V}(h:Paired (j6 H) us S)(k:mf H H'):Paired (j6 H') us S:=Paired.bj h fun _ _ q=>q.keep k
theorem Dk.hL (k:Dk D L Pg H a S):∃vs,H L=some (.lst vs):=by obtain⟨us,⟨dx,_,h⟩,_⟩:=k.d;exact⟨_,h⟩
theorem Dk.hP (k:Dk D L Pg H a S):∃ps,H Pg=some (.bM ps):=by obtain⟨ps,h,_⟩:=k.tab;exact⟨_,h⟩
theorem Dk.same (k:Dk D L Pg H a S)(s:ak H H'):Dk D L Pg H' a S:=by obtain⟨us,d,p⟩:=k.d;exact⟨⟨us,d.same s,Yu p (ak.NU s)⟩,YR k.tab s⟩
theorem Dk.rH {xs:List V}{l:Addr}(k:Dk D L Pg H a S)(h:H l=none):l∉[L,Pg]:=by
 obtain⟨vs,e⟩:=k.hL;obtain⟨ps,e2⟩:=k.hP;intro m;rcases Zaf.mp m with rfl |m
 ·rw[h]at e;cases e
 ·rw[Zar.mp m,e2]at h;cases h
theorem Wo {z:Str}{s:aY}{o:Out}{Q:VK}{E:XK}(k:Dk D L Pg H a (s::S))(sy:qJ s S z o)(q:∀v H',Fr [L,Pg] H H'->Dk D L Pg H' a (pP (s::S) o)->iZ L Pg H' v (rv o)->Q v H'):kg D Pg [.ref a,.str z] H Q E:=by
 obtain⟨hz,aT,sy⟩:=sy;obtain⟨⟨us,d,pr⟩,tab⟩:=id k;cases pr with
 | @cons v _ us _ sv pr=>
  rw[ZcS]at d;have hlen:us.reverse.length=S.length:=by rw[Zce];exact Za6 pr
  rw[<-hlen]at aT sy;obtain⟨dx,ha,hL⟩:=id d;obtain⟨Kr,eT,_⟩:=id tab;refine .mk a L z us.reverse v s.1 s.2.1 s.2.2 o rfl hz d sv aT sy tab ?_;have kx:∀{H'},aV L H H'->fX D H a L (us.reverse++[v])->∀{ys},H' L=some (.lst ys)->fX D H' a L ys/\mf H H'/\TabAt H' Pg iJ:=fun {H'} sx _ {ys} h=> ⟨⟨dx,sx _ _ ha (fun z=>by rw[z,hL]at ha;cases ha),h⟩,Cj sx hL,Gw tab sx hL (fun _ z=>by cases z) fun _ z=>by cases z⟩;cases o with
  |no i=>intro l H' x Kz nl hl;refine q _ H' (.of x (by simp)) ⟨⟨v::us,by rw[ZcS];exact d.xt x eT,Yu (.cons sv pr) (Hi x eT)⟩,Kz⟩ ⟨l,rfl,k.rH (xs:=[]) nl,hl⟩
  |tell t=>exact fun H' s'=>q _ H' (.same s') (k.same s') rfl
  |pop=>intro H' sx h;obtain⟨d',kt,tb⟩:=kx sx d h;exact q _ H' (.of sx (by simp)) ⟨⟨us,d',Yu pr kt⟩,tb⟩ rfl
  |push wd hg xs=>intro v' H' sx h yb;obtain⟨d',kt,tb⟩:=kx sx d h;exact q _ H' (.of sx (by simp)) ⟨⟨v'::v::us,by rw[ZcS,ZcS];exact d',.cons yb (Yu (.cons sv pr) kt)⟩,tb⟩ rfl
def ma (D L Pg:Addr)(a:Addr)(H0:Hp)(zs:List Str)(rs:List RV)(S':List aY)(i:Nat)(ys:List V)(H:Hp):Prop:=∃rm vp S1,rs=rm++vp/\Run S1 (zs.drop i) vp S'/\Paired (iZ L Pg H) ys rm/\Dk D L Pg H a S1/\Fr [L,Pg] H0 H
theorem ma.start {zs:List Str}{rs:List RV}{S':List aY}(k:Dk D L Pg H a S)(r:Run S zs rs S'):ma D L Pg a H zs rs S' 0 [] H:=⟨[],rs,S,rfl,r,.nil,k,.refl⟩
theorem Wd {α β:Type}{R:α->β->Prop} :∀{xs:List α}{ys:List β}{x:α}{y:β},Paired R xs ys->R x y->Paired R (xs++[x]) (ys++[y])
 |_,_,_,_,.nil,h=> .cons h .nil
 |_,_,_,_,.cons r t,h=> .cons r (Wd t h)
theorem ma.step {H0:Hp}{zs:List Str}{rs:List RV}{S':List aY}{i:Nat}{ys:List V}{z:Str}(h:ma D L Pg a H0 zs rs S' i ys H)(e:zs[i]? =some z):∃s S1 o,Dk D L Pg H a (s::S1)/\qJ s S1 z o/\∀v H',Fr [L,Pg] H H'->Dk D L Pg H' a (pP (s::S1) o)->iZ L Pg H' v (rv o)->ma D L Pg a H0 zs rs S' (i+1) (ys++[v]) H':=by
 obtain⟨rm,vp,S1,er,r,pr,k,f⟩:=h;have hi:i<zs.length:=(Zaa.mp e).1;have ez:zs.drop i=z::zs.drop (i+1):=by rw[Zb8 hi];rw[Zax hi]at e;injection e with e;rw[e]
 rw[ez]at r;generalize hw:z::zs.drop (i+1)=ws at r;cases r with
 |nil=>cases hw
 | @cons s S2 _ z' zs' o kW sy r'=>injection hw with w1 w2;subst w1 w2;exact⟨s,S2,o,k,sy,fun v H' f' k' an=> ⟨rm++[rv o],kW,_,by rw[er,Zb7];rfl,r',Wd (Paired.bj pr fun _ _ q=>q.fr f') an,k',f.trans f'⟩⟩
theorem ma.done {H0:Hp}{zs:List Str}{rs:List RV}{S':List aY}{ys:List V}(h:ma D L Pg a H0 zs rs S' zs.length ys H):Paired (iZ L Pg H) ys rs/\Dk D L Pg H a S'/\Fr [L,Pg] H0 H:=by
 obtain⟨rm,vp,S1,er,r,pr,k,f⟩:=h;rw[List.drop_length]at r;cases r with
 |nil=>rw[Zbx]at er;subst er;exact⟨pr,k,f⟩
end
theorem To:∀j∈List.range 100,1<=(aO (j:Int)).length:=by decide+kernel
theorem Tn {n:Int}(h0:0<=n)(h:n<100):1<=(aO n).length:=by obtain⟨j,rfl⟩:∃j:Nat,n=j:=⟨n.toNat,.o⟩;exact To j (ZbC.mpr .o)
theorem HF:∀(ws:List Str) (h:Str),(∀w∈ws,w.length<=2)->h.length<=(ws.foldl (fun t w=>t++(" " :Str)++w) h).length/\(ws.foldl (fun t w=>t++(" " :Str)++w) h).length<=h.length+3*ws.length
 | [],h,_=> ⟨Zaq _,Zaq _⟩
 |w::ws,h,hw=>by obtain⟨a,b⟩:=HF ws (h++ " " ++w) fun x hx=>hw x (Zad _ hx);have l2:=hw w Zai;rw[Ym,Ym]at a b;have e:(" " :Str).length=1:=.d;rw[ZdJ,ZaE];omega
theorem X2 {K:ZgE}{H:Hp}{ns:List Int}(h:jH ns):tX K (.str (Txt.join " " (ns.map aO))) H (!ns.isEmpty):=by
 cases ns with
 |nil=>exact⟨.d,.d⟩
 |cons n ns=>
  obtain⟨n0,n1⟩:=h.2 n Zai;have l1:=Tn n0 n1;have l2:=(Jw n0 n1).2.2;have hl:=h.1;rw[ZaE]at hl;obtain⟨a,b⟩:=HF (ns.map aO) (aO n) fun w hw=>by obtain⟨m,hm,rfl⟩:=Za0.mp hw;obtain⟨m0,m1⟩:=h.2 m (Zad _ hm);exact(Jw m0 m1).2.2
  rw[Zae]at b;rw[ZaQ,YA];refine⟨by rw[Zaz];omega,?_⟩;show true=_;symm;rw[Zgp];omega
section
variable {P:Program}{w:World}{K:ZgE}{mg:Str->Option Value}{base:Heap}
abbrev vh:Stmt:=top 76
abbrev nz:List Str:=["_law_things"]
theorem Dx:aH nz nz (ay vh):=Zz (by decide+kernel)
theorem HQ {ns:List Int}{D:L2.Ends}{σ:L2.St}{H:Hp}{L:Addr}{ys:List V}(ok:jH ns)(ey:ys=(ns.map aO).map V.str)(h:D.rt (.str (gJ ns)) (upd H L (.lst ys))):
  ∃(sep:Str) (p:Addr) (ws:List Str),(V.str " " =.str sep)/\[V.ref L]=[.ref p]/\ao K (upd H L (.lst ys)) p (ws.map V.str)/\JoinOk sep ws=true/\∃k,tX K (.str (Txt.join sep ws)) (upd H L (.lst ys)) k/\if k=true then D.rt (.str (Txt.join sep ws)) (upd H L (.lst ys)) else tC (.str "none") σ (upd H L (.lst ys)) D.rt:=by
 subst ey;refine⟨" ",L,ns.map aO,rfl,rfl,ao.of Zc,Jr ok,_,X2 ok,?_⟩;unfold gJ at h;cases hn:ns.isEmpty with
 |true=>rw[hn,ZaG rfl]at h;exact az h
 |false=>rw[hn,ZaD Zaj]at h;exact aB h
theorem Sg {f:Addr}{fd:FuncData}(F:aE K "_law_words" "_law_words" vh f fd)(G:Gs mg):aw P w K mg base aF 1 f fd nz oV:=by
 refine F.ok Dx (fun vs H Q E h=> ?_) (fun cdv A outer s H vs Q E hr h=> ?_)
 ·obtain⟨l,ns,rfl,_⟩:=h;rfl
 ·obtain⟨l,ns,rfl,hl,ok,q⟩:=h;refine⟨_,Zg (Zo (GZ (Y6 ZcC Zc9 Zda JI Zr (Za (ZZ ["_law_thing"] 1 [] (ZW (pv 0)) (fun C s H fp=>pb 0) (fun C s H fp=>Z1) (fun C s H fp D=>cz rfl (ZD Zv rfl G.str PyProof.Rows.Boot.«str» (Za (pv 0) Zb)))) Zb)) (YN Zr))),?_⟩;refine⟨rfl,_,rfl,l,rfl,⟨_,ao.of hl⟩,?_⟩;have hlen:=ok.1;refine ZQ (xs:=ns.map V.int) (fun j ys ah H'=>H'=H/\ys=((ns.take j).map aO).map V.str/\∃v,ah=[v]) ⟨rfl,rfl,none,rfl⟩ (fun j ys ah H' _ ⟨e,_⟩=>by rw[e];exact ao.of hl) ?_ ?_
  ·rintro j y ys ah H' hy ⟨rfl,rfl,v,rfl⟩;rw[Zbi]at hy;obtain⟨n,hz,rfl⟩:=Za2.mp hy;have hj:=(Zaa.mp hz).1;obtain⟨n0,n1⟩:=ok.2 n (ZaC hz);refine⟨_,rfl,n,rfl,ZO n0 .o,?_,rfl,?_,_,rfl⟩
   ·rw[Zae,Zae,ZaW,Zaz];omega
   ·rw[ZaT,hz,ZaF,ZaF];rfl
  ·rintro ys ah H' ⟨rfl,rfl,v,rfl⟩ L hL;rw[Zae,ZaH];exact HQ ok rfl (q _ (Zk hL))
inductive rg (vs:List V) (H:Hp) (Q:VK) (E:XK):Prop
 |mk (l:Addr) (ns:List Int) (ev:vs=[.ref l]) (hl:H l=some (.tup (ns.map V.int))) (ok:jH ns) (q:∀H',ak H H'->Q (.str (gJ ns)) H')
theorem Sh {f:Addr}{fd:FuncData}(F:aE K "_law_words" "_law_words" vh f fd)(G:Gs mg):aw P w K mg base aF 1 f fd nz rg:=by
 refine F.ok Dx (fun vs H Q E h=> ?_) (fun cdv A outer s H vs Q E hr h=> ?_)
 ·obtain⟨l,ns,rfl,_⟩:=h;rfl
 ·obtain⟨l,ns,rfl,hl,ok,q⟩:=h;refine⟨_,Zg (Zo (GZ (Y6 ZcC Zc9 Zda JI Zr (Za (ZZ ["_law_thing"] 1 [] (J0 (pv 0)) (fun C s H fp=>pb 0) (fun C s H fp=>Z1) (fun C s H fp D=>cz rfl (ZD Zv rfl G.str PyProof.Rows.Boot.«str» (Za (pv 0) Zb)))) Zb)) (YN Zr))),?_⟩;refine⟨rfl,_,rfl,l,rfl,⟨_,aq.of hl⟩,?_⟩;have hlen:=ok.1;refine Y9 (xs:=ns.map V.int) (fun j ys ah H'=>H'=H/\ys=((ns.take j).map aO).map V.str/\∃v,ah=[v]) ⟨rfl,rfl,none,rfl⟩ (fun j ys ah H' _ ⟨e,_⟩=>by rw[e];exact aq.of hl) ?_ ?_
  ·rintro j y ys ah H' hy ⟨rfl,rfl,v,rfl⟩;rw[Zbi]at hy;obtain⟨n,hz,rfl⟩:=Za2.mp hy;have hj:=(Zaa.mp hz).1;obtain⟨n0,n1⟩:=ok.2 n (ZaC hz);refine⟨_,rfl,n,rfl,ZO n0 .o,?_,rfl,?_,_,rfl⟩
   ·rw[Zae,Zae,ZaW,Zaz];omega
   ·rw[ZaT,hz,ZaF,ZaF];rfl
  ·rintro ys ah H' ⟨rfl,rfl,v,rfl⟩ L hL;rw[Zae,ZaH];exact HQ ok rfl (q _ (Zk hL))
end
end U
namespace U
open PySem L2 PyProof.Rows PyProof.Rows.eO U.S
def gk (q:aC):I4:=(q.2.2.1,q.2.2.2,q.1,q.2.1)
def dX (a b:I4):Bool:=decide ([b.2.2.1,b.2.2.2]=[a.2.2.1,a.2.2.2])
def qd (a b:I4):aC:=(a.1,a.2.1,b.1,b.2.1)
def nH:List I4->List aC
 | []=> []
 |a::r=> (r.filter (dX a)).map (qd a)++nH r
def fE (a b:I4):Prop:=a.1<b.1∨(a.1=b.1/\a.2.1<b.2.1)
theorem TN {a b:I4} :dX a b=true↔a.2.2.1=b.2.2.1/\a.2.2.2=b.2.2.2:=by unfold dX;simp only[Za5,ZfT,and_true];omega
theorem SK {a b c d:I4}(h:fE a c∨(a=c/\(b=d∨fE b d))):aA (aS (qd c d)) (aS (qd a b))=false:=by rw[nf];unfold aS qd;unfold fE at h;simp only[Yq,YF,Zfj,ZdD];rcases h with h |⟨rfl,rfl |h⟩<;>omega
def FR (ks:List I4):Option aC->Prop
 |none=> ∀a∈ks,∀b∈ks,dX a b=true->¬fE a b
 |some k=> (∃a∈ks,∃b∈ks,dX a b=true/\fE a b/\k=qd a b)/\∀a∈ks,∀b∈ks,dX a b=true->fE a b->aA (aS (qd a b)) (aS k)=false
theorem Hl {a:I4}(h:fE a a):False:=by unfold fE at h;omega
theorem Th {a b:I4}(h:fE a b)(h':fE b a):False:=by unfold fE at h h';omega
theorem HU:∀{ks:List I4},ks.Pairwise fE->FR ks (nH ks).head?
 | [],_=>fun a ha=>by cases ha
 |a::r,h=>by
  obtain⟨h1,h2⟩:=Zcn.mp h;have ih:=HU h2;have pf:=h2.filter (dX a);unfold nH;cases hf:r.filter (dX a) with
  |nil=>
   rw[Zdm,ZeQ];have no:∀y∈r,dX a y=true->False:=fun y hy s=>by have:y∈r.filter (dX a):=ZaK.mpr ⟨hy,s⟩;rw[hf]at this;cases this
   have cut:∀x∈a::r,∀y∈a::r,dX x y=true->fE x y->x∈r/\y∈r:=fun x hx y hy s l=>by
    rcases Zaf.mp hx with ex |iK
    ·rcases Zaf.mp hy with ey |ig
     ·rw[ex,ey]at l;exact(Hl l).elim
     ·rw[ex]at s;exact(no y ig s).elim
    ·rcases Zaf.mp hy with ey |ig
     ·rw[ey]at l;exact(Th l (h1 x iK)).elim
     ·exact⟨iK,ig⟩
   cases hh:(nH r).head? with
   |none=>rw[hh]at ih;intro x hx y hy s l;obtain⟨iK,ig⟩:=cut x hx y hy s l;exact ih x iK y ig s l
   |some k=>rw[hh]at ih;obtain⟨⟨p,hp,q,hq,s,l,e⟩,m⟩:=ih;refine⟨⟨p,Zad _ hp,q,Zad _ hq,s,l,e⟩,fun x hx y hy s l=> ?_⟩;obtain⟨iK,ig⟩:=cut x hx y hy s l;exact m x iK y ig s l
  |cons b t=>
   rw[hf]at pf;have hb:b∈r.filter (dX a):=by rw[hf];exact Zai
   obtain⟨wx,jU⟩:=ZaK.mp hb;refine⟨⟨a,Zai,b,Zad _ wx,jU,h1 b wx,rfl⟩,fun x hx y hy s l=>SK ?_⟩;rcases Zaf.mp hx with ex |iK
   ·rw[ex]at s l;rcases Zaf.mp hy with ey |ig
    ·rw[ey]at l;exact(Hl l).elim
    ·have:y∈r.filter (dX a):=ZaK.mpr ⟨ig,s⟩;rw[hf]at this;rcases Zaf.mp this with e |ht
     ·exact .inr ⟨ex.symm,.inl e.symm⟩
     ·exact .inr ⟨ex.symm,.inr ((Zcn.mp pf).1 y ht)⟩
   ·exact .inl (h1 x iK)
theorem Zc3 {xs:List V}{p q:aC}(hp:p∈bz xs xs.length)(hq:q∈bz xs xs.length)(e1:p.2.2.1=q.2.2.1)(e2:p.2.2.2=q.2.2.2):p=q:=by
 obtain⟨l,o,_,_,ep⟩:=JK.mp hp;obtain⟨l',o',_,_,eq⟩:=JK.mp hq;obtain⟨a,b,h1,h2,rfl⟩:=Yg.mp ep;obtain⟨a',b',h3,h4,rfl⟩:=Yg.mp eq;have l1:l=l':=by have:(l:Int)=l':=e1;omega
 have l2:o=o':=by have:(o:Int)=o':=e2;omega
 subst l1 l2;rw[h1]at h3;rw[h2]at h4;cases h3;cases h4;rfl
theorem Vx {p q:aC}(h:gk p=gk q):p=q:=by obtain⟨a,b,c,d⟩:=p;obtain⟨a',b',c',d'⟩:=q;simp only[gk,ZeK]at h;obtain⟨h1,h2,h3,h4⟩:=h;subst h1 h2 h3 h4;rfl
theorem ZaX {xs:List V}{ks:List I4}(pm:ks.Perm ((bz xs xs.length).map gk))(rise:(ks.map aS).Pairwise fun a b=>aA b a=false):eI (bz xs xs.length) (nH ks).head? :=by
 have mem:∀k,k∈ks↔∃p∈bz xs xs.length,gk p=k:=fun k=>by rw[pm.mem_iff,Za0]
 have nd:ks.Nodup:=pm.nodup_iff.mpr ((Yr (J6 xs _)).mpr fun a _ b _ e=>Vx e);have pw:ks.Pairwise fE:=by rw[ZcD]at rise;refine(List.Pairwise.and rise (Zbb.mp nd)).imp_of_mem ?_;intro a b ha hb ⟨h,ne⟩;obtain⟨p,hp,rfl⟩:=(mem a).mp ha;obtain⟨q,hq,rfl⟩:=(mem b).mp hb;rw[nf]at h;have d:¬(p.2.2.1=q.2.2.1/\p.2.2.2=q.2.2.2):=fun⟨e1,e2⟩=>ne (Zcr gk (Zc3 hp hq e1 e2));unfold aS gk at h;simp only[Yq,YF,Zfj,ZdD]at h;show p.2.2.1<q.2.2.1∨(p.2.2.1=q.2.2.1/\p.2.2.2<q.2.2.2);omega
 have fr:=HU pw;have mm:∀{p},p∈bz xs xs.length->gk p∈ks:=fun hp=> (mem _).mpr ⟨_,hp,rfl⟩;have sm:∀{p q:aC},dm p q↔dX (gk p) (gk q)=true:=fun {p q} =>by rw[TN];rfl
 have lt:∀{p q:aC},gR p q=true↔fE (gk p) (gk q):=fun {p q} =>by unfold gR fE gk;simp only[Yq,YF,Zfj,ZdD]
 cases hh:(nH ks).head? with
 |none=>rw[hh]at fr;intro a ha b hb s;rw[nf,lt];exact fr _ (mm ha) _ (mm hb) (sm.mp s)
 |some k=>rw[hh]at fr;obtain⟨⟨a,ha,b,hb,s,l,e⟩,m⟩:=fr;obtain⟨p,hp,rfl⟩:=(mem a).mp ha;obtain⟨q,hq,rfl⟩:=(mem b).mp hb;exact⟨⟨p,hp,q,hq,sm.mpr s,lt.mpr l,e⟩,fun x hx y hy s' l'=>m _ (mm hx) _ (mm hy) (sm.mp s') (lt.mp l')⟩
def pY (ks:List I4)(i:Nat):List aC:=match ks[i]? with
 |some a=> ((ks.drop (i+1)).filter (dX a)).map (qd a)
 |none=> []
def pX (ks:List I4)(i:Nat):List aC:=(List.range i).flatMap (pY ks)
theorem ZaY {ks:List I4}{i:Nat}{a:I4}(h:ks[i]? =some a):pX ks (i+1)=pX ks i++((ks.drop (i+1)).filter (dX a)).map (qd a):=by unfold pX;rw[Zcq,ZcU,List.flatMap_singleton];unfold pY;rw[h]
theorem WU:∀ks:List I4,pX ks ks.length=nH ks
 | []=>rfl
 |a::r=>by
  have ih:=WU r;unfold pX at ih |-;rw[ZaE,List.range_succ_eq_map,Zb9,List.flatMap_map];show _++List.flatMap (fun i=>pY (a::r) (i+1)) _=_;have e:(fun i=>pY (a::r) (i+1))=pY r:=by funext i;unfold pY;rw[List.getElem?_cons_succ,List.drop_succ_cons]
  rw[e,ih];rfl
section
variable {P:Program}{w:World}{K:ZgE}{mg:Str->Option Value}{base:Heap}
theorem Wx {H H':Hp}{v:V}{q:I4}(h:kF H v q)(s:ak H H'):kF H' v q:=by obtain⟨t,t',e,h1,h2⟩:=h;exact⟨t,t',e,s _ _ h1,s _ _ h2⟩
theorem GU {H:Hp}{L:Addr}{zs:List V}{o:HO}(e:H L=some (.lst zs)){v:V}{k:aC}(h:fo H v k):fo (upd H L o) v k:=by obtain⟨t,rfl,h1⟩:=h;refine⟨t,rfl,?_⟩;rw[Zi (fun z=>by rw[z,e]at h1;cases h1)];exact h1
abbrev zo:Stmt:=top 70
abbrev Nk:List Str:=["_law_lay", "_law_some", "_law_found", "_law_at", "_law_line", "_law_other", "_law_step"]
theorem mG:aH Nk ["_law_lay"] (ay zo):=Zz (by decide+kernel)
inductive yp (K:ZgE) (vs:List V) (H:Hp) (Q:VK) (E:XK):Prop
 |mk (a:Addr) (xs:List V) (ev:vs=[.ref a]) (ha:H a=some (.tup xs)) (ok:j7 xs) (hl:xs.length<=12) (aT:(bz xs xs.length).length<=63)
  (q:∀(l:Addr) (H':Hp) (rs:List V) (ks:List aC),ak H H'->H l=none->H' l=some (.lst rs)->Paired (fo H') rs ks->eI (bz xs xs.length) ks.head?->ks.length<=4000->Q (.ref l) H')
theorem Sn {f:Addr}{fd:FuncData}(F:aE K "_law_like" "_law_like" zo f fd)(G:Gs mg)(Dls:Def P w K mg base 1 "_law_steps" ["_law_lay"] (uQ K)):aw P w K mg base aF 102 f fd ["_law_lay"] (yp K):=by
 refine F.ok mG (fun vs H Q E h=> ?_) (fun cdv A outer s H vs Q E hr h=> ?_)
 ·obtain⟨a,xs,rfl,_⟩:=h;rfl
 ·obtain⟨a,xs,rfl,ha,ok,hl,aT,q⟩:=h;have hu:=hr.units;refine⟨_,Ze (ZF (i:=1) mG.nd rfl (Or.inl rfl) (Zn (JT (TQ (ZdB (ZdX (by decide:2<=64) _) hu))) rfl G.sorted PyProof.Rows.Boot.«sorted» (Za (ZZ ["_law_step", "_law_line", "_law_other"] 3 [] (ZW (Zh Dls (hr.mono .d) (Za (pv 0) Zb)))
    (fun C s H fp=>show PG (aK _ _ _ C s H fp) _ (jV K 3 (cH (bQ 0) (cH (bQ 1) (cH (bQ 2) jW)))) from Z3 rfl (Zm (pb 0) (Zm (pb 1) (Zm (pb 2) ZS)))) (fun C s H fp=>Z1)
    (fun C s H fp D=>cz rfl (Zt (Za (pv 1) (Za (pv 2) (Za (pv 0) Zb)))))) Zb)))
   (Ze (ZF (i:=2) mG.nd rfl (Or.inl rfl) (ZH Zb))
   (Ze (Yx Zb6 rfl (Xp (hr.hd .d) rfl G.enumerate (Za (pv 1) Zb))
     (Z3 rfl (Zm (Zx (i:=3) mG.nd rfl (Or.inl rfl)) (Zm (Z3 rfl (Zm (Zx (i:=4) mG.nd rfl (Or.inr rfl)) (Zm (Zx (i:=5) mG.nd rfl (Or.inr rfl)) (Zm (Zx (i:=6) mG.nd rfl (Or.inr rfl)) ZS)))) ZS)))
     (Zg (ZR (Y6 Zb0 Zfl Zfm UM (pv 2) (Za
      (ZZ ["_law_one", "_law_line", "_law_other", "_law_step"] 1 [4,5,6] (ZW (ZX Wr (pv 1) (Z2 (Zp Yl (pv 3) Zf)) Z8)) (fun C s H fp=>pb 0)
       (fun C s H fp=>Yk (ZA (show aZ (aK _ _ _ C s H fp) (compareOp .Eq) (fun x y H Q=> ∃(a b:Addr) (ns ms:List Int),x=.ref a/\y=.ref b/\aq K H a (ns.map V.int)/\aq K H b (ms.map V.int)/\Q (.bl (decide (ns=ms))) H) from Ho hr.xH) (Zq (show oN (aK _ _ _ C s H fp) (pM K) from ZE) (pv 0) Zf (fun _ _=>rfl)) (pv 3) (bJ _)))
       (fun C s H fp D=>cz rfl (Zt (Za (pv 1) (Za (pv 2) (Za (Zq (show oN (aK _ _ _ C s H fp) (pM K) from ZE) (pv 0) Zf (fun _ _=>rfl)) (Za (Zq (show oN (aK _ _ _ C s H fp) (pM K) from ZE) (pv 0) Zf (fun _ _=>rfl)) Zb))))))) Zb)))))
   (Zg (Zo (pv 2))))),?_⟩
  refine Zj (Zu ⟨_,rfl,a,xs,rfl,aq.of ha,ha,ok,hl,fun fa H1 rs s1 nh hf pr=> ?_⟩);generalize hS:bz xs xs.length=S at pr aT q;have NH:rs.length=S.length:=Za6 pr;refine⟨fa,rfl,⟨rs,ao.of hf⟩,?_⟩;refine ZQ (xs:=rs) (fun i ys σ H2=> ∃v0 v1 v2,σ=[v0,v1,v2]/\ak H1 H2/\Paired (kF H2) ys ((S.take i).map gk)/\ys.length<=i) ⟨_,_,_,rfl,ak.refl _,.nil,ZaP _⟩ (fun i ys σ H2 _ ⟨_,_,_,_,s2,_⟩=>ao.of (s2 _ _ hf)) ?_ ?_
  ·rintro i v ys σ H2 hv ⟨v0,v1,v2,rfl,s2,cb,eB⟩;obtain⟨p,hp,t,t',rfl,ht,eA⟩:=JF pr hv;have hi:i<rs.length:=(Zaa.mp hv).1;refine⟨t,_,rfl,aq.of (s2 _ _ ht),rfl,_,_,rfl,_,_,rfl,_,_,rfl,rfl,?_⟩;refine⟨_,rfl,_,rfl,_,rfl,ke,fun t2 qf=> ⟨by rw[Zaz];omega,?_⟩⟩;obtain⟨H3,zz,s3,e3⟩:=da (o:=.tup [V.int p.2.2.1,V.int p.2.2.2,V.ref t']) qf;rw[zz];refine⟨_,_,_,rfl,s2.trans s3,?_,by rw[Zam];simp;omega⟩;rw[ZaT,hp,ZaF];exact Zdc (Paired.bj cb fun v q' hq=>Wx hq s3) ⟨t2,t',rfl,e3,(s2.trans s3) _ _ eA⟩
  ·rintro ys σ H2 ⟨v0,v1,v2,rfl,s2,cb,eB⟩ p hp;obtain⟨H3,zz,s3,e3⟩:=da (o:=.lst ys) hp;rw[zz];rw[NH,ZaH]at cb;refine⟨p,ys,S.map gk,rfl,ao.of e3,Paired.bj cb fun v q' hq=>Wx hq s3,.o,fun r bR eZ sg vZ AM kr=>Zl ?_⟩;dsimp only[List.set];obtain⟨H4,zz,s4,e4⟩:=da (o:=.lst bR) sg;rw[zz];have pN:Paired (kF H4) bR eZ:=Paired.bj kr fun v q' hq=>Wx hq s4;have lk:eZ.length=S.length:=by rw[vZ.length_eq,Zae]
   have lv:bR.length=eZ.length:=Za6 pN;have pJ:=s1.trans (s2.trans (s3.trans s4));clear pr cb kr s2 s3 s4 e3 hf hp sg;refine Zj (Zu ⟨ZaP _,fun M hM=>Zl ?_⟩);dsimp only[List.set];obtain⟨H5,zz,s5,e5⟩:=da (o:=.lst []) hM;rw[zz];have nM:=pJ.free hM;have e45:=s5 _ _ e4;have kZ:Paired (kF H5) bR eZ:=Paired.bj pN fun v q' hq=>Wx hq s5;refine Zj ⟨_,rfl,r,rfl,⟨_,ao.of e45⟩,?_⟩;refine Xd (xs:=bR) (fun i σ H6=> ∃zs x3 x4 x5 x6,σ=[some (.ref a),some (.ref r),some (.ref M),x3,x4,x5,x6]/\aV M H5 H6/\H6 M=some (.lst zs)/\Paired (fo H6) zs (pX eZ i)/\zs.length<=i*63) ⟨_,_,_,_,_,rfl,fun _ _ h _=>h,e5,.nil,ZaP _⟩
    (fun i σ H6 _ ⟨_,_,_,_,_,_,s6,_⟩=>ao.of (s6 _ _ e45 fun z=>by rw[z]at e4;rw[e4]at hM;cases hM)) ?_ ?_
   ·rintro i v T σ H6 hv hT ⟨zs,x3,x4,x5,x6,rfl,s6,e6,dY,nX⟩;obtain⟨k,hk,t,t',rfl,ht,eA⟩:=JF kZ hv;have hi:i<bR.length:=(Zaa.mp hv).1;have nt:∀{q:Addr}{ws:List V},H5 q=some (.tup ws)->q≠M:=fun h z=>by rw[z,e5]at h;cases h
    have nr:r≠M:=fun z=>by rw[z]at e4;rw[e4]at hM;cases hM
    have sT:ak H6 (upd H6 T (.par [.int (i:Int),.ref t])):=fun e o hc=>by rw[Zi (Zd hc hT)];exact hc
    have eT:upd H6 T (.par [.int (i:Int),.ref t]) T=some (.par [.int (i:Int),.ref t]):=Zc;generalize upd H6 T (HO.par [.int (i:Int),.ref t])=H7 at sT eT;have ij:=sT _ _ (s6 _ _ ht (nt ht));have e7:=sT _ _ e6;refine⟨T,_,rfl,aq.Ab eT,rfl,_,_,rfl,Zl ?_⟩;dsimp only[List.set];refine⟨_,_,rfl,t,_,rfl,aq.of ij,rfl,_,_,rfl,Zl ?_⟩;dsimp only[List.set];refine⟨_,_,rfl,Zl ?_⟩;dsimp only[List.set];refine⟨_,_,rfl,Zl ?_⟩;dsimp only[List.set];refine⟨rfl,rfl,?_⟩;have QF:=sT _ _ (s6 _ _ e45 nr);refine⟨_,rfl,.inl ⟨rfl,_,ao.of e7⟩,_,rfl,_,rfl,_,_,rfl,rfl,_,rfl,r,bR,rfl,ao.of QF,fun c hc=> ?_⟩;have ec:dh bR (some ((i:Int)+1)) none=bR.drop (i+1):=JR hi;rw[ec];obtain⟨H8,zz,s8,e8⟩:=da (o:=.lst (bR.drop (i+1))) hc;rw[zz];refine⟨c,rfl,⟨_,ao.of e8⟩,?_⟩;have kT:=sT.trans s8;have vA:Paired (kF H8) (bR.drop (i+1)) (eZ.drop (i+1)):=by
     have:∀(n:Nat) {vs:List V}{ks:List I4},Paired (kF H8) vs ks->Paired (kF H8) (vs.drop n) (ks.drop n):=fun n=>by
      induction n with
      |zero=>exact fun h=>h
      |succ n ih=>
       intro vs ks h;cases h with
       |nil=>exact .nil
       |cons _ h=>exact ih h
     exact this _ (Paired.bj kZ fun v q' hq=>by obtain⟨t,t',e,h1,h2⟩:=hq;exact⟨t,t',e,kT _ _ (s6 _ _ h1 (nt h1)),kT _ _ (s6 _ _ h2 (nt h2))⟩)
    have jm:=kT _ _ (s6 _ _ eA (nt eA));have el:=ZaY hk;have ND:(bR.drop (i+1)).length<=62:=by rw[Zcz];omega
    have Ao:=Za6 vA;generalize bR.drop (i+1)=ds at e8 vA ND Ao;generalize eZ.drop (i+1)=dk at vA el Ao;refine ZQ (xs:=ds) (fun j us ah H9=> ∃v,ah=[v,some (.int k.1),some (.int k.2.1),some (.ref t')]/\ak H8 H9/\Paired (fo H9) us (((dk.take j).filter (dX k)).map (qd k))/\us.length<=j) ⟨_,rfl,ak.refl _,.nil,ZaP _⟩ (fun j us ah H9 _ ⟨_,_,s9,_⟩=>ao.of (s9 _ _ e8)) ?_ ?_
    ·rintro j u us ah H9 jO ⟨v0,rfl,s9,kq,O9⟩;obtain⟨m,hm,tm,Kt,rfl,lN,eK⟩:=JF vA jO;have hj:j<ds.length:=(Zaa.mp jO).1;refine Zl ?_;dsimp only[List.set];have et:dk.take (j+1)=dk.take j++[m]:=by rw[ZaT,hm];rfl
     have AX:=s9 _ _ lN;refine⟨_,rfl,tm,_,_,_,rfl,rfl,aq.of AX,rfl,_,rfl,Kt,t',[m.2.2.1,m.2.2.2],[k.2.2.1,k.2.2.2],rfl,rfl,aq.of (s9 _ _ eK),aq.of (s9 _ _ jm),_,rfl,?_⟩;show if dX k m=true then _ else _
     rw[et,Zbo,ZaF];cases hs:dX k m with
     |true=>refine aB ⟨_,rfl,_,rfl,_,rfl,tm,_,_,_,rfl,rfl,aq.of AX,rfl,_,rfl,tm,_,_,_,rfl,rfl,aq.of AX,rfl,ya,fun t4 fG=> ⟨by rw[Zaz];omega,?_⟩⟩;have je:=Zk (o:=.tup [V.int k.1,V.int k.2.1,V.int m.1,V.int m.2.1]) fG;refine⟨_,rfl,s9.trans je,?_,by rw[Zam];simp;omega⟩;simp only[ZcA,hs,Zem,ZeU,ZaQ,Zdm];exact Zdc (Paired.bj kq fun v q' hq=>hq.same je) ⟨t4,rfl,Zc⟩
     |false=>refine az ⟨_,rfl,s9,?_,.o⟩;simpa[hs] using kq
    ·rintro us ah H9 ⟨v0,rfl,s9,kq,O9⟩ N hN;rw[Ao,ZaH]at kq;obtain⟨mh,zz,je,e10⟩:=da (o:=.lst us) hN;rw[zz];have zT:=kT.trans (s9.trans je);have eM:=zT _ _ e6;refine⟨M,N,zs,us,rfl,rfl,eM,e10,by rw[Zaz];omega,Zw ?_⟩;refine⟨_,_,_,_,_,rfl,fun b o h n=>by rw[Zi n];exact zT _ _ (s6 b o h n),Zc,?_,by rw[Zam];omega⟩;rw[el];exact YD (Paired.bj dY fun v q' hq=>GU eM (hq.same zT)) (Paired.bj kq fun v q' hq=>GU eM (hq.same je))
   ·rintro σ H6 ⟨zs,x3,x4,x5,x6,rfl,s6,e6,dY,nX⟩;rw[lv,WU]at dY;have sA:ak H H6:=fun b o h=>s6 _ _ (s5 _ _ (pJ b o h)) (fun z=>by rw[z,nM]at h;cases h);have lz:=Za6 dY;subst hS;exact⟨_,rfl,q M H6 zs _ sA nM e6 dY (ZaX vZ AM) .o⟩
end
end U
namespace U.S
open PySem L2 PyProof.Rows
theorem X1 (n:Nat):L2.upTo (n+1)=L2.upTo n++[.int (n:Int)]:=by unfold L2.upTo;rw[Zcq,ZaF];rfl
theorem Vo {n:Nat}{x:V}(h:x∈L2.upTo n):∃j:Nat,j<n/\x=.int (j:Int):=by unfold L2.upTo at h;obtain⟨j,hj,e⟩:=Za0.mp h;exact⟨j,ZbC.mp hj,e.symm⟩
theorem T3 {xs:List V}(ok:j7 xs)(i:Nat)(r:Int):j7 (xs.set i (.int r)):=fun x hx=>by
 rcases List.mem_or_eq_of_mem_set hx with h |h
 ·exact ok x h
 ·exact .inr ⟨r,h⟩
theorem HK {xs:List V}{i:Nat}(h:i<xs.length)(v:V):xs.take i++[v]++xs.drop (i+1)=xs.set i v:=by rw[Zee,ZaG h,Zb7];rfl
theorem Vh (hg:Nat)(xs:List V)(i:Nat):(((L2.upTo hg).filter fun r=> !aX r xs).filter fun r=>bF (xs.set i r))=(fj hg xs i).map V.int:=by
 rw[List.filter_filter];unfold fj L2.upTo;rw[ZfV,ZfV,Zdn];show List.map _ _=List.map (fun k:Nat=>V.int (k:Int)) _
 congr 1
 refine List.filter_congr fun k _=> ?_;exact Bool.and_comm _ _
section
variable {P:Program}{w:World}{K:ZgE}{mg:Str->Option Value}{base:Heap}
abbrev zu:Stmt:=top 72
abbrev Nl:List Str:=["_law_board", "_law_lay", "_law_line", "_law_some"]
theorem Dz:aH Nl ["_law_board", "_law_lay", "_law_line"] (ay zu):=Zz (by decide+kernel)
theorem MW {f:Addr}{fd:FuncData}(F:aE K "_law_free" "_law_free" zu f fd)(G:Gs mg)(CV:Def P w K mg base 2 "_law_unlike" ["_law_lay"] uP):aw P w K mg base aF 3 f fd ["_law_board", "_law_lay", "_law_line"] mB:=by
 refine F.ok Dz (fun vs H Q E h=> ?_) (fun cdv A outer s H vs Q E hr h=> ?_)
 ·obtain⟨b,l,i,wd,hg,xs,rfl,_⟩:=h;rfl
 ·obtain⟨b,l,i,wd,hg,xs,rfl,bd,hl,ly,w7,hx,q⟩:=h;refine⟨_,Ze (Y0 ["_law_row", "_law_lay"] 1 [1] (i:=3) Dz.nd rfl (Or.inl rfl) (ZV rfl G.range (Za (Zq ZE (pv 0) Zf (fun _ _=>rfl)) Zb)) (fun C s H fp=>pb 0) (fun C s H fp=>Yk (ZA (show aZ (aK _ _ _ C s H fp) (compareOp .NotIn) (rq K true) from Y4) (pv 0) (pv 1) rfl)) (fun C s H fp D=>cz rfl (pv 0)))
   (Zg (Zo (ZZ ["_law_row", "_law_lay", "_law_line"] 1 [1,2] (ZW (pv 3)) (fun C s H fp=>pb 0) (fun C s H fp=>Yk (Z0 (Zh CV hr (Za (Zp (show aZ (aK _ _ _ C s H fp) (binaryOp .Add) (kY K) from Ye) (Zp (show aZ (aK _ _ _ C s H fp) (binaryOp .Add) (kY K) from Ye) (ZX (show qH (aK _ _ _ C s H fp) (rp K) from YI) (pv 1) Z8 (Z2 (pv 2))) (Zt (Za (pv 0) Zb))) (ZX (show qH (aK _ _ _ C s H fp) (rp K) from YI) (pv 1) (Z2 (Zp (show aZ (aK _ _ _ C s H fp) (binaryOp .Add) _ from Yl) (pv 2) Zf)) Z8)) Zb)))) (fun C s H fp D=>cz rfl (pv 0))))),?_⟩
  obtain⟨b',eb,hb⟩:=ZB bd.1;cases eb;obtain⟨_,w1,w2,g1,g2⟩:=id bd;have flat:=JN ly;refine Zj (Zu ⟨_,rfl,b,_,_,_,rfl,rfl,aq.of hb,dE,hg,rfl,.o,.o,?_⟩);refine Y5 (n:=hg.toNat) (fun j ys ah H'=>ys=(L2.upTo j).filter (fun r=> !aX r xs)/\H'=H/\∃v,ah=[v,some (.ref l)]) ⟨rfl,rfl,none,rfl⟩ ?_ ?_
  ·rintro j ys ah H' hj ⟨rfl,rfl,v,rfl⟩;have eu:(L2.upTo (j+1)).filter (fun r=> !aX r xs)=(L2.upTo j).filter (fun r=> !aX r xs)++(if (!aX (.int (0+(j:Int))) xs)=true then [V.int (0+(j:Int))] else []):=by rw[X1,Zbo,Zcm];cases hh:(!aX (.int (j:Int)) xs)<;>simp[hh]
   refine⟨_,rfl,_,rfl,l,xs,rfl,.inr (aq.of hl),rfl,flat,_,rfl,?_⟩;show if (!aX (.int (0+(j:Int))) xs)=true then _ else _
   cases hh:(!aX (.int (0+(j:Int))) xs) with
   |true=>
    rw[hh]at eu;refine aB ⟨_,rfl,?_,?_⟩
    ·have:=Zbh (fun r=> !aX r xs) (L2.upTo j);have e2:(L2.upTo j).length=j:=by unfold L2.upTo;simp
     rw[Zaz];omega
    ·exact⟨by rw[eu,ZaG rfl],rfl,_,rfl⟩
   |false=>rw[hh]at eu;exact az ⟨by rw[eu,ZaD Zaj,Zbx],rfl,_,rfl⟩
  ·rintro ys ah H' ⟨rfl,rfl,v,rfl⟩ L hL;have fin:=Vh hg.toNat xs i;have O4:((L2.upTo hg.toNat).filter fun r=> !aX r xs).length<=12:=by
    have:=Zbh (fun r=> !aX r xs) (L2.upTo hg.toNat);have e2:(L2.upTo hg.toNat).length=hg.toNat:=by unfold L2.upTo;simp
    omega
   have good:∀y∈(L2.upTo hg.toNat).filter (fun r=> !aX r xs),∃j:Int,y=.int j:=fun y hy=>by obtain⟨j,_,e⟩:=Vo (ZaK.mp hy).1;exact⟨_,e⟩
   generalize (L2.upTo hg.toNat).filter (fun r=> !aX r xs)=ls at fin O4 good;obtain⟨H5,zz,sL,Fp⟩:=da (o:=.lst ls) hL;rw[zz];have hi:i<xs.length:=(Zaa.mp hx).1;have wl:xs.length<=12:=by have:=ly.len;omega
   refine⟨_,rfl,L,rfl,⟨ls,ao.of Fp⟩,?_⟩;refine ZQ (xs:=ls) (fun j ys ah uk=>ys=(ls.take j).filter (fun r=>bF (xs.set i r))/\ak H5 uk/\∃v,ah=[v,some (.ref l),some (.int (i:Int))]) ⟨rfl,ak.refl _,none,rfl⟩ (fun j ys ah uk _ ⟨_,s',_⟩=>ao.of (s' _ _ Fp)) ?_ ?_
   ·rintro j y ys ah uk hy ⟨rfl,s',v,rfl⟩;obtain⟨jj,ey⟩:=good y (ZaC hy);have eu:(ls.take (j+1)).filter (fun r=>bF (xs.set i r))=(ls.take j).filter (fun r=>bF (xs.set i r))++(if bF (xs.set i y)=true then [y] else []):=by rw[ZaT,hy,Zbo];cases hh:bF (xs.set i y)<;>simp[hh]
    have sE:=s' _ _ (sL _ _ hl);refine⟨_,rfl,_,rfl,_,rfl,l,xs,rfl,sE,fun c1 H7 s7 e7=> ⟨_,rfl,bH,fun c2 df=> ?_⟩⟩;rw[Cd hi]at e7;have k2:=Zk (o:=.tup [y]) df;refine Jh (k2 _ _ e7) Zc (by rw[ZaW];simp;omega) fun c3 H8 s8 e8=> ?_;have sD:=s8 _ _ (k2 _ _ (s7 _ _ sE));refine⟨_,rfl,_,rfl,_,_,rfl,rfl,_,rfl,l,xs,rfl,sD,fun c4 H9 s9 e9=> ?_⟩;rw[JR hi]at e9;refine Jh (s9 _ _ e8) e9 (by rw[Zam,ZaW,Zcz];simp;omega) fun c5 mh je e10=> ?_;rw[HK hi]at e10;have sA:=s7.trans (k2.trans (s8.trans (s9.trans je)));refine⟨c5,_,rfl,e10,?_,by rw[Zd7];exact wl,fun xp pL=> ⟨_,rfl,?_⟩⟩
    ·rw[ey];exact T3 ly.ok _ _
    rw[UB];cases hh:bF (xs.set i y) with
    |true=>
     rw[hh]at eu;refine aB ⟨_,rfl,?_,?_⟩
     ·have:=Zbh (fun r=>bF (xs.set i r)) (ls.take j);have h2:=List.length_take_le j ls;rw[Zaz];have:=(Zaa.mp hy).1;omega
     ·exact⟨by rw[eu,ZaG rfl],s'.trans (sA.trans pL),_,rfl⟩
    |false=>rw[hh]at eu;exact az ⟨by rw[eu,ZaD Zaj,Zbx],s'.trans (sA.trans pL),_,rfl⟩
   ·rintro ys ah uk ⟨rfl,s',v,rfl⟩ p hp;rw[ZaH,fin]at *
    refine q p _ (sL.trans (s'.trans (Zk hp))) ?_ Zc;cases e:H' p with
    |none=>rfl
    |some o=>rw[(sL.trans s') _ _ e]at hp;cases hp
end
end U.S
namespace U
open PySem L2 PyProof.Rows U.S
def cnt (xs:List V):Nat:=(xs.filterMap gN).length
theorem GG {α β γ:Type}(f:α->Option β)(g:α->β->γ):∀l:List α,(l.filterMap fun a=> (f a).map (g a)).length=(l.filterMap f).length
 | []=>rfl
 |a::l=>by
  have ih:=GG f g l;rw[ZaZ,ZaZ];cases f a with
  |none=>exact ih
  |some b=>exact Zcr (· +1) ih
theorem WE:∀xs:List V,(List.range xs.length).filterMap (rowAt xs)=xs.filterMap gN
 | []=>rfl
 |x::xs=>by have ih:=WE xs;rw[ZaE,List.range_succ_eq_map,ZaZ,List.filterMap_map,ZaZ];have e:rowAt (x::xs)∘Nat.succ=rowAt xs:=rfl;have e0:rowAt (x::xs) 0=gN x:=rfl;rw[e,e0,ih]
theorem Vt (xs:List V):(br xs).length=cnt xs:=by unfold br cnt;rw[GG,WE]
theorem Cf:∀(xs:List V) (i:Nat) (v:V),cnt (xs.set i v)<=cnt xs+1
 | [],i,v=>by rw[List.set_nil];exact ZcJ _
 |x::xs,0,v=>by unfold cnt;rw[Zec,ZaZ,ZaZ];cases gN v<;>cases gN x<;>simp<;>omega
 |x::xs,i+1,v=>by
  have ih:=Cf xs i v;unfold cnt at ih |-;rw[Zed,ZaZ,ZaZ];cases gN x with
  |none=>exact ih
  |some r=>exact Zc6 ih
theorem TX (xs:List V)(i:Nat):cnt (xs.set i .ag)<=cnt xs:=by
 induction xs generalizing i with
 |nil=>rw[List.set_nil];exact Zaq _
 |cons x xs ih=>
  cases i with
  |zero=>unfold cnt;rw[Zec,ZaZ,ZaZ];show(xs.filterMap gN).length<=_;cases gN x<;>simp
  |succ i=>
   have ih:=ih i;unfold cnt at ih |-;rw[Zed,ZaZ,ZaZ];cases gN x with
   |none=>exact ih
   |some r=>exact Zc6 ih
theorem SU (n:Nat):cnt (List.replicate n .ag)=0:=by
 induction n with
 |zero=>rfl
 |succ n ih=>exact ih
theorem G0:∀ps:List (Int×Int),2*(pk ps).length=ps.length*(ps.length-1)
 | []=>rfl
 |a::r=>by
  have ih:=G0 r;unfold pk;rw[Zam,Zae,ZaE,Nat.mul_add,ih,Ze4];cases hr:r.length with
  |zero=>rfl
  |succ n=>rw[Ze4,ZfN (n+1) n,<-Nat.add_mul,show 2+n=n+1+1 by omega]
theorem Gz {xs:List V}(h:cnt xs<=11):iD xs:=by
 have e:(cO (br xs)).length=(pk (br xs)).length:=by rw[<-xb (Cb xs),Zae,Jl]
 have h2:=G0 (br xs);rw[Vt]at h2;have h3:=Ze9 h (show cnt xs-1<=10 by omega);show _<=63;rw[e];omega
theorem He {xs:List V}(h:cnt xs<=10)(i:Nat)(r:Int):iD (xs.set i (.int r)):=Gz (ZaL (Cf xs i _) .o)
theorem S3 {xs:List V}(h:iD xs):(bz xs xs.length).length<=63:=by rw[<-(Yf xs).length_eq,Zae];exact h
abbrev KJ (K:ZgE)(i j:Nat)(tx:TE):TE:=iH (kY K) (iH (kY K) (xT (rp K) (gf i) xX (xW (gf j))) (qU (cq tx cZ))) (xT (rp K) (gf i) (xW (iH (kn fun i j=> .int (i+j)) (gf j) (tC (.int 1)))) xX)
theorem B5 {K:ZgE}{i j:Nat}{tx:TE}{σ:L2.St}{H:Hp}{Q:VK}{l:Addr}{n:Nat}{xs:List V}{x:V}(h1:σ[i]? =some (some (.ref l)))(h2:σ[j]? =some (some (.int (n:Int))))(hl:H l=some (.tup xs))(hn:n<xs.length)(Qm:xs.length<=12)
  (hx:∀H' (Q':VK),Q' x H'->tx σ H' Q') (q:∀t H',ak H H'->H' t=some (.tup (xs.set n x))->Q (.ref t) H'):KJ K i j tx σ H Q:=by
 refine⟨_,h1,_,h2,_,rfl,l,xs,rfl,hl,fun c1 H7 s7 e7=>hx _ _ ⟨bH,fun c2 df=> ?_⟩⟩;rw[Cd hn]at e7;have k2:=Zk (o:=.tup [x]) df;refine Jh (k2 _ _ e7) Zc (by rw[ZaW];simp;omega) fun c3 H8 s8 e8=> ?_;have sD:=s8 _ _ (k2 _ _ (s7 _ _ hl));refine⟨_,h1,_,h2,_,_,rfl,rfl,_,rfl,l,xs,rfl,sD,fun c4 H9 s9 e9=> ?_⟩;rw[JR hn]at e9;refine Jh (s9 _ _ e8) e9 (by rw[Zam,ZaW,Zcz];simp;omega) fun c5 mh je e10=> ?_;rw[HK hn]at e10;exact q c5 mh (s7.trans (k2.trans (s8.trans (s9.trans je)))) e10
theorem mC {a W:Str}(ha:a.length<=20)(hW:W.length<=20):a.length+W.length<=sizeLine:=ZaL (by omega:_<=60) .d
theorem fw {a W b:Str}(ha:a.length<=20)(hW:W.length<=20)(hb:b.length<=20):(a++W).length+b.length<=sizeLine:=by rw[Ym];exact ZaL (by omega:_<=60) .d
theorem uY {a W b c:Str}(ha:a.length<=20)(hW:W.length<=20)(hb:b.length<=20)(hc:c.length<=20):(a++W++b).length+c.length<=sizeLine:=by rw[Ym,Ym];exact ZaL (by omega:_<=80) .d
theorem VJ:("board " :Str)= "board" ++ " " :=by decide+kernel
theorem TJ:("put " :Str)= "put" ++ " " :=by decide+kernel
theorem VD:("take " :Str)= "take" ++ " " :=by decide+kernel
theorem S6:("free " :Str)= "free" ++ " " :=by decide+kernel
theorem rF {n:Int}(h0:0<=n)(h:n<100):(aO n).length<=20:=ZaL (Jw h0 h).2.2 .d
theorem jG.yK {p:Addr}{H H':Hp}(h:jG H p)(s:ak H H'):jG H' p:=by obtain⟨u,v,e,r⟩:=h;exact⟨u,v,s _ _ e,r⟩
inductive IZ (H:Hp) (s:aY) (z:Str) (u:V):Prop
 |push (wd hg:Int) (xs:List V) (sy:∀n,cI True n s.1 s.2.1 s.2.2 (cn z) (cf z) (.push wd hg xs)) (st:dU H u wd hg xs) (aT:cnt xs<=cnt s.2.2+1)
 |no (l:Addr) (e:u=.ref l) (hl:H l=some (.lst [.int 4])) (sy:∀n,cI True n s.1 s.2.1 s.2.2 (cn z) (cf z) (.no 4))
section
variable {P:Program}{w:World}{K:ZgE}{mg:Str->Option Value}{base:Heap}
abbrev zP:Stmt:=top 77
abbrev Nr:List Str:=["_law_state_here", "_law_kept", "_law_way", "_law_one", "_law_other", "_law_board", "_law_lay", "_law_line", "_law_row", "_law_rest", "_law_told"]
theorem km:aH Nr ["_law_state_here", "_law_kept"] (ay zP):=Zz (by decide+kernel)
inductive uW (vs:List V) (H:Hp) (Q:VK) (E:XK):Prop
 |mk (p:Addr) (kv:V) (s:aY) (ev:vs=[.ref p,kv]) (st:jG H p) (sv:j6 H kv s)
  (q:∀(t:Addr) (z:Str) (u:V) (H':Hp),aV p H H'->jG H' p->H' t=some (.tup [.str z,u])->z.length<=1000->IZ H' s z u->Q (.ref t) H')
theorem Sj {f:Addr}{fd:FuncData}(F:aE K "_law_deed" "_law_deed" zP f fd)(G:Gs mg)(D1:Def P w K mg base 1 "_law_take" ["_law_state_here", "_law_many"] rf):aw P w K mg base aF 2 f fd ["_law_state_here", "_law_kept"] uW:=by
 refine F.ok km (fun vs H Q E h=> ?_) (fun cdv A outer s H vs Q E hr h=> ?_)
 ·obtain⟨p,kv,s,rfl,_⟩:=h;rfl
 ·obtain⟨p,kv,⟨wd,hg,xs⟩,rfl,st,sv,q⟩:=h;refine⟨_,Ze (Vr (i:=2) (j:=3) (k:=4) rfl km.nd rfl rfl rfl rfl rfl rfl (Za (Zh D1 hr (Za (pv 0) (Za Zf Zb))) (Za (Zh D1 hr (Za (pv 0) (Za Zf Zb))) (Za (Zh D1 hr (Za (pv 0) (Za Zf Zb))) Zb))))
   (Ze (Yp (pv 1) (Z3 rfl (Zm (Zx (i:=5) km.nd rfl (Or.inl rfl)) (Zm (Zx (i:=6) km.nd rfl (Or.inl rfl)) ZS))))
   (Ze (ZN (ZA We (pv 2) Zf (bJ _))
    (Ze (ZF (i:=5) km.nd rfl (Or.inl rfl) (Zt (Za (Zp Yl Zf (Zp YO (pv 3) Zf)) (Za (Zp Yl Zf (Zp YO (pv 4) Zf)) Zb))))
    (Ze (ZN (ZA We (pv 3) (pv 4) (bJ _)) (Zg (ZF (i:=5) km.nd rfl (Or.inl rfl) (Zt (Za (Zp Yl Zf (pv 3)) (Za (Zp Yl Zf (pv 4)) Zb))))) Zy)
    (Zg (Zo (Zt (Za (Zp Z9 (Zp Z9 (Zp Z9 Zr (ZD Zv rfl G.str PyProof.Rows.Boot.«str» (Za (Zq ZE (pv 5) Zf (fun _ _=>rfl)) Zb))) Zr) (ZD Zv rfl G.str PyProof.Rows.Boot.«str» (Za (Zq ZE (pv 5) Zf (fun _ _=>rfl)) Zb)))
     (Za (Zt (Za (pv 5) (xg (Zp Hr (Zt (Za Yb Zb)) (Zq ZE (pv 5) Zf (fun _ _=>rfl))) Zb))) Zb))))))) Zy)
   (Ze (Ca (i:=7) (j:=8) rfl km.nd rfl rfl .d rfl rfl (Za (Zp YO (pv 3) (Zq ZE (pv 5) Zf (fun _ _=>rfl))) (Za (Zp YO (pv 4) (Zq ZE (pv 5) Zf (fun _ _=>rfl))) Zb)) rfl)
   (Ze (ZN (ZA We (pv 2) Zf (bJ _)) (Zg (Zo (Zt (Za (Zp Z9 Zr (ZD Zv rfl G.str PyProof.Rows.Boot.«str» (Za (pv 7) Zb))) (Za (Zt (Za (pv 5) (xg (Zp Ye (Zp Ye (ZX YI (pv 6) Z8 (Z2 (pv 7))) (Zt (Za Yb Zb))) (ZX YI (pv 6) (Z2 (Zp Yl (pv 7) Zf)) Z8)) Zb))) Zb))))) Zy)
   (Ze (ZF (i:=9) km.nd rfl (Or.inl rfl) (Zp Ye (Zp Ye (ZX YI (pv 6) Z8 (Z2 (pv 7))) (Zt (Za Yb Zb))) (ZX YI (pv 6) (Z2 (Zp Yl (pv 7) Zf)) Z8)))
   (Ze (ZF (i:=10) km.nd rfl (Or.inl rfl) (Zp Z9 (Zp Z9 (Zp Z9 Zr (ZD Zv rfl G.str PyProof.Rows.Boot.«str» (Za (pv 7) Zb))) Zr) (ZD Zv rfl G.str PyProof.Rows.Boot.«str» (Za (pv 8) Zb))))
   (Ze (ZN (ZA J5 (pv 8) (pv 9) rfl) (Zg (Zo (Zt (Za (pv 10) (Za (ZH (Za Zf Zb)) Zb))))) Zy)
   (Zg (Zo (Zt (Za (pv 10) (Za (Zt (Za (pv 5) (xg (Zp Ye (Zp Ye (ZX YI (pv 6) Z8 (Z2 (pv 7))) (Zt (Za (pv 8) Zb))) (ZX YI (pv 6) (Z2 (Zp Yl (pv 7) Zf)) Z8)) Zb))) Zb)))))))))))),?_⟩
  obtain⟨t,b,l,rfl,ht,bd,hl,ly⟩:=sv;obtain⟨b',eb,hb⟩:=ZB bd.1;cases eb;obtain⟨_,w1,w2,g1,g2⟩:=id bd;have ll:=ly.len;dsimp only at w1 w2 g1 g2 ll hl hb bd ly;have nb:∀{H':Hp}{q:Addr}{ys:List V},jG H' p->H' q=some (.tup ys)->q≠p:=fun av h z=>by obtain⟨u,v,e,_⟩:=av;rw[z,e]at h;cases h
  refine Zj ⟨_,rfl,p,8,rfl,st,.d,.d,fun way o1 y0 y1 cG=> ?_⟩;obtain⟨H1,zz,x1⟩:=newX H p o1;rw[zz]at cG |- |-;refine⟨_,rfl,p,12,rfl,cG,.d,.d,fun one o2 a0 a1 bZ=> ?_⟩;obtain⟨H2,zz,x2⟩:=newX H1 p o2;rw[zz]at bZ |- |-;refine⟨_,rfl,p,12,rfl,bZ,.d,.d,fun hG o3 c0 c1 dJ=> ⟨_,_,_,rfl,?_⟩⟩;obtain⟨H3,zz,x3⟩:=newX H2 p o3;rw[zz]at dJ |- |-;dsimp only[List.set];have X3:aV p H H3:=x1.trans (x2.trans x3);have r8:=X3 _ _ ht (nb st ht);have wu:=X3 _ _ hb (nb st hb);have iM:=X3 _ _ hl (nb st hl);clear x1 x2 x3 cG bZ;refine Zj (Zu ⟨_,rfl,t,_,rfl,aq.of r8,rfl,_,_,rfl,_,_,rfl,rfl,?_⟩);dsimp only[List.set];have fin:∀{H':Hp}{t2:Addr}{z:Str}{u:V},ak H3 H'->H' t2=some (.tup [.str z,u])->z.length<=1000->IZ H' (wd,hg,xs) z u->Q (.ref t2) H':=fun s' e' lz d=>q _ _ _ _ (X3.trans s'.x) (dJ.yK s') e' lz d;refine Zj ⟨_,rfl,rfl,_,rfl,?_⟩;by_cases hw:way=0
  ·rw[ZaA (show V.int way=V.int 0 by rw[hw])];refine aB ?_;have ee:=ZcG one (show(5:Int)≠0 by decide);have ee':=Zcl one (show(0:Int)<5 by decide);have ef:=ZcG hG (show(6:Int)≠0 by decide);have ef':=Zcl hG (show(0:Int)<6 by decide);refine Zj (Zu ⟨_,rfl,_,_,rfl,rfl,(by show(0:Int)<5;decide),_,_,rfl,rfl,_,rfl,_,_,rfl,rfl,(by show(0:Int)<6;decide),_,_,rfl,rfl,bo,fun b2 jU=>Zl ?_⟩);dsimp only[List.set];have s4:=Zk (o:=.tup [V.int (1+one%5),V.int (1+hG%6)]) jU;have e4:upd H3 b2 (.tup [V.int (1+one%5),V.int (1+hG%6)]) b2=some (.tup [V.int (1+one%5),V.int (1+hG%6)]):=Zc;generalize upd H3 b2 (HO.tup [V.int (1+one%5),V.int (1+hG%6)])=H4 at s4 e4 |-;refine T.uC (fun ah H'=> ∃(b3:Addr) (W G':Int),ah=[some (.ref p),some (.ref t),some (.int way),some (.int one),some (.int hG),some (.ref b3),some (.ref l),none,none,none,none]/\ak H3 H'/\H' b3=some (.tup [.int W,.int G'])/\1<=W/\W<=12/\1<=G'/\G'<=12) ?_ ?_
   ·rintro ah H5 ⟨b3,W,G',rfl,s5,e5,W1,W2,G1,G2⟩;have sW:=ZO (i:=W) .o .o;have sG:=ZO (i:=G') .o .o;have lW:=rF (n:=W) .o .o;have lG:=rF (n:=G') .o .o;refine⟨_,rfl,b3,_,_,_,rfl,rfl,aq.of e5,gF,_,rfl,sW,_,_,rfl,rfl,mC .d lW,_,_,rfl,rfl,fw .d lW .d,_,rfl,b3,_,_,_,rfl,rfl,aq.of e5,dE,_,rfl,sG,_,_,rfl,rfl,uY .d lW .d lG,_,rfl,?_⟩;refine⟨bH,fun t6 vV=> ⟨_,rfl,b3,_,_,_,rfl,rfl,aq.of ((ZL vV) _ _ e5),gF,t6,W,[.ag],rfl,rfl,Zc,by simp,.o,.o,by simp;omega,fun c H6 s6 e6=> ?_⟩⟩;have DD:=(ZL (o:=.tup [V.ag]) vV).trans s6;refine⟨bo,fun t7 ij=> ?_⟩;obtain⟨H7,zz,s7,e7⟩:=da (o:=.tup [V.ref b3,V.ref c]) ij;rw[zz];refine⟨bo,fun t8 jm=> ?_⟩;have s8:=ZL (o:=.tup [V.str (("board " :Str)++aO W++ " " ++aO G'),V.ref t7]) jm;have jd:=s7.trans s8;have rd:=HW (w:= "board") .d .d (a:=W) (b:=G') .o .o .o .o;rw[show ln2 "board" W G'=("board " :Str)++aO W++ " " ++aO G' by rw[VJ]]at rd;refine fin (s5.trans (DD.trans jd)) Zc rd.2.2 (.push W G' (List.replicate W.toNat .ag) (fun n=> ?_) ⟨t7,b3,c,rfl,s8 _ _ e7,⟨ZI ((DD.trans jd) _ _ e5),W1,W2,G1,G2⟩,?_,Uj .o⟩ (by rw[SU];omega))
    ·rw[rd.1,rd.2.1];exact .wX W G' W1 W2 G1 G2
    ·rw[<-HL];exact jd _ _ e6
   ·intro D' hD;refine⟨_,rfl,_,rfl,rfl,_,rfl,?_⟩;by_cases he:one=hG
    ·rw[ZaA (show V.int one=V.int hG by rw[he])];refine aB (Zu ⟨_,rfl,_,_,rfl,rfl,_,rfl,_,_,rfl,rfl,bo,fun b3 P5=>Zl ?_⟩);exact hD _ _ ⟨b3,_,_,rfl,s4.trans (Zk P5),Zc,.o,.o,.o,.o⟩
    ·rw[Zav (show ¬V.int one=V.int hG from fun z=>he (by injection z))];exact az (Zw (hD _ _ ⟨b2,_,_,rfl,s4,e4,.o,.o,.o,.o⟩))
  rw[Zav (show ¬V.int way=V.int 0 from fun z=>hw (by injection z))];refine az (Zw ?_);dsimp only;have i0:=ZcG one (show wd≠0 by omega);have i1:=Zcl one (show 0<wd by omega);have r0:=ZcG hG (show hg≠0 by omega);have r1:=Zcl hG (show 0<hg by omega);refine Zj ⟨_,rfl,_,rfl,b,_,_,_,rfl,rfl,aq.of wu,gF,_,_,rfl,rfl,.o,_,rfl,_,rfl,b,_,_,_,rfl,rfl,aq.of wu,dE,_,_,rfl,rfl,.o,_,_,rfl,?_⟩;dsimp only[List.set];obtain⟨i,ei⟩:∃i:Nat,one%wd=(i:Int):=⟨(one%wd).toNat,.o⟩;generalize hG%hg=r at r0 r1 |-;rw[ei]at i0 i1 |-;have hi:i<xs.length:=.o;have A5:xs.length<=12:=.o;have sI:=ZO (i:=(i:Int)) .o .o;have lI:=rF (n:=(i:Int)) .o .o;have sR:=ZO (i:=r) .o .o;have lR:=rF (n:=r) .o .o;refine Zj ⟨_,rfl,rfl,_,rfl,?_⟩;by_cases Ex:way=1
  ·rw[ZaA (show V.int way=V.int 1 by rw[Ex])];refine aB ⟨_,rfl,_,rfl,sI,_,_,rfl,rfl,mC .d lI,_,rfl,?_⟩;refine B5 (n:=i) (x:=.ag) rfl rfl iM hi A5 (fun _ _ h=>h) fun c H4 s4 e4=> ?_;refine⟨bo,fun t7 ij=> ?_⟩;obtain⟨H7,zz,s7,e7⟩:=da (o:=.tup [V.ref b,V.ref c]) ij;rw[zz];refine⟨bo,fun t8 jm=> ?_⟩;have s8:=ZL (o:=.tup [V.str (("take " :Str)++aO (i:Int)),V.ref t7]) jm;have jd:=s7.trans s8;have rd:=HV (w:= "take") .d .d (a:=(i:Int)) .o .o;rw[show rN "take" (i:Int)=("take " :Str)++aO (i:Int) by rw[VD]]at rd;refine fin (s4.trans jd) Zc rd.2.2 (.push wd hg (xs.set i .ag) (fun n=> ?_) ⟨t7,b,c,rfl,s8 _ _ e7,⟨ZI ((s4.trans jd) _ _ wu),w1,w2,g1,g2⟩,jd _ _ e4,JM ly i⟩ (ZcP (TX xs i)));rw[rd.1,rd.2.1];exact .take (i:Int) i0 i1
  rw[Zav (show ¬V.int way=V.int 1 from fun z=>Ex (by injection z))];refine az (Zw ?_);dsimp only;refine Zj (Zu (B5 (n:=i) (x:=.ag) rfl rfl iM hi A5 (fun _ _ h=>h) fun rs H4 s4 e4=>Zl ?_));dsimp only[List.set];refine Zj (Zu ⟨_,rfl,_,rfl,sI,_,_,rfl,rfl,mC .d lI,_,_,rfl,rfl,fw .d lI .d,_,rfl,_,rfl,sR,_,_,rfl,rfl,uY .d lI .d lR,Zl ?_⟩);dsimp only[List.set];have rd:=HW (w:= "put") .d .d (a:=(i:Int)) (b:=r) .o .o .o .o;rw[show ln2 "put" (i:Int) r=("put " :Str)++aO (i:Int)++ " " ++aO r by rw[TJ]]at rd;generalize ("put " :Str)++aO (i:Int)++ " " ++aO r=z at rd;have fl:=JN (JM ly i);refine Zj ⟨_,rfl,_,rfl,rs,_,rfl,.inr (aq.of e4),rfl,fl,_,rfl,?_⟩;cases hn:aX (.int r) (xs.set i .ag) with
  |true=>refine aB ⟨_,rfl,bH,fun l4 nY=> ⟨bo,fun t8 jm=> ?_⟩⟩;have s5:=ZL (o:=.lst [V.int 4]) nY;have s8:=ZL (o:=.tup [V.str z,V.ref l4]) jm;refine fin (s4.trans (s5.trans s8)) Zc rd.2.2 (.no l4 rfl (s8 _ _ Zc) fun n=> ?_);rw[rd.1,rd.2.1];exact .DL (i:Int) r ⟨i0,i1⟩ ⟨r0,r1⟩ hn
  |false=>refine az (Zw ?_);dsimp only;refine⟨_,rfl,_,rfl,?_⟩;refine B5 (n:=i) (x:=.int r) rfl rfl (s4 _ _ iM) hi A5 (fun _ _ h=> ⟨_,rfl,h⟩) fun c H5 s5 e5=> ?_;refine⟨bo,fun t7 ij=> ?_⟩;obtain⟨H7,zz,s7,e7⟩:=da (o:=.tup [V.ref b,V.ref c]) ij;rw[zz];refine⟨bo,fun t8 jm=> ?_⟩;have s8:=ZL (o:=.tup [V.str z,V.ref t7]) jm;have jd:=s7.trans s8;refine fin (s4.trans (s5.trans jd)) Zc rd.2.2 (.push wd hg (xs.set i (.int r)) (fun n=> ?_) ⟨t7,b,c,rfl,s8 _ _ e7,⟨ZI ((s4.trans (s5.trans jd)) _ _ wu),w1,w2,g1,g2⟩,jd _ _ e5,Iu ly hi r0 r1 hn⟩ (Cf xs i _));rw[rd.1,rd.2.1];exact .put (i:Int) r i0 i1 r0 r1 hn
end
def xq (H:Hp)(rs:List V)(z:Str):Prop:=(rs=[]/\z= "none")∨∃(t:Addr) (r:List V) (ns:List Int),rs=.ref t::r/\H t=some (.tup (ns.map V.int))/\jH ns/\z=gJ ns
abbrev K7 (K:ZgE)(tf:TE):TE:=iH (vt K) (iH vw tf (qV (cq (qU cZ) cZ))) (tC (.int 0))
theorem Cg {K:ZgE}{tf:TE}{σ:L2.St}{H:Hp}{Q:VK}{Pz:Str->Prop}(hf:∀Q':VK,(∀(l:Addr) (H':Hp) (rs:List V) (z:Str),ak H H'->H' l=some (.lst rs)->rs.length<=120000->xq H' rs z->Pz z->Q' (.ref l) H')->tf σ H Q')(q:∀z H',Pz z->ak H H'->Q (.str z) H'):
  kJ rg [] E0 (cq (K7 K tf) cZ) σ H Q:=by
 refine hf _ fun l H1 rs z s1 e1 hl fz hz=> ⟨ZaP _,fun t0 AJ=> ⟨bH,fun L0 qv=> ?_⟩⟩;have s2:=Zk (o:=.tup []) AJ;have e2:upd H1 t0 (.tup []) t0=some (.tup []):=Zc;generalize upd H1 t0 (HO.tup [])=H2 at s2 e2 qv |-;have s3:=Zk (o:=.lst [V.ref t0]) qv;have e3:upd H2 L0 (.lst [V.ref t0]) L0=some (.lst [V.ref t0]):=Zc;generalize upd H2 L0 (HO.lst [V.ref t0])=H3 at s3 e3 |-;refine⟨l,L0,rs,_,rfl,rfl,(s2.trans s3) _ _ e1,e3,by rw[Zaz];simp;omega,fun p hp=> ?_⟩;have s4:=Zk (o:=.lst (rs++[V.ref t0])) hp;have e4:upd H3 p (.lst (rs++[V.ref t0])) p=some (.lst (rs++[V.ref t0])):=Zc;generalize upd H3 p (HO.lst (rs++[V.ref t0]))=H4 at s4 e4 |-;have pI:=s2.trans (s3.trans s4);rcases fz with ⟨rfl,rfl⟩ |⟨t,r,ns,rfl,ht,ok,rfl⟩
 ·exact⟨p,_,0,.ref t0,rfl,rfl,ao.of e4,rfl,.mk t0 [] rfl ((s3.trans s4) _ _ e2) ⟨ZaP _,fun n hn=>by cases hn⟩ fun H' s'=>q _ H' hz (s1.trans (pI.trans s'))⟩
 ·exact⟨p,_,0,.ref t,rfl,rfl,ao.of e4,Ya (j:=0) rfl,.mk t ns rfl (pI _ _ ht) ok fun H' s'=>q _ H' hz (s1.trans (pI.trans s'))⟩
theorem Zbl {H:Hp}{rs:List V}{ks:List aC}{xs:List V}(hl:xs.length<=12)(pr:Paired (fo H) rs ks)(f:eI (bz xs xs.length) ks.head?):xq H rs (gp ks.head?):=by
 cases pr with
 |nil=>exact .inl ⟨rfl,rfl⟩
 | @cons v k rs ks hv pr=>obtain⟨t,rfl,ht⟩:=hv;exact .inr ⟨t,rs,[k.1,k.2.1,k.2.2.1,k.2.2.2],rfl,ht,WT hl f,rfl⟩
theorem Xc {wd:Int}{hg:Nat}{xs:List V}(ly:bq wd (hg:Int) xs)(g:hg<=7)(w:xs.length<=6){b:List V}(h:b∈ba hg xs xs.length):∃ks:List Int,b=ks.map V.int/\jH ks:=by obtain⟨lk,_,ks,rfl⟩:=Yn hg xs xs.length b h;refine⟨ks,rfl,by rw[Zae]at lk;omega,fun n hn=> ?_⟩;obtain⟨r,e,r0,r1⟩:=Ud ly g _ _ h (.int n) (Zb4 hn);cases e;exact⟨r0,r1⟩
theorem Uf {wd:Int}{hg:Nat}{xs:List V}(ly:bq wd (hg:Int) xs)(g:hg<=7)(w:xs.length<=6){H:Hp}{ts:List V}(pr:Paired (dn H) ts (ba hg xs xs.length)):xq H ts (dB (ba hg xs xs.length)):=by
 have sm:=fun b=>Xc ly g w (b:=b);generalize ba hg xs xs.length=F at pr sm;cases pr with
 |nil=>exact .inl ⟨rfl,rfl⟩
 | @cons v b ts F hv pr=>obtain⟨t,rfl,ht⟩:=hv;obtain⟨ks,rfl,ok⟩:=sm b Zai;refine .inr ⟨t,ts,ks,rfl,ht,ok,?_⟩;show gJ (intsOf _)=_;rw[S.ints_map]
def iW (H:Hp)(v:V):RV->Prop
 | .no i=> ∃l,v=.ref l/\H l=some (.lst [.int (i:Int)])
 | .txt z=>v=.str z
theorem iW.same {H H':Hp}{v:V}{r:RV}(h:iW H v r)(s:ak H H'):iW H' v r:=by
 cases r with
 |no i=>obtain⟨l,e,hl⟩:=h;exact⟨l,e,s _ _ hl⟩
 |txt z=>exact h
abbrev Due:=Str×RV
inductive gG (H:Hp) (v:V) (d:Due):Prop
 |mk (t:Addr) (u:V) (e:v=.ref t) (ht:H t=some (.tup [.str d.1,u])) (hu:iW H u d.2)
theorem gG.same {H H':Hp}{v:V}{d:Due}(h:gG H v d)(s:ak H H'):gG H' v d:=by obtain⟨t,u,e,ht,hu⟩:=h;exact⟨t,u,e,s _ _ ht,hu.same s⟩
theorem gG.grow {H:Hp}{L:Addr}{rs:List V}{o:HO}{v:V}{d:Due}(h:gG H v d)(e:H L=some (.lst rs))(n:2<=rs.length):gG (upd H L o) v d:=by
 obtain⟨t,u,rfl,ht,hu⟩:=h;refine⟨t,u,rfl,?_,?_⟩
 ·rw[Zi (fun z=>by rw[z,e]at ht;cases ht)];exact ht
 ·obtain⟨z,r⟩:=d;cases r with
  |no i=>obtain⟨l,rfl,hl⟩:=hu;refine⟨l,rfl,?_⟩;rw[Zi (fun z=>by rw[z,e]at hl;cases hl;exact absurd n (by show ¬2<=1;decide))];exact hl
  |txt z=>exact hu
inductive iG (s:aY) (d:Due):Prop
 |mk (hz:d.1.length<=1000) (o:Out) (sy:∀n,cI True n s.1 s.2.1 s.2.2 (cn d.1) (cf d.1) o) (e:rv o=d.2) (k:∀S,pP S o=S)
theorem Yv {s:aY}{z W:Str}{N:List V}(o:Out)(r:cn z=W/\cf z=N/\z.length<=1000)(h:∀n,cI True n s.1 s.2.1 s.2.2 W N o)(k:∀S,pP S o=S):iG s (z,rv o):=by obtain⟨r1,r2,r3⟩:=r;subst r1 r2;exact⟨r3,o,h,rfl,k⟩
theorem Vu:cn "like" = "like" /\cf "like" =[]/\("like" :Str).length<=1000:=by decide+kernel
def wF (hg:Nat)(xs:List V)(k:Nat):RV:=if xs[k]? =some .ag then .txt (gJ (fj hg xs k)) else .no 2
def oq (hg:Nat)(xs:List V)(k:Nat):Due:=(("free " :Str)++aO (k:Int),wF hg xs k)
theorem Zb2 {wd hg:Int}{xs:List V}(i8:wd<=12)(ll:(xs.length:Int)=wd)(aT:cnt xs<=10){k:Nat}(hk:k<xs.length):iG (wd,hg,xs) (oq hg.toNat xs k):=by
 have rd:=HV (w:= "free") .d .d (a:=(k:Int)) .o .o;rw[show rN "free" (k:Int)=("free " :Str)++aO (k:Int) by rw[S6]]at rd;unfold oq wF;by_cases h:xs[k]? =some .ag
 ·rw[ZaG h];exact Yv (.tell _) rd (fun n=> .FD trivial k h fun r=>He aT k r) fun S=>rfl
 ·rw[ZaD h];refine Yv (.no 2) rd (fun n=> .free (k:Int) ?_) fun S=>rfl;unfold oG;rw[ZcN,Zav h,Bool.and_false]
section
variable {P:Program}{w:World}{K:ZgE}{mg:Str->Option Value}{base:Heap}
abbrev zO:Stmt:=top 78
abbrev Nq:List Str:=["_law_kept", "_law_last", "_law_board", "_law_lay", "_law_found", "_law_line", "_law_due", "_law_rows"]
theorem kS:aH Nq ["_law_kept", "_law_last"] (ay zO):=Zz (by decide+kernel)
inductive pd (vs:List V) (H:Hp) (Q:VK) (E:XK):Prop
 |mk (kv:V) (b:Bool) (s:aY) (ev:vs=[kv,.bl b]) (sv:j6 H kv s) (aT:cnt s.2.2<=10)
  (q:∀(l:Addr) (H':Hp) (rs:List V) (ds:List Due),ak H H'->H l=none->H' l=some (.lst rs)->Paired (gG H') rs ds->(∀d∈ds,iG s d)->ds.head? =some (("shown" :Str),RV.txt (dz s.1 s.2.1 s.2.2))->ds.length<=100->Q (.ref l) H')
theorem Gx {H3:Hp}{L:Addr}{rs:List V}{ds:List Due}{d1 d2:Due}{D:L2.Ends}{t1 t2 M:Addr}{u1 u2:V}(eL:H3 L=some (.lst rs))(pr:Paired (gG H3) rs ds)(aT:rs.length<=90)
  (h1:H3 t1=some (.tup [.str d1.1,u1])) (a1:iW H3 u1 d1.2) (h2:H3 t2=some (.tup [.str d2.1,u2])) (a2:iW H3 u2 d2.2) (hM:H3 M=some (.lst [.ref t1,.ref t2]))
  (q:∀l H',ak H3 H'->H3 l=none->H' l=some (.lst (rs++[.ref t1,.ref t2]))->Paired (gG H') (rs++[.ref t1,.ref t2]) (ds++[d1,d2])->D.rt (.ref l) H'):vw (.ref L) (.ref M) H3 D.rt:=by
 refine⟨L,M,rs,_,rfl,rfl,eL,hM,by rw[Zaz];simp;omega,fun p hp=> ?_⟩;have s:=Zk (o:=.lst (rs++[V.ref t1,V.ref t2])) hp;refine q p _ s hp Zc ?_;exact YD (Paired.bj pr fun v d h=>h.same s) (.cons ⟨t1,u1,rfl,s _ _ h1,a1.same s⟩ (.cons ⟨t2,u2,rfl,s _ _ h2,a2.same s⟩ .nil))
theorem Sk {f:Addr}{fd:FuncData}(F:aE K "_law_dues" "_law_dues" zO f fd)(G:Gs mg)(Dtx:Def P w K mg base 1 "_law_text" ["_law_board", "_law_lay"] o9)(Dlk:Def P w K mg base 102 "_law_like" ["_law_lay"] (yp K))(oS:Def P w K mg base 1 "_law_words" nz rg)(CN:Def P w K mg base 1 "_law_words" nz oV)
  (uq:Def P w K mg base 3 "_law_free" ["_law_board", "_law_lay", "_law_line"] mB) (CY:Def P w K mg base 103 "_law_fits" ["_law_board", "_law_lay"] kP):aw P w K mg base aF 104 f fd ["_law_kept", "_law_last"] pd:=by
 refine F.ok kS (fun vs H Q E h=> ?_) (fun cdv A outer s H vs Q E hr h=> ?_)
 ·obtain⟨kv,b,s,rfl,_⟩:=h;rfl
 ·obtain⟨kv,lb,⟨wd,hg,xs⟩,rfl,sv,aT,q⟩:=h;refine⟨_,Ze (Yp (pv 0) (Z3 rfl (Zm (Zx (i:=2) kS.nd rfl (Or.inl rfl)) (Zm (Zx (i:=3) kS.nd rfl (Or.inl rfl)) ZS))))
   (Ze (ZF (i:=4) kS.nd rfl (Or.inl rfl) (ZH (Za (Zt (Za Zr (ZT (Zh Dtx (hr.mono .d) (Za (pv 2) (Za (pv 3) Zb))) Zb))) (Za (Zt (Za Zr (ZT (Zh oS (hr.mono .d) (Za (Zq Zs (Zp YE (Zh Dlk (hr.mono .d) (Za (pv 3) Zb)) (ZH (Za (Zt Zb) Zb))) Zf (fun _ _=>rfl)) Zb)) Zb))) Zb))))
   (Ze (Yx Zb6 rfl (ZV rfl G.range (Za (Zq ZE (pv 2) Zf (fun _ _=>rfl)) Zb)) (Zx (i:=5) kS.nd rfl (Or.inl rfl))
    (Ze (ZF (i:=6) kS.nd rfl (Or.inl rfl) (ZH (Za Zf Zb)))
    (Ze (ZN (YM (Ju (Zq ZE (pv 3) (pv 5) (fun _ _=>rfl)))) (Zg (ZF (i:=6) kS.nd rfl (Or.inl rfl) (Zh CN (hr.mono .d) (ZT (Zh uq (hr.mono .d) (Za (pv 2) (Za (pv 3) (Za (pv 5) Zb)))) Zb)))) Zy)
    (Zg (ZR (Y6 Zb0 Zdk Zdl Jm (pv 4) (Za (Zt (Za (Zp Z9 Zr (ZD Zv rfl G.str PyProof.Rows.Boot.«str» (Za (pv 5) Zb))) (Za (pv 6) Zb))) Zb)))))))
   (Ze (ZN (PW.pt (tW (ZA Y8 (Zq ZE (pv 2) Zf (fun _ _=>rfl)) Zf (bJ _)) (WJ (ZA Y8 (Zq ZE (pv 2) Zf (fun _ _=>rfl)) Zf (bJ _)))))
    (Zg (Zo (Zp YE (pv 4) (ZH (Za (Zt (Za Zr (Za (ZH (Za Zf Zb)) Zb))) (Za (Zt (Za Zr (Za (ZH (Za Zf Zb)) Zb))) Zb)))))) Zy)
   (Ze (ZN (PW.pt (tW (Yw (Z0 (pv 1))) (WJ (ZA Y8 (Zq ZE (pv 2) Zf (fun _ _=>rfl)) Zf (bJ _))))) (Zg (Zo (pv 4))) Zy)
   (Ze (ZF (i:=7) kS.nd rfl (Or.inl rfl) (Zh CY hr (Za (pv 2) (Za (pv 3) Zb))))
   (Zg (Zo (Zp YE (pv 4) (ZH (Za (Zt (Za Zr (ZT (ZD Zv rfl G.str PyProof.Rows.Boot.«str» (Za (Zn ZG rfl G.len ZdE (Za (pv 7) Zb)) Zb)) Zb))) (Za (Zt (Za Zr (ZT (Zh oS (hr.mono .d) (Za (Zq Zs (Zp YE (pv 7) (ZH (Za (Zt Zb) Zb))) Zf (fun _ _=>rfl)) Zb)) Zb))) Zb))))))))))),?_⟩
  obtain⟨t,b,l,rfl,ht,bd,hl,ly⟩:=sv;obtain⟨b',eb,hb⟩:=ZB bd.1;cases eb;obtain⟨_,w1,w2,g1,g2⟩:=id bd;have ll:=ly.len;dsimp only at w1 w2 g1 g2 ll hl hb bd ly aT q;refine Zj (Zu ⟨_,rfl,t,_,rfl,aq.of ht,rfl,_,_,rfl,_,_,rfl,rfl,?_⟩);dsimp only[List.set];refine Zj (Zu ?_);refine⟨_,rfl,_,rfl,b,l,wd,hg,xs,rfl,bd,hl,ly,fun H1 s1=> ?_⟩;refine⟨bo,fun t1 ED=> ?_⟩;have s2:=Zk (o:=.tup [V.str "shown",V.str (dz wd hg xs)]) ED;have e2:upd H1 t1 (.tup [V.str "shown",V.str (dz wd hg xs)]) t1=some (.tup [V.str "shown",V.str (dz wd hg xs)]):=Zc;generalize upd H1 t1 (HO.tup [V.str "shown",V.str (dz wd hg xs)])=H2 at s2 e2 |-;have pK:=s1.trans s2;have FK:iD xs:=Gz .o;refine Cg (Pz:=fun z=> ∃r,eI (bz xs xs.length) r/\z=gp r) (fun Q' hq=> ⟨_,rfl,.mk l xs rfl (pK _ _ hl) ly.ok .o (S3 FK) fun l3 H3 rs ks s3 nl3 e3 pr fi lk=>hq l3 H3 rs _ s3 e3 (by have:=Za6 pr;omega) (Zbl .o pr fi) ⟨_,fi,rfl⟩⟩) fun z H3 hz s3=> ?_;obtain⟨r,fi,rfl⟩:=hz;refine⟨bo,fun t2 qf=> ?_⟩;have s4:=Zk (o:=.tup [V.str "like",V.str (gp r)]) qf;have e4:upd H3 t2 (.tup [V.str "like",V.str (gp r)]) t2=some (.tup [V.str "like",V.str (gp r)]):=Zc;generalize upd H3 t2 (HO.tup [V.str "like",V.str (gp r)])=H4 at s4 e4 |-;refine⟨bo,fun L hL=>Zl ?_⟩;dsimp only[List.set];have pJ:=pK.trans (s3.trans s4);have nL:=pJ.free hL;have s5:=Zk (o:=.lst [V.ref t1,V.ref t2]) hL;have e5:upd H4 L (.lst [V.ref t1,V.ref t2]) L=some (.lst [V.ref t1,V.ref t2]):=Zc;generalize upd H4 L (HO.lst [V.ref t1,V.ref t2])=H5 at s5 e5 |-;have DE:=pJ.trans s5;have d1:gG H5 (.ref t1) ("shown",.txt (dz wd hg xs)):=⟨t1,_,rfl,(s3.trans (s4.trans s5)) _ _ e2,rfl⟩;have d2:gG H5 (.ref t2) ("like",.txt (gp r)):=⟨t2,_,rfl,s5 _ _ e4,rfl⟩;have a1:iG (wd,hg,xs) ("shown",.txt (dz wd hg xs)):=Yv (.tell _) WH (fun n=> .shown) fun S=>rfl;have a2:iG (wd,hg,xs) ("like",.txt (gp r)):=Yv (.tell _) Vu (fun n=> .Ej trivial FK r fi) fun S=>rfl;have nw:wd.toNat=xs.length:=.o;clear s1 s2 s3 s4 pK pJ e2 e4 ED qf hL;refine Zj ⟨_,rfl,b,_,_,_,rfl,rfl,aq.of (DE _ _ hb),gF,wd,rfl,.o,.o,?_⟩;refine Yh (n:=wd.toNat) (fun i σ H'=> ∃rs x5 x6,σ=[some (.ref t),some (.bl lb),some (.ref b),some (.ref l),some (.ref L),x5,x6,none]/\ak H H'/\H' L=some (.lst rs)/\Paired (gG H') rs ([(("shown" :Str),RV.txt (dz wd hg xs)),("like",.txt (gp r))]++(List.range i).map (oq hg.toNat xs))/\rs.length=2+i)
   ⟨_,_,_,rfl,DE,e5,.cons d1 (.cons d2 .nil),rfl⟩ ?_ ?_
  ·rintro i σ H6 hi ⟨rs,x5,x6,rfl,s6,e6,pr,hlen⟩;rw[Zcm];refine Zl ?_;dsimp only[List.set];have jw:i<xs.length:=.o;refine Zj (Zu ⟨bH,fun m hm=>Zl ?_⟩);dsimp only[List.set];have k1:=Zk (o:=.lst [V.int 2]) hm;have r1:upd H6 m (.lst [V.int 2]) m=some (.lst [V.int 2]):=Zc;generalize upd H6 m (HO.lst [V.int 2])=H7 at k1 r1 |-;have nX:=k1 _ _ (s6 _ _ hl);refine T.uC (fun ah H'=> ∃u,ah=[some (.ref t),some (.bl lb),some (.ref b),some (.ref l),some (.ref L),some (.int (i:Int)),some u,none]/\ak H7 H'/\iW H' u (wF hg.toNat xs i)) ?_ ?_
   ·rintro ah H8 ⟨u,rfl,k2,ru⟩;have eL:=k2 _ _ (k1 _ _ e6);refine⟨_,rfl,.inl ⟨rfl,_,ao.of eL⟩,_,rfl,_,rfl,ZO .o .o,_,_,rfl,rfl,mC .d (rF .o .o),_,rfl,bo,fun t7 ij=> ?_⟩;have k3:=Zk (o:=.tup [V.str (("free " :Str)++aO (i:Int)),u]) ij;have r3:upd H8 t7 (.tup [V.str (("free " :Str)++aO (i:Int)),u]) t7=some (.tup [V.str (("free " :Str)++aO (i:Int)),u]):=Zc;generalize upd H8 t7 (HO.tup [V.str (("free " :Str)++aO (i:Int)),u])=H9 at k3 r3 |-;have BH:=k3 _ _ eL;have lD:=k1.trans (k2.trans k3);refine⟨L,rs,_,rfl,rfl,BH,by rw[Zaz];omega,Zw ?_⟩;refine⟨_,_,_,rfl,UG (s6.trans lD) nL,Zc,?_,by rw[Zam,hlen];rfl⟩;rw[Zcq,ZaF,<-Zb7];exact YD (Paired.bj pr fun v d h=> (h.same lD).grow BH .o) (.cons (gG.grow ⟨t7,u,rfl,r3,ru.same k3⟩ BH .o) .nil)
   ·intro D' hD;obtain⟨v,hv⟩:∃v,xs[i]? =some v:=⟨_,Zax jw⟩;refine⟨_,rfl,_,rfl,l,xs,(i:Int),v,rfl,rfl,aq.of nX,Ya hv,_,rfl,?_⟩;unfold wF at hD;rcases ly.ok v (ZaC hv) with rfl |⟨r',rfl⟩
    ·rw[ZaG hv]at hD;refine aB (Zu ⟨_,rfl,_,rfl,_,rfl,b,l,i,wd,hg,xs,rfl,bd.same (s6.trans k1),nX,ly,fun r=>He aT i r,hv,fun q1 H8 k2 n2 r2=> ?_⟩);exact .mk q1 _ rfl r2 (Ub .o xs i) fun H9 k3=>Zl (hD _ _ ⟨_,rfl,k2.trans k3,rfl⟩)
    ·rw[ZaD (by rw[hv];intro z;cases z)]at hD;exact az (Zw (hD _ _ ⟨_,rfl,ak.refl _,m,rfl,r1⟩))
  ·rintro σ H6 ⟨rs,x5,x6,rfl,s6,e6,pr,hlen⟩;have asked:∀d∈[(("shown" :Str),RV.txt (dz wd hg xs)),("like",.txt (gp r))]++(List.range wd.toNat).map (oq hg.toNat xs),iG (wd,hg,xs) d:=fun d hd=>by
    rcases Zbf.mp hd with h |h
    ·rcases Zaf.mp h with rfl |h
     ·exact a1
     ·rw[Zar.mp h];exact a2
    ·obtain⟨k,hk,rfl⟩:=Za0.mp h;exact Zb2 w2 ll aT (by rw[<-nw];exact ZbC.mp hk)
   have head:∀es:List Due,(([(("shown" :Str),RV.txt (dz wd hg xs)),("like",.txt (gp r))]++(List.range wd.toNat).map (oq hg.toNat xs))++es).head? =some (("shown" :Str),RV.txt (dz wd hg xs)):=fun es=>rfl;have dl:([(("shown" :Str),RV.txt (dz wd hg xs)),("like",.txt (gp r))]++(List.range wd.toNat).map (oq hg.toNat xs)).length<=14:=by rw[<-Za6 pr];omega
   generalize [(("shown" :Str),RV.txt (dz wd hg xs)),("like",.txt (gp r))]++(List.range wd.toNat).map (oq hg.toNat xs)=ds at pr asked head dl;have wt:=s6 _ _ hb;have two:∀{d1 d2:Due},iG (wd,hg,xs) d1->iG (wd,hg,xs) d2->∀d∈ds++[d1,d2],iG (wd,hg,xs) d:=fun h1 h2 d hd=>by
    rcases Zbf.mp hd with h |h
    ·exact asked d h
    ·rcases Zaf.mp h with rfl |h
     ·exact h1
     ·rw[Zar.mp h];exact h2
   have fin:∀{d1 d2:Due}{l':Addr}{H':Hp}{kW:List V},ak H6 H'->H6 l'=none->H' l'=some (.lst kW)->Paired (gG H') kW (ds++[d1,d2])->iG (wd,hg,xs) d1->iG (wd,hg,xs) d2->Q (.ref l') H':=fun {_ _ _ _ _} s' n' e' p' h1 h2=>q _ _ _ _ (s6.trans s') (s6.free n') e' p' (two h1 h2) (head _) (by rw[Zam];exact ZaL (Nat.add_le_add_right dl 2) .d);have c1:∀{Q':Bool->Hp->Prop},Q' (decide (6<wd)) H6->De (iH (kn fun i j=>V.bl (decide (j<i))) (iH (pM K) (gf 2) (tC (V.int 0))) (tC (V.int 6))) [some (.ref t),some (.bl lb),some (.ref b),some (.ref l),some (.ref L),x5,x6,none] H6 Q':=fun h=> ⟨_,rfl,b,_,_,_,rfl,rfl,aq.of wt,gF,_,_,rfl,rfl,_,rfl,h⟩;refine Zj (c1 ?_);by_cases gr:6<wd∨7<hg
   ·have big:∀D':L2.Ends,D'.rt=Q->xV (iH vw (gf 4) (qV (cq (qU (cq (tC (V.str "many")) (cq (qV (cq (tC (V.int 11)) cZ)) cZ))) (cq (qU (cq (tC (V.str "first")) (cq (qV (cq (tC (V.int 11)) cZ)) cZ))) cZ)))) D' [some (.ref t),some (.bl lb),some (.ref b),some (.ref l),some (.ref L),x5,x6,none] H6:=fun D' hD=>by refine⟨_,rfl,bH,fun m1 lN=> ?_⟩;have k1:=Zk (o:=.lst [V.int 11]) lN;have r1:upd H6 m1 (.lst [V.int 11]) m1=some (.lst [V.int 11]):=Zc;generalize upd H6 m1 (HO.lst [V.int 11])=I1 at k1 r1 |-;refine⟨bo,fun t3 r8=> ?_⟩;have k2:=Zk (o:=.tup [V.str "many",V.ref m1]) r8;have r2:upd I1 t3 (.tup [V.str "many",V.ref m1]) t3=some (.tup [V.str "many",V.ref m1]):=Zc;generalize upd I1 t3 (HO.tup [V.str "many",V.ref m1])=I2 at k2 r2 |-;refine⟨bH,fun m2 eK=> ?_⟩;have k3:=Zk (o:=.lst [V.int 11]) eK;have r3:upd I2 m2 (.lst [V.int 11]) m2=some (.lst [V.int 11]):=Zc;generalize upd I2 m2 (HO.lst [V.int 11])=I3 at k3 r3 |-;refine⟨bo,fun t4 fG=> ?_⟩;have k4:=Zk (o:=.tup [V.str "first",V.ref m2]) fG;have r4:upd I3 t4 (.tup [V.str "first",V.ref m2]) t4=some (.tup [V.str "first",V.ref m2]):=Zc;generalize upd I3 t4 (HO.tup [V.str "first",V.ref m2])=I4 at k4 r4 |-;refine⟨bo,fun M hM=> ?_⟩;have k5:=Zk (o:=.lst [V.ref t3,V.ref t4]) hM;have r5:upd I4 M (.lst [V.ref t3,V.ref t4]) M=some (.lst [V.ref t3,V.ref t4]):=Zc;generalize upd I4 M (HO.lst [V.ref t3,V.ref t4])=I5 at k5 r5 |-;have Ep:=k2.trans (k3.trans (k4.trans k5));have vO:=k1.trans Ep;refine Gx (d1:=("many",.no 11)) (d2:=("first",.no 11)) (vO _ _ e6) (Paired.bj pr fun v d h=>h.same vO) .o ((k3.trans (k4.trans k5)) _ _ r2) ⟨m1,rfl,Ep _ _ r1⟩ (k5 _ _ r4) ⟨m2,rfl,(k4.trans k5) _ _ r3⟩ r5 fun l' H' s' n' e' p'=> ?_;rw[hD];exact fin (vO.trans s') (vO.free n') e' p' (Yv (.no 11) Cs (fun n=> .many gr) fun S=>rfl) (Yv (.no 11) WI (fun n=> .first gr) fun S=>rfl)
    by_cases g6:6<wd
    ·rw[ZaA g6];exact aB (aB (big _ rfl))
    ·rw[Zav g6];refine az ⟨_,rfl,b,_,_,_,rfl,rfl,aq.of wt,dE,_,_,rfl,rfl,_,rfl,?_⟩;rw[ZaA (show 7<hg by omega)];exact aB (big _ rfl)
   ·rw[Zav (show ¬6<wd by omega)];refine az ⟨_,rfl,b,_,_,_,rfl,rfl,aq.of wt,dE,_,_,rfl,rfl,_,rfl,?_⟩;rw[Zav (show ¬7<hg by omega)];refine az (Zw ?_);dsimp only;refine Zj ⟨_,rfl,lb,rfl,?_⟩;have out:Q (.ref L) H6:=q L H6 rs ds s6 nL e6 pr asked (by have:=head [];rwa [Zbx]at this) .o;cases lb with
    |false=>exact aB (aB ⟨_,rfl,out⟩)
    |true=>
     refine az ⟨_,rfl,b,_,_,_,rfl,rfl,aq.of wt,gF,_,_,rfl,rfl,_,rfl,?_⟩;by_cases g5:5<wd
     ·rw[ZaA g5];exact aB ⟨_,rfl,out⟩
     rw[Zav g5];refine az (Zw ?_);dsimp only;refine Zj (Zu ⟨_,rfl,_,rfl,b,l,wd,hg,xs,rfl,bd.same s6,s6 _ _ hl,ly,.o,.o,fun p H7 ts s7 n7 e7 dY=>Zl ?_⟩);dsimp only[List.set];have eH:(hg.toNat:Int)=hg:=.o;have nD:bq wd (hg.toNat:Int) xs:=by rw[eH];exact ly
     have jg:=Za6 dY;have tG:=Jf (hg:=hg.toNat) .o xs (i:=xs.length) .o;have fz:=Uf nD .o .o dY;have am:iG (wd,hg,xs) ("many",.txt (aO ((ba hg.toNat xs xs.length).length:Int))):=Yv (.tell _) Cs (fun n=> .Ak trivial (by show wd<=6;omega) (by show hg<=7;omega)) fun S=>rfl;have af:iG (wd,hg,xs) ("first",.txt (dB (ba hg.toNat xs xs.length))):=Yv (.tell _) WI (fun n=> .BB trivial (by show wd<=6;omega) (by show hg<=7;omega)) fun S=>rfl;generalize ba hg.toNat xs xs.length=Fs at dY jg tG fz am af;refine⟨_,rfl,_,rfl,p,ts,rfl,.inl (ao.of e7),_,rfl,?_,?_⟩
     ·rw[jg];exact Co tG
     rw[jg];refine⟨bo,fun t3 r8=> ?_⟩;have k1:=Zk (o:=.tup [V.str "many",V.str (aO (Fs.length:Int))]) r8;have r1:upd H7 t3 (.tup [V.str "many",V.str (aO (Fs.length:Int))]) t3=some (.tup [V.str "many",V.str (aO (Fs.length:Int))]):=Zc;generalize upd H7 t3 (HO.tup [V.str "many",V.str (aO (Fs.length:Int))])=I1 at k1 r1 |-;have Qt:xq I1 ts (dB Fs):=by
      rcases fz with h |⟨t,r,ns,h1,h2,h3,h4⟩
      ·exact .inl h
      ·exact .inr ⟨t,r,ns,h1,k1 _ _ h2,h3,h4⟩
     refine Cg (Pz:=fun z=>z=dB Fs) (fun Q' hq=> ⟨_,rfl,hq p I1 ts _ (ak.refl _) (k1 _ _ e7) .o Qt rfl⟩) fun z I2 hz k2=> ?_;subst hz;refine⟨bo,fun t4 fG=> ?_⟩;have k3:=Zk (o:=.tup [V.str "first",V.str (dB Fs)]) fG;have r3:upd I2 t4 (.tup [V.str "first",V.str (dB Fs)]) t4=some (.tup [V.str "first",V.str (dB Fs)]):=Zc;generalize upd I2 t4 (HO.tup [V.str "first",V.str (dB Fs)])=I3 at k3 r3 |-;refine⟨bo,fun M hM=> ?_⟩;have k4:=Zk (o:=.lst [V.ref t3,V.ref t4]) hM;have r4:upd I3 M (.lst [V.ref t3,V.ref t4]) M=some (.lst [V.ref t3,V.ref t4]):=Zc;generalize upd I3 M (HO.lst [V.ref t3,V.ref t4])=I4 at k4 r4 |-;have Er:=k2.trans (k3.trans k4);have qc:=s7.trans (k1.trans Er);exact Gx (d1:=("many",.txt (aO (Fs.length:Int)))) (d2:=("first",.txt (dB Fs))) (qc _ _ e6) (Paired.bj pr fun v d h=>h.same qc) .o (Er _ _ r1) rfl (k4 _ _ r3) rfl r4 fun l' H' s' n' e' p'=>fin (qc.trans s') (qc.free n') e' p' am af
end
section
variable {D L Pg a:Addr}{H H':Hp}{S:List aY}
theorem Dk.F0 {v:V}{r:RV}(k:Dk D L Pg H a S)(ne:S≠[])(h:iW H v r)(f:Fr [L,Pg] H H'):iW H' v r:=by
 cases r with
 |txt z=>exact h
 |no i=>
  obtain⟨l,e,hl⟩:=h;refine⟨l,e,f _ _ hl fun m=> ?_⟩;rcases Zaf.mp m with rfl |m
  ·obtain⟨us,⟨dx,_,hL⟩,pr⟩:=k.d;rw[hl]at hL;injection hL with hL;injection hL with hL;cases pr with
   |nil=>exact ne rfl
   | @cons u s us S hu pr=>
    obtain⟨t,_,_,rfl,_⟩:=hu;have:V.ref t∈[V.int (i:Int)]:=by rw[hL];simp
    rw[Zar]at this;cases this
  ·obtain⟨ps,e2⟩:=k.hP;rw[Zar.mp m,e2]at hl;cases hl
theorem Dk.tup {l:Addr}{ys:List V}(k:Dk D L Pg H a S)(h:H l=some (.tup ys))(f:Fr [L,Pg] H H'):H' l=some (.tup ys):=f _ _ h fun m=>by
 rcases Zaf.mp m with rfl |m
 ·obtain⟨vs,e⟩:=k.hL;rw[h]at e;cases e
 ·obtain⟨ps,e2⟩:=k.hP;rw[Zar.mp m,e2]at h;cases h
theorem JV {v u:V}{r:RV}(h:iZ L Pg H v r)(h':iW H u r):Cz H v u:=by
 cases r with
 |no i=>obtain⟨l,e,_,hl⟩:=h;obtain⟨m,e',hm⟩:=h';exact .one l m i e e' hl hm
 |txt z=>exact .str z h h'
end
section
variable {P:Program}{w:World}{K:ZgE}{mg:Str->Option Value}{base:Heap}{D Pg:Addr}
abbrev za:Stmt:=top 79
abbrev pS:List Str:=["_law_desk", "_law_kept", "_law_last"]
theorem LK:aH pS pS (ay za):=Zz (by decide+kernel)
inductive uL (D Pg:Addr) (vs:List V) (H:Hp) (Q:VK) (E:XK):Prop
 |mk (a L:Addr) (kv:V) (b:Bool) (s:aY) (S:List aY) (ev:vs=[.ref a,kv,.bl b]) (dk:Dk D L Pg H a (s::S)) (sv:j6 H kv s) (aT:cnt s.2.2<=10) (FJ:S.length<=900) (q:∀H',Fr [L,Pg] H H'->Dk D L Pg H' a (s::S)->Q (.bl true) H')
theorem Sy {f:Addr}{fd:FuncData}(F:aE K "_law_stand" "_law_stand" za f fd)(mj:Def P w K mg base 104 "_law_dues" ["_law_kept", "_law_last"] pd)(fV:Def P w K mg base 118 "_law_said" fA (kg D Pg)):aw P w K mg base aF 119 f fd pS (uL D Pg):=by
 refine F.ok LK (fun vs H Q E h=> ?_) (fun cdv A outer s H vs Q E hr h=> ?_)
 ·obtain⟨a,L,kv,b,s,S,rfl,_⟩:=h;rfl
 ·obtain⟨a,L,kv,b,s,S,rfl,dk,sv,aT,FJ,q⟩:=h;have hu:=hr.units;refine⟨_,Zg (Zo (Y1 (T9 hr.xH) (ZZ ["_law_line", "_law_due", "_law_desk"] 2 [0] (ZW (Zh mj (hr.mono .d) (Za (pv 1) (Za (pv 2) Zb))))
   (fun C s H fp=>show PG (aK _ _ _ C s H fp) _ (jV K 2 (cH (bQ 0) (cH (bQ 1) jW))) from Z3 rfl (Zm (pb 0) (Zm (pb 1) ZS)))
   (fun C s H fp=>Yk (ZA (show aZ (aK _ _ _ C s H fp) (compareOp .NotEq) (fun x y H Q=>Cz H x y/\Q (.bl false) H) from Jv (ZdB (ZdX (by decide:1<=64) _) hu)) (Zh fV hr (Za (pv 2) (Za (pv 0) Zb))) (pv 1) (bJ _)))
   (fun C s H fp D=>cz rfl (pv 0))) (ZH Zb) (bJ _))),?_⟩
  refine⟨_,rfl,_,rfl,.mk kv b s rfl sv aT fun l H1 rs ds s1 nl e1 pr asked hd hl=> ?_⟩;have l6:=dk.same s1;have nL:=dk.rH (xs:=[]) nl;refine⟨l,rfl,⟨rs,ao.of e1⟩,?_⟩;refine ZQ (xs:=rs) (fun j ys ah H'=>ys=[]/\Dk D L Pg H' a (s::S)/\Fr [L,Pg] H1 H'/\∃v0 v1,ah=[v0,v1,some (.ref a)]) ⟨rfl,l6,.refl,_,_,rfl⟩ (fun j ys ah H' _ ⟨_,_,f',_⟩=>ao.of (f' _ _ e1 nL)) ?_ ?_
  ·rintro j y ys ah H' hy ⟨rfl,tO,f',v0,v1,rfl⟩;obtain⟨d,hd,t,u,rfl,ht,jO⟩:=JF pr hy;obtain⟨hz,o,sy,eo,ko⟩:=asked d (ZaC hd);refine⟨t,_,rfl,aq.of (l6.tup ht f'),rfl,_,_,rfl,_,_,rfl,rfl,?_⟩;refine⟨_,rfl,_,rfl,Wo tO ⟨hz,FJ,.inr (sy _)⟩ fun v H2 f2 qA an=> ?_⟩;rw[ko]at qA;rw[eo]at an;have FP:=f'.trans f2;exact⟨_,rfl,JV an (l6.F0 (fun z=>by cases z) jO FP),_,rfl,az ⟨rfl,qA,FP,_,_,rfl⟩⟩
  ·rintro ys ah H2 ⟨rfl,qA,f2,v0,v1,rfl⟩ p hp;refine⟨ZaP _,fun p2 gw=> ?_⟩;have k1:=Zk (o:=.lst []) hp;have k2:=Zk (o:=.lst []) gw;exact⟨p,p2,[],rfl,rfl,ao.of (k2 _ _ Zc),ao.of Zc,q _ ((Fr.same s1).trans (f2.trans (.same (k1.trans k2)))) (qA.same (k1.trans k2))⟩
end
section
variable {K:ZgE}{D L Pg a c:Addr}{H:Hp}{S S':List aY}{zs:List Str}{rs:List RV}{xs:List V}{C5:L2.St}{Q:List V->L2.St->Hp->Prop}
theorem Zc0 (dk:Dk D L Pg H a S)(rn:Run S zs rs S')(zl:zs.length<=1000)(e:H c=some (.lst (zs.map V.str)))(n:c∉[L,Pg])(jl:∃v,C5=[v,some (.ref a)])(q:∀ys ah H',Paired (iZ L Pg H') ys rs->Dk D L Pg H' a S'->Fr [L,Pg] H H'->Q ys ah H'):
  gZ (bQ 0) mw (uD (kJ (kg D Pg) [] E0 (cq (gf 1) (cq (gf 0) cZ)))) (oQ K c) [] C5 H Q:=by
 refine ZQ (xs:=zs.map V.str) (fun j ys ah H'=>ma D L Pg a H zs rs S' j ys H'/\ys.length=j/\∃v,ah=[v,some (.ref a)]) ⟨.start dk rn,rfl,jl⟩ (fun j ys ah H' _ ⟨⟨_,_,_,_,_,_,_,f'⟩,_⟩=>ao.of (f' _ _ e n)) ?_ ?_
 ·rintro j y ys ah H' hy ⟨ri,hlen,v,rfl⟩;rw[Zbi]at hy;obtain⟨z,hz,rfl⟩:=Za2.mp hy;obtain⟨s1,S1,o,tO,sy,nx⟩:=ri.step hz;have hj:=(Zaa.mp hz).1;refine⟨_,rfl,_,rfl,Wo tO sy fun v' H2 f2 d2 an=> ⟨?_,nx v' H2 f2 d2 an,?_,_,rfl⟩⟩
  ·rw[Zaz];omega
  ·rw[Zam,hlen];rfl
 ·rintro ys ah H' ⟨ri,_,v,rfl⟩;rw[Zae]at ri;obtain⟨pr,tO,f'⟩:=ri.done;exact q ys _ H' pr tO f'
end
theorem Ce {K:ZgE}{L Pg:Addr}{H:Hp} :∀{xs ys:List V}{rs:List RV},Paired (iZ L Pg H) xs rs->Paired (iW H) ys rs->Paired (xr K H) xs ys
 |_,_,_,.nil,.nil=> .nil
 |_,_,_, @Paired.cons _ _ _ x r _ _ h1 t1,.cons h2 t2=> .cons (by
  cases r with
  |no i=>obtain⟨l,rfl,_,hl⟩:=h1;obtain⟨m,rfl,hm⟩:=h2;exact .inr (.inr ⟨l,m,[(i:Int)],rfl,rfl,ao.of hl,ao.of hm⟩)
  |txt z=>exact .inl ⟨z,h1,h2⟩) (Ce t1 t2)
theorem GJ {L Pg:Addr}{H H':Hp}{xs:List V}{rs:List RV}(h:Paired (iZ L Pg H) xs rs)(f:Fr [L,Pg] H H'):Paired (iZ L Pg H') xs rs:=Paired.bj h fun _ _ q=>q.fr f
abbrev oo:List Str:=["board 6 7", "put 0 0", "put 1 2", "put 2 1", "put 3 5"]
abbrev fh:List V:=[.int 0,.int 2,.int 1,.int 5,.ag,.ag]
theorem RW:∃T,Run S1 oo (rep 5) ((6,7,fh)::T)/\T.length=5:=by refine⟨[(6,7,[.int 0,.int 2,.int 1,.ag,.ag,.ag]),(6,7,[.int 0,.int 2,.ag,.ag,.ag,.ag]),(6,7,[.int 0,.ag,.ag,.ag,.ag,.ag]),(6,7,[.ag,.ag,.ag,.ag,.ag,.ag]),(1,1,[.ag])],?_,rfl⟩;refine .cons (o:=.push 6 7 (List.replicate (6:Int).toNat .ag)) (Z7 (W:= "board") (N:=[.int 6,.int 7]) .d (by decide+kernel) (.wX 6 7 .d .d .d .d)) ?_;refine .cons (o:=.push 6 7 _) (Z7 (W:= "put") (N:=[.int 0,.int 0]) .d (by decide+kernel) (.put 0 0 .d .d .d .d .d)) ?_;refine .cons (o:=.push 6 7 _) (Z7 (W:= "put") (N:=[.int 1,.int 2]) .d (by decide+kernel) (.put 1 2 .d .d .d .d .d)) ?_;refine .cons (o:=.push 6 7 _) (Z7 (W:= "put") (N:=[.int 2,.int 1]) .d (by decide+kernel) (.put 2 1 .d .d .d .d .d)) ?_;exact .cons (o:=.push 6 7 _) (Z7 (W:= "put") (N:=[.int 3,.int 5]) .d (by decide+kernel) (.put 3 5 .d .d .d .d .d)) (.nil _)
theorem GA:∀n:Nat,∀H:Hp,Paired (iW H) (List.replicate n [V.str "ok"]).flatten (rep n)
 |0,H=> .nil
 |n+1,H=> .cons rfl (GA n H)
section
variable {P:Program}{w:World}{K:ZgE}{mg:Str->Option Value}{base:Heap}{D Pg:Addr}
abbrev vk:Stmt:=top 80
abbrev Np:List Str:=["_law_desk", "_law_lay", "_law_told", "_law_some", "_law_due"]
theorem pj:aH Np [] (ay vk):=Zz (by decide+kernel)
inductive yu (Pg:Addr) (vs:List V) (H:Hp) (Q:VK) (E:XK):Prop
 |mk (ev:vs=[]) (tab:TabAt H Pg iJ) (q:∀H',aV Pg H H'->TabAt H' Pg iJ->Q (.bl true) H')
theorem Sl {f:Addr}{fd:FuncData}(F:aE K "_law_great_right" "_law_great_right" vk f fd)(G:Gs mg){fI:Addr}{qz:FuncData}(MD:Mk K D fI)(mD:mg "Desk" =some (.ref D))(FI:aw P w K mg base aF 1 fI qz ["self"] (uR D))(bI:Binds K qz ["self"] [])
  (fV:Def P w K mg base 118 "_law_said" fA (kg D Pg)) (CY:Def P w K mg base 103 "_law_fits" ["_law_board", "_law_lay"] kP) (oS:Def P w K mg base 1 "_law_words" nz rg):aw P w K mg base aF 119 f fd [] (yu Pg):=by
 refine F.ok pj (fun vs H Q E h=> ?_) (fun cdv A outer s H vs Q E hr h=> ?_)
 ·obtain⟨rfl,_⟩:=h;rfl
 ·obtain⟨rfl,tab,q⟩:=h;have gU:(A.deeper (envOfC "_law_great_right" (ay vk) s.heap.objs.size f cdv)).units+1<cLine:=W8 hr;refine⟨_,Ze (Yp (Zt (ZT (WM MD FI (hr.mono .d) rfl mD bI .nil rC) (Za (Zt (Za Zf (Za Zf (Za Zf (Za Zf (Za Yb (Za Yb Zb))))))) Zb))) (Z3 rfl (Zm (Zx (i:=0) pj.nd rfl (Or.inr rfl)) (Zm (Zx (i:=1) pj.nd rfl (Or.inl rfl)) ZS))))
   (Ze (Y0 ["_law_line", "_law_desk"] 1 [0] (i:=2) pj.nd rfl (Or.inl rfl) (ZW (ZH (Za Zr (Za Zr (Za Zr (Za Zr (Za Zr Zb))))))) (fun C s H fp=>pb 0) (fun C s H fp=>Z1) (fun C s H fp D=>cz rfl (Zh fV hr (Za (pv 1) (Za (pv 0) Zb)))))
   (Ze (ZF (i:=3) pj.nd rfl (Or.inl rfl) (Zh CY (hr.mono .d) (Za (Zt (Za Zf (Za Zf Zb))) (Za (pv 1) Zb))))
   (Ze (ZF (i:=4) pj.nd rfl (Or.inl rfl) (ZH (ZT (ZD Zv rfl G.str PyProof.Rows.Boot.«str» (Za (Zn ZG rfl G.len ZdE (Za (pv 3) Zb)) Zb)) (ZT (Zh oS (hr.mono .d) (Za (Zq Zs (Zp YE (pv 3) (ZH (Za (Zt Zb) Zb))) Zf (fun _ _=>rfl)) Zb)) Zb))))
   (Zg (Zo (Jt (Y1 (GW gU) (pv 2) (Zp Tv (ZH (Za Zr Zb)) Zf) (bJ _)) (YN (Y1 (GW gU) (ZH (ZT (Zh fV hr (Za (pv 0) (Za Zr Zb))) (ZT (Zh fV hr (Za (pv 0) (Za Zr Zb))) Zb))) (pv 4) (bJ _))))))))),?_⟩
  refine Zj (Zu fun a dx na nx ne=> ?_);have k1:ak H (upd (upd H dx (.own a)) a (.ins D dx [])):=fun q o h=>by rw[Zi (Zd h na),Zi (Zd h nx)];exact h
  have e1:upd (upd H dx (.own a)) a (.ins D dx []) a=some (.ins D dx []):=Zc;generalize upd (upd H dx (HO.own a)) a (HO.ins D dx [])=H1 at k1 e1 |-;refine .mk a dx rfl e1 fun L v H2 nL x2 d2 s2=> ⟨rfl,?_⟩;have k2:ak H H2:=fun q o h=>x2 _ _ (k1 _ _ h) (Zd h na);have pT:H L=none:=k1.free nL;have xS:=YR tab k2;have qA:Dk D L Pg H2 a S1:=⟨⟨[v],d2,.cons s2 .nil⟩,xS⟩;clear k1 e1 na nx ne nL x2 d2 s2;refine⟨Ln,fun l hl=> ⟨bo,fun tt EA=> ?_⟩⟩;have k3:=Zk (o:=.tup fh) hl;have e3:upd H2 l (.tup fh) l=some (.tup fh):=Zc;generalize upd H2 l (HO.tup fh)=H3 at k3 e3 EA |-;have k4:=Zk (o:=.tup [V.ref a,V.ref l]) EA;have e4:upd H3 tt (.tup [V.ref a,V.ref l]) tt=some (.tup [V.ref a,V.ref l]):=Zc;generalize upd H3 tt (HO.tup [V.ref a,V.ref l])=H4 at k4 e4 |-;refine⟨tt,_,rfl,aq.of e4,rfl,_,_,rfl,_,_,rfl,rfl,?_⟩;dsimp only[List.set];have Eo:=k3.trans k4;have BM:=qA.same Eo;have e34:=k4 _ _ e3;refine Zj (Zu ⟨Lo,fun c1 Fi=> ?_⟩);have k5:=Zk (o:=.lst (oo.map V.str)) Fi;have e5:upd H4 c1 (.lst (oo.map V.str)) c1=some (.lst (oo.map V.str)):=Zc;have nc:=BM.rH (xs:=[]) Fi;have eq:(HO.lst [V.str "board 6 7",V.str "put 0 0",V.str "put 1 2",V.str "put 2 1",V.str "put 3 5"])=.lst (oo.map V.str):=rfl;rw[eq];generalize upd H4 c1 (HO.lst (oo.map V.str))=H5 at k5 e5 |-;obtain⟨T,rn,lT⟩:=RW;refine⟨c1,rfl,⟨_,ao.of e5⟩,?_⟩;refine Zc0 (zs:=oo) (BM.same k5) rn .d e5 nc ⟨none,rfl⟩ fun ys ah H6 pr F3 f6 c2 df=> ?_;have k7:=Zk (o:=.lst ys) df;have e7:upd H6 c2 (.lst ys) c2=some (.lst ys):=Zc;have nc2:=F3.rH (xs:=[]) df;generalize upd H6 c2 (HO.lst ys)=H7 at k7 e7 |-;refine Zl ?_;dsimp only[List.set];have BK:=F3.same k7;have dY:=GJ pr (Fr.same k7);have F27:Fr [L,Pg] H2 H7:=(Fr.same (Eo.trans k5)).trans (f6.trans (.same k7));have QH:=k7 _ _ ((BM.same k5).tup (k5 _ _ e34) f6);refine Zj (Zu ⟨bo,fun b hb=> ⟨_,rfl,?_⟩⟩);have k8:=Zk (o:=.tup [V.int 6,V.int 7]) hb;have e8:upd H7 b (.tup [V.int 6,V.int 7]) b=some (.tup [V.int 6,V.int 7]):=Zc;generalize upd H7 b (HO.tup [V.int 6,V.int 7])=H8 at k8 e8 |-;have ly:bq 6 7 fh:=by
   obtain⟨us,_,pr⟩:=BK.d;cases pr with
   |cons hs _=>obtain⟨_,_,_,_,_,_,_,h⟩:=hs;exact h
  refine⟨b,l,6,7,fh,rfl,⟨ZI e8,.d,.d,.d,.d⟩,k8 _ _ QH,ly,.d,.d,fun p H9 ts s9 n9 e9 kq=>Zl ?_⟩;dsimp only[List.set];have jg:=Za6 kq;have tG:=Jf (hg:=(7:Int).toNat) .d fh (i:=fh.length) .d;have fz:=Uf (hg:=(7:Int).toNat) ly .d .d kq;have sm:qJ (6,7,fh) T "many" (.tell (aO ((ba (7:Int).toNat fh fh.length).length:Int))):=Z7 .o Cs (.Ak trivial .d .d);have sf:qJ (6,7,fh) T "first" (.tell (dB (ba (7:Int).toNat fh fh.length))):=Z7 .o WI (.BB trivial .d .d);generalize ba (7:Int).toNat fh fh.length=Fs at kq jg tG fz sm sf;refine Zj (Zu ⟨_,rfl,p,ts,rfl,.inl (ao.of e9),_,rfl,?_,?_⟩)
  ·rw[jg];exact Co tG
  rw[jg];refine Cg (Pz:=fun z=>z=dB Fs) (fun Q' hq=> ⟨_,rfl,hq p H9 ts _ (ak.refl _) e9 .o fz rfl⟩) fun z mh hz Ax=> ?_;subst hz;refine⟨bo,fun m hm=>Zl ?_⟩;dsimp only[List.set];have vP:=Zk (o:=.lst [V.str (aO (Fs.length:Int)),V.str (dB Fs)]) hm;have e11:upd mh m (.lst [V.str (aO (Fs.length:Int)),V.str (dB Fs)]) m=some (.lst [V.str (aO (Fs.length:Int)),V.str (dB Fs)]):=Zc;have s7:=k8.trans (s9.trans Ax);have nm:=(BK.same s7).rH (xs:=[]) hm;generalize upd mh m (HO.lst [V.str (aO (Fs.length:Int)),V.str (dB Fs)])=xp at vP e11 |-;have L9:=s7.trans vP;refine⟨_,rfl,bH,fun m2 eK=> ?_⟩;have rS:=Zk (o:=.lst [V.str "ok"]) eK;have e12:upd xp m2 (.lst [V.str "ok"]) m2=some (.lst [V.str "ok"]):=Zc;generalize upd xp m2 (HO.lst [V.str "ok"])=CM at rS e12 |-;refine⟨m2,5,_,rfl,rfl,e12,.d,.d,(by show 1*5<=sizeLine;decide),fun m3 js=> ?_⟩;have lD:=Zk (o:=.lst (List.replicate (5:Int).toNat [V.str "ok"]).flatten) js;have e13:upd CM m3 (.lst (List.replicate (5:Int).toNat [V.str "ok"]).flatten) m3=some (.lst (List.replicate (5:Int).toNat [V.str "ok"]).flatten):=Zc;generalize upd CM m3 (HO.lst (List.replicate (5:Int).toNat [V.str "ok"]).flatten)=H13 at lD e13 |-;have vn:=L9.trans (rS.trans lD);have QU:=BK.same vn;have QL:=(rS.trans lD) _ _ e11;refine⟨c2,m3,_,_,rfl,rfl,ao.of (vn _ _ e7),ao.of e13,Ce (GJ dY (Fr.same vn)) (GA 5 _),true,rfl,aB ?_⟩;refine⟨_,rfl,Wo QU sm fun v1 H14 QA QT a14=> ?_⟩;refine⟨_,rfl,Wo QT sf fun v2 IU FN QS a15=> ?_⟩;refine⟨bo,fun m4 O2=> ⟨_,rfl,?_⟩⟩;have qb:=Zk (o:=.lst [v1,v2]) O2;have e16:upd IU m4 (.lst [v1,v2]) m4=some (.lst [v1,v2]):=Zc;generalize upd IU m4 (HO.lst [v1,v2])=IT at qb e16 |-;have FO:=QA.trans FN;have e17:=qb _ _ (FO _ _ QL nm);refine⟨m4,m,_,_,rfl,rfl,ao.of e16,ao.of e17,Ce (L:=L) (Pg:=Pg) (rs:=[.txt (aO (Fs.length:Int)),.txt (dB Fs)]) (.cons ((a14.fr FN).fr (.same qb)) (.cons (a15.fr (.same qb)) .nil)) (.cons rfl (.cons rfl .nil)),?_⟩;have aaj:Fr [L,Pg] H IT:=(Fr.same k2).trans (F27.trans ((Fr.same vn).trans (FO.trans (.same qb))));exact q IT (fun q' o h n=>aaj q' o h fun m'=>by
   rcases Zaf.mp m' with rfl |m'
   ·rw[pT]at h;cases h
   ·exact n (Zar.mp m')) (QS.same qb).tab
end
inductive iV (H:Hp) (r:Addr) (R:List aY):Prop
 |mk (vs:List V) (h:H r=some (.lst vs.reverse)) (pr:Paired (j6 H) vs R)
structure W2 (K:ZgE)(D Pg a0 p dl rl:Addr)(ns:List Int)(a L r:Nat->Addr)(H:Hp)(S R:Nat->List aY):Prop where
 sc:fk K H a0 ns
 st:jG H p
 hd:H dl=some (.lst [.ref (a 0),.ref (a 1)])
 hr:H rl=some (.lst [.ref (r 0),.ref (r 1)])
 d:∀i,i<2->Dk D (L i) Pg H (a i) (S i)
 w:∀i,i<2->iV H (r i) (R i)
 n0:p≠dl/\p≠rl/\dl≠rl
 n1:∀i,i<2->p≠L i/\dl≠L i/\rl≠L i/\p≠r i/\dl≠r i/\rl≠r i
 n2:∀i j,i<2->j<2->L i≠r j
 n3:∀i j,i<2->j<2->i≠j->L i≠L j/\r i≠r j
def put (S:Nat->List aY)(i:Nat)(T:List aY):Nat->List aY:=fun j=>if j=i then T else S j
theorem YZ {S:Nat->List aY}{i:Nat}{T:List aY} :put S i T i=T:=ZaG rfl
theorem WK {S:Nat->List aY}{i j:Nat}{T:List aY}(h:j≠i):put S i T j=S j:=ZaD h
theorem YU {S:Nat->List aY}{i:Nat}{T:List aY}(h:S i=T):put S i T=S:=by
 funext j;by_cases e:j=i
 ·rw[e,YZ,h]
 ·exact WK e
section
variable {K:ZgE}{D Pg a0 p dl rl:Addr}{ns:List Int}{a L r:Nat->Addr}{H H':Hp}{S R:Nat->List aY}{i:Nat}{T:List aY}
theorem W2.tab (W:W2 K D Pg a0 p dl rl ns a L r H S R):TabAt H Pg iJ:=(W.d 0 .d).tab
theorem xc {ex:List Addr}(f:Fr ex H H')(k:∀q∈ex,(∃ys,H q=some (.lst ys))∨∃ps,H q=some (.bM ps)){b:Addr}{o:HO}(hb:H b=some o)(n1:∀ys,o≠.lst ys)(n2:∀ps,o≠.bM ps):H' b=some o:=f _ _ hb fun m=>by
 rcases k b m with ⟨ys,e⟩ |⟨ps,e⟩<;>rw[hb]at e
 ·exact n1 _ (Za3 e)
 ·exact n2 _ (Za3 e)
theorem iV.fr {ex:List Addr}{q:Addr}(w:iV H q T)(f:Fr ex H H')(k:∀q∈ex,(∃ys,H q=some (.lst ys))∨∃ps,H q=some (.bM ps))(n:q∉ex):iV H' q T:=by obtain⟨vs,h,pr⟩:=w;exact⟨vs,f _ _ h n,Paired.bj pr fun v s x=>x.keep fun b ys e=>xc f k e (fun _ z=>by cases z) fun _ z=>by cases z⟩
theorem Dk.other {ex:List Addr}{Lj aj:Addr}(d:Dk D Lj Pg H aj T)(f:Fr ex H H')(k:∀q∈ex,(∃ys,H q=some (.lst ys))∨∃ps,H q=some (.bM ps))(n:Lj∉ex)(tb:TabAt H' Pg iJ):Dk D Lj Pg H' aj T:=by obtain⟨⟨us,⟨dx,ha,hL⟩,pr⟩,_⟩:=d;exact⟨⟨us,⟨dx,xc f k ha (fun _ z=>by cases z) (fun _ z=>by cases z),f _ _ hL n⟩,Yu pr fun b ys e=>xc f k e (fun _ z=>by cases z) fun _ z=>by cases z⟩,tb⟩
theorem U9 {ex:List Addr}(h:fk K H a0 ns)(f:Fr ex H H')(k:∀q∈ex,(∃ys,H q=some (.lst ys))∨∃ps,H q=some (.bM ps)):fk K H' a0 ns:=by
 rcases h with ⟨o,h⟩ |h
 ·exact .inl ⟨o,xc f k h (fun _ z=>by cases z) fun _ z=>by cases z⟩
 ·exact .inr h
theorem U7 {q:Addr}{ys:List V}(h:TabAt H Pg iJ)(e:H q=some (.lst ys))(s:aV q H H'):TabAt H' Pg iJ:=Gw h s e (fun _ z=>by cases z) fun _ z=>by cases z
theorem W2.same (W:W2 K D Pg a0 p dl rl ns a L r H S R)(s:ak H H'):W2 K D Pg a0 p dl rl ns a L r H' S R:=
 ⟨W.sc.same s,W.st.yK s,s _ _ W.hd,s _ _ W.hr,fun i hi=> (W.d i hi).same s,fun i hi=> (W.w i hi).fr (ex:=[]) (.same s) (fun q m=>by cases m) (by simp),W.n0,W.n1,W.n2,W.n3⟩
theorem ng {x y:Addr}(h:x≠y):x∉[y]:=fun m=>h (Zar.mp m)
theorem W2.Na (W:W2 K D Pg a0 p dl rl ns a L r H S R){q:Addr}{ys:List V}(h:H q=some (.lst ys)):q≠Pg:=fun z=>by obtain⟨ps,e,_⟩:=W.tab;rw[z,e]at h;cases h
theorem W2.sp (W:W2 K D Pg a0 p dl rl ns a L r H S R)(s:aV p H H')(st:jG H' p):W2 K D Pg a0 p dl rl ns a L r H' S R:=by
 obtain⟨u,v,e,_⟩:=W.st;have f:Fr [p] H H':=.of s (by simp);have k:∀q∈[p],(∃ys,H q=some (.lst ys))∨∃ps,H q=some (.bM ps):=fun q m=>by rw[Zar.mp m];exact .inl ⟨_,e⟩
 have tb:=U7 W.tab e s;exact⟨U9 W.sc f k,st,s _ _ W.hd W.n0.1.symm,s _ _ W.hr W.n0.2.1.symm,fun i hi=> (W.d i hi).other f k (ng (W.n1 i hi).1.symm) tb,fun i hi=> (W.w i hi).fr f k (ng (W.n1 i hi).2.2.2.1.symm),W.n0,W.n1,W.n2,W.n3⟩
theorem W2.jK (W:W2 K D Pg a0 p dl rl ns a L r H S R)(hi:i<2)(f:Fr [L i,Pg] H H')(dk:Dk D (L i) Pg H' (a i) T):W2 K D Pg a0 p dl rl ns a L r H' (put S i T) R:=by
 obtain⟨vs,e⟩:=(W.d i hi).hL;obtain⟨ps,eP⟩:=(W.d i hi).hP;have k:∀q∈[L i,Pg],(∃ys,H q=some (.lst ys))∨∃ps,H q=some (.bM ps):=fun q m=>by
  rcases Zaf.mp m with rfl |m
  ·exact .inl ⟨_,e⟩
  ·rw[Zar.mp m];exact .inr ⟨_,eP⟩
 have nn:∀{q:Addr}{ys:List V},H q=some (.lst ys)->q≠L i->q∉[L i,Pg]:=fun h n m=>by
  rcases Zaf.mp m with z |m
  ·exact n z
  ·exact W.Na h (Zar.mp m)
 obtain⟨u,v,ep,hp⟩:=W.st;obtain⟨m1,m2,m3,_⟩:=W.n1 i hi;refine⟨U9 W.sc f k,⟨u,v,f _ _ ep (nn ep m1),hp⟩,f _ _ W.hd (nn W.hd m2),f _ _ W.hr (nn W.hr m3),fun j hj=> ?_,fun j hj=> ?_,W.n0,W.n1,W.n2,W.n3⟩
 ·by_cases ej:j=i
  ·subst ej;rw[YZ];exact dk
  ·rw[WK ej];obtain⟨ys,ey⟩:=(W.d j hj).hL;exact(W.d j hj).other f k (nn ey (W.n3 j i hj hi ej).1) dk.tab
 ·have w:=W.w j hj;obtain⟨ys,ey,_⟩:=id w;exact w.fr f k (nn ey (W.n2 i j hi hj).symm)
theorem W2.row (W:W2 K D Pg a0 p dl rl ns a L r H S R)(hi:i<2)(s:aV (r i) H H')(w:iV H' (r i) T):W2 K D Pg a0 p dl rl ns a L r H' S (put R i T):=by
 obtain⟨vs,e,_⟩:=W.w i hi;have f:Fr [r i] H H':=.of s (by simp);have k:∀q∈[r i],(∃ys,H q=some (.lst ys))∨∃ps,H q=some (.bM ps):=fun q m=>by rw[Zar.mp m];exact .inl ⟨_,e⟩
 have tb:=U7 W.tab e s;obtain⟨u,v,ep,hp⟩:=W.st;obtain⟨_,_,_,m4,m5,m6⟩:=W.n1 i hi;refine⟨U9 W.sc f k,⟨u,v,s _ _ ep m4,hp⟩,s _ _ W.hd m5,s _ _ W.hr m6,fun j hj=> (W.d j hj).other f k (ng (W.n2 j i hj hi)) tb,fun j hj=> ?_,W.n0,W.n1,W.n2,W.n3⟩;by_cases ej:j=i
 ·subst ej;rw[YZ];exact w
 ·rw[WK ej];exact(W.w j hj).fr f k (ng (W.n3 j i hj hi ej).2)
theorem W2.list {q:Addr}(W:W2 K D Pg a0 p dl rl ns a L r H S R)(hi:i<2)(w:iV H q T)(nq:q≠p/\q≠dl/\q≠rl/\∀j,j<2->q≠L j/\q≠r j):W2 K D Pg a0 p dl rl ns a L (fun j=>if j=i then q else r j) (upd H rl (.lst ([V.ref (r 0),V.ref (r 1)].set i (.ref q)))) S (put R i T):=by
 have s:aV rl H (upd H rl (.lst ([V.ref (r 0),V.ref (r 1)].set i (.ref q)))):=aV.upd;have e2:upd H rl (.lst ([V.ref (r 0),V.ref (r 1)].set i (.ref q))) rl=some (.lst ([V.ref (r 0),V.ref (r 1)].set i (.ref q))):=Zc;generalize upd H rl (.lst ([V.ref (r 0),V.ref (r 1)].set i (.ref q)))=H2 at s e2 |-;have f:Fr [rl] H H2:=.of s (by simp);have k:∀q∈[rl],(∃ys,H q=some (.lst ys))∨∃ps,H q=some (.bM ps):=fun q m=>by rw[Zar.mp m];exact .inl ⟨_,W.hr⟩
 have tb:=U7 W.tab W.hr s;obtain⟨u,v,ep,hp⟩:=W.st;obtain⟨q1,q2,q3,q4⟩:=nq;have rj:∀j,(fun j=>if j=i then q else r j) j=if j=i then q else r j:=fun _=>rfl
 refine⟨U9 W.sc f k,⟨u,v,s _ _ ep W.n0.2.1,hp⟩,s _ _ W.hd W.n0.2.2,?_,fun j hj=> (W.d j hj).other f k (ng (W.n1 j hj).2.2.1.symm) tb,fun j hj=> ?_,W.n0,fun j hj=> ?_,fun j l hj hl=> ?_,fun j l hj hl n=> ?_⟩
 ·rw[e2];have:i=0∨i=1:=.o;rcases this with rfl |rfl<;>rfl
 ·skip
  by_cases ej:j=i
  ·subst ej;rw[YZ,ZaG rfl];exact w.fr f k (ng q3)
  ·rw[WK ej,ZaD ej];exact(W.w j hj).fr f k (ng (W.n1 j hj).2.2.2.2.2.symm)
 ·obtain⟨m1,m2,m3,m4,m5,m6⟩:=W.n1 j hj;split
  ·exact⟨m1,m2,m3,q1.symm,q2.symm,q3.symm⟩
  ·exact⟨m1,m2,m3,m4,m5,m6⟩
 ·skip
  split
  ·exact(q4 j hj).1.symm
  ·exact W.n2 j l hj hl
 ·obtain⟨m1,m2⟩:=W.n3 j l hj hl n;refine⟨m1,?_⟩;split
  ·rename_i ej;rw[ZaD (fun z=>n (ej.trans z.symm))];exact(q4 l hl).2
  ·split
   ·exact(q4 j hj).2.symm
   ·exact m2
theorem ZU {f:Nat->Addr}(hi:i<2):fQ [V.ref (f 0),V.ref (f 1)] (i:Int)=some (.ref (f i)):=by have:i=0∨i=1:=.o;rcases this with rfl |rfl<;>rfl
theorem iV.last {q:Addr}{s:aY}(w:iV H q (s::T)):∃vs v,H q=some (.lst (vs.reverse++[v]))/\j6 H v s/\Paired (j6 H) vs T/\vs.length=T.length:=by
 obtain⟨vs,h,pr⟩:=w;cases pr with
 | @cons v _ vs _ hv pr=>rw[ZcS]at h;exact⟨vs,v,h,hv,pr,Za6 pr⟩
def Good (n:Nat)(S:Nat->List aY):Prop:=∀i,i<2->S i≠[]/\(S i).length<=n+1/\∀s∈S i,cnt s.2.2<=n
theorem Good.mono {n m:Nat}(g:Good n S)(h:n<=m):Good m S:=fun i hi=>by obtain⟨g1,g2,g3⟩:=g i hi;exact⟨g1,.o,fun s hs=>ZaL (g3 s hs) h⟩
theorem Good.put {n:Nat}(g:Good n S)(h1:T≠[])(h2:T.length<=n+1)(h3:∀s∈T,cnt s.2.2<=n):Good n (put S i T):=fun j hj=>by
 by_cases e:j=i
 ·subst e;rw[YZ];exact⟨h1,h2,h3⟩
 ·rw[WK e];exact g j hj
end
theorem RY {i:Nat}(hi:i<2):jM 2 (i:Int)=some i:=by have:i=0∨i=1:=.o;rcases this with rfl |rfl<;>rfl
theorem SW (vs:List V)(v:V):dh (vs++[v]) none (some 1)=(vs++[v]).take 1:=by unfold dh;rw[HT.zw,show(1:Int)=((1:Nat):Int) from rfl,HT.pD,ZeT (by simp)];rfl
theorem SV (vs:List V)(v:V):dh (vs++[v]) (some 1) (some (-1))=vs.drop 1:=by
 have e1:HT.aJ (vs++[v]).length 0 (some 1)=1:=by rw[show(1:Int)=((1:Nat):Int) from rfl,HT.pD];exact ZeT (by simp)
 have e2:HT.aJ (vs++[v]).length (vs++[v]).length (some (-1))=vs.length:=by rw[Zam];show HT.aJ (vs.length+1) (vs.length+1) (some (-1))=_;unfold HT.aJ;simp;omega
 unfold dh;rw[e1,e2];cases vs with
 |nil=>rfl
 |cons x vs=>show((vs++[v]).take (vs.length+1-1))=vs;rw[Ze4,List.take_append_of_le_length (Zaq _),ZaH]
def DM (s:aY):List aY->List aY
 | []=> [s]
 |t::T=>t::T
theorem FZ {K:ZgE}{H:Hp}{l:Addr}{rs:List V}{ds:List Due}{z:Str}{Q:VK}(e:H l=some (.lst rs))(pr:Paired (gG H) rs ds)(hd:ds.head? =some (("shown" :Str),RV.txt z))(q:Q (.str z) H):vt K (.ref l) (.int 0) H fun x H1=>pM K x (.int 1) H1 Q:=by
 cases pr with
 |nil=>cases hd
 | @cons v d rs ds h pr=>cases hd;obtain⟨t,u,rfl,ht,hu⟩:=h;cases (show u=.str z from hu);exact⟨l,_,0,.ref t,rfl,rfl,ao.of e,Ya (j:=0) rfl,t,_,1,_,rfl,rfl,aq.of ht,rfl,q⟩
section
variable {P:Program}{w:World}{K:ZgE}{mg:Str->Option Value}{base:Heap}{D Pg:Addr}
abbrev gh:Stmt:=top 81
abbrev Ag:List Str:=["_law_script", "_law_k", "_law_state_here", "_law_desks", "_law_rows", "_law_turn", "_law_at", "_law_back", "_law_line", "_law_later"]
theorem kj:aH Ag ["_law_script"] (ay gh):=Zz (by decide+kernel)
def bK:List Stmt:=match cE gh with |_:: .For _ _ b _ _::_=>b |_=> []
def bT:List Stmt:=match bK with |_::_::_:: .For _ _ b _ _::_=>b |_=> []
def bE:List Stmt:=match bK with |_::_::_::_:: .For _ _ b _ _::_=>b |_=> []
theorem VE {f:Addr}{cdv:Value}{A:Around}{outer:List Env}{s:Shared}{H0:Hp}{E:XK}(G:Gs mg)(hr:bf 119 (A.deeper (envOfC "law" (ay gh) s.heap.objs.size f cdv)))
  (D1:Def P w K mg base 1 "_law_take" ["_law_state_here", "_law_many"] rf) (CZ:Def P w K mg base 2 "_law_deed" ["_law_state_here", "_law_kept"] uW) (fV:Def P w K mg base 118 "_law_said" fA (kg D Pg)) (mj:Def P w K mg base 104 "_law_dues" ["_law_kept", "_law_last"] pd) (xw:Def P w K mg base 119 "_law_stand" pS (uL D Pg)):
  ∃t,dG (ck aF P w K mg base Ag "law" (ay gh) f cdv A outer s H0 E).hU bT t/\
  ∀(D':L2.Ends) (n:Nat) (x1 x6 x7 x8 x9:Option V) (a0 p dl rl:Addr) (ns:List Int) (a L r:Nat->Addr) (H:Hp) (S:Nat->List aY),n<10->W2 K D Pg a0 p dl rl ns a L r H S S->Good n S->
  (∀y6 y7 y8 y9 r' H' S',W2 K D Pg a0 p dl rl ns a L r' H' S' S'->Good (n+1) S'->D'.nx [some (.ref a0),x1,some (.ref p),some (.ref dl),some (.ref rl),some (.int (n:Int)),y6,y7,y8,y9] H')->
  t D' [some (.ref a0),x1,some (.ref p),some (.ref dl),some (.ref rl),some (.int (n:Int)),x6,x7,x8,x9] H:=by
 have gU:(A.deeper (envOfC "law" (ay gh) s.heap.objs.size f cdv)).units+1<cLine:=W8 hr;refine⟨_,(Ze (Ca (i:=6) (j:=7) rfl kj.nd rfl rfl .d rfl rfl (ZT (Zh D1 (hr.mono .d) (Za (pv 2) (Za Zf Zb))) (ZT (Zh D1 (hr.mono .d) (Za (pv 2) (Za Zf Zb))) Zb)) rfl)
  (Ze (ZN (ZA We (pv 7) Zf (bJ _))
   (Ze (ZN (ZA (Jv gU) (Zh fV (hr.mono .d) (Za (Zq Zs (pv 3) (pv 6) (fun _ _=>rfl)) (Za Zr Zb))) (Yt (ZA Y8 (Zn ZG rfl G.len ZdE (Za (Zq Zs (pv 4) (pv 6) (fun _ _=>rfl)) Zb)) Zf (bJ _)) Zr (ZH (Za Zf Zb))) (bJ _)) ZP Zy)
   (Zg (Yp (Zp YE (ZX Wr (Zq Zs (pv 4) (pv 6) (fun _ _=>rfl)) Z8 (Z2 Zf)) (ZX Wr (Zq Zs (pv 4) (pv 6) (fun _ _=>rfl)) (Z2 Zf) (Z2 (UI JY Zf)))) (B8 (pv 4) (pv 6) WC))))
   (Ze (Yp (Zh CZ (hr.mono .d) (Za (pv 2) (Za (Zq Zs (Zq Zs (pv 4) (pv 6) (fun _ _=>rfl)) (UI JY Zf) (fun _ _=>rfl)) Zb))) (Z3 rfl (Zm (Zx (i:=8) kj.nd rfl (Or.inl rfl)) (Zm (Zx (i:=9) kj.nd rfl (Or.inl rfl)) ZS))))
   (Ze (ZN (ZA (Jv gU) (Zh fV (hr.mono .d) (Za (Zq Zs (pv 3) (pv 6) (fun _ _=>rfl)) (Za (pv 8) Zb))) (Yt (Z0 (Zn (Yi (c:= "list")) rfl G.isinstance Za4 (Za (pv 9) (Za (Y2 (v:=.ty "list") rfl G.list boot_list rfl) Zb)))) (pv 9) Zr) (bJ _)) ZP Zy)
   (Zg (ZN (Yw (Z0 (Zn (Yi (c:= "list")) rfl G.isinstance Za4 (Za (pv 9) (Za (Y2 (v:=.ty "list") rfl G.list boot_list rfl) Zb))))) (Zg (ZR (Y6 Zb0 Zdk Zdl Jm (Zq Zs (pv 4) (pv 6) (fun _ _=>rfl)) (Za (pv 9) Zb)))) Zy)))))
  (Ze (ZN (Yw (Z0 (Zh xw hr (Za (Zq Zs (pv 3) (pv 6) (fun _ _=>rfl)) (Za (Zq Zs (Zq Zs (pv 4) (pv 6) (fun _ _=>rfl)) (UI JY Zf) (fun _ _=>rfl)) (Za (Y1 Y8 (pv 5) Zf (bJ _)) Zb)))))) ZP Zy)
  (Zg (ZN (ZA (Jv gU) (Zh fV (hr.mono .d) (Za (Zq Zs (pv 3) (Zp Yy Zf (pv 6)) (fun _ _=>rfl)) (Za Zr Zb))) (Zq ZE (Zq Zs (Zh mj (hr.mono .d) (Za (Zq Zs (Zq Zs (pv 4) (Zp Yy Zf (pv 6)) (fun _ _=>rfl)) (UI JY Zf) (fun _ _=>rfl)) (Za JG Zb))) Zf (fun _ _=>rfl)) Zf (fun _ _=>rfl)) (bJ _)) ZP Zy))))),?_⟩
 intro D' n x1 x6 x7 x8 x9 a0 p dl rl ns a L r H S hn W g q;refine Zj ⟨_,rfl,p,2,rfl,W.st,.d,.d,fun at' o1 a1 a2 cG=> ?_⟩;have W:=W.sp aV.upd cG;generalize upd H p o1=H1 at W cG |-;refine⟨_,rfl,p,6,rfl,W.st,.d,.d,fun bk o2 b1 b2 bZ=> ⟨_,_,rfl,?_⟩⟩;have W:=W.sp aV.upd bZ;generalize upd H1 p o2=H2 at W bZ |-;dsimp only[List.set];obtain⟨i,rfl⟩:∃i:Nat,at'=(i:Int):=⟨at'.toNat,.o⟩;have hi:i<2:=.o;clear cG bZ a1 a2;obtain⟨g1,g2,g3⟩:=g i hi;obtain⟨s,T,hS⟩:∃s T,S i=s::T:=by
  cases h:S i with
  |nil=>exact absurd h g1
  |cons s T=>exact⟨s,T,rfl⟩
 rw[hS]at g1 g2 g3;have Qs:T.length<=n:=by simpa using g2
 refine U.T.uC (fun ah H'=> ∃y8 y9 r' S',ah=[some (.ref a0),x1,some (.ref p),some (.ref dl),some (.ref rl),some (.int (n:Int)),some (.int (i:Int)),some (.int bk),y8,y9]/\W2 K D Pg a0 p dl rl ns a L r' H' S' S'/\Good (n+1) S') ?_ ?_
 ·rintro ah H3 ⟨y8,y9,r',S',rfl,W3,g'⟩;obtain⟨e1,e2,e3⟩:=g' i hi;obtain⟨s',T',iQ⟩:∃s T,S' i=s::T:=by
   cases h:S' i with
   |nil=>exact absurd h e1
   |cons s T=>exact⟨s,T,rfl⟩
  have wi:=W3.w i hi;have di:=W3.d i hi;rw[iQ]at e2 e3 wi di;obtain⟨vs,v,ew,sv,_,_⟩:=wi.last;have oE:T'.length<=n+1:=by simpa using e2
  refine Zj ⟨_,rfl,_,rfl,dl,_,_,_,rfl,rfl,ao.of W3.hd,ZU hi,_,rfl,_,rfl,rl,_,_,_,rfl,rfl,ao.of W3.hr,ZU hi,1,rfl,r' i,_,_,_,rfl,rfl,ao.of ew,Ji _ _,_,rfl,_,_,rfl,rfl,?_⟩;refine .mk (a i) (L i) v _ s' T' rfl di sv (ZaL (e3 s' Zai) .o) .o fun H4 f4 d4=> ⟨_,rfl,az (Zw ?_)⟩;dsimp only;have W4:=W3.jK hi f4 d4;rw[YU iQ]at W4;obtain⟨j,hj,ej⟩:∃j:Nat,j<2/\(1:Int)-(i:Int)=(j:Int):=⟨1-i,.o,.o⟩;obtain⟨u1,u2,u3⟩:=g' j hj;obtain⟨s2,T2,Bp⟩:∃s T,S' j=s::T:=by
   cases h:S' j with
   |nil=>exact absurd h u1
   |cons s T=>exact⟨s,T,rfl⟩
  have dj:=W4.d j hj;rw[Bp]at u2 u3 dj;have u2':T2.length<=n+1:=by simpa using u2
  refine⟨_,rfl,_,rfl,_,_,rfl,rfl,dl,_,(j:Int),_,rfl,Zcr V.int ej,ao.of W4.hd,ZU hj,Wo dj (Z7 .o WH .shown) fun v5 H5 f5 d5 an=> ?_⟩;have W5:=W4.jK hj f5 (T:=s2::T2) d5;rw[YU Bp]at W5;have wj:=W5.w j hj;rw[Bp]at wj;obtain⟨Kk,v2,BF,qX,_,_⟩:=wj.last;refine⟨_,rfl,_,rfl,_,_,rfl,rfl,rl,_,(j:Int),_,rfl,Zcr V.int ej,ao.of W5.hr,ZU hj,1,rfl,r' j,_,_,_,rfl,rfl,ao.of BF,Ji _ _,?_⟩;refine .mk v2 false s2 rfl qX (ZaL (u3 s2 Zai) .o) fun l H6 rs ds s6 nl e6 pr asked hd hl=> ?_;dsimp only[tC];refine FZ e6 pr hd ?_;exact⟨.str _ an rfl,_,rfl,az (Zw (q _ _ _ _ _ _ _ (W5.same s6) g'))⟩
 ·intro D2 hD;have BJ:=W.d i hi;have wi:=W.w i hi;rw[hS]at BJ wi;obtain⟨vs,v,ew,sv,pr,nE⟩:=wi.last;refine⟨_,rfl,rfl,_,rfl,?_⟩;by_cases hb:bk=0
  ·rw[ZaA (show V.int bk=V.int 0 by rw[hb])];refine aB ?_;refine U.T.uC (fun ah H'=>ah=[some (.ref a0),x1,some (.ref p),some (.ref dl),some (.ref rl),some (.int (n:Int)),some (.int (i:Int)),some (.int bk),x8,x9]/\W2 K D Pg a0 p dl rl ns a L r H' (put S i (DM s T)) S) ?_ ?_
   ·rintro ah H3 ⟨rfl,W3⟩;have w3:=W3.w i hi;rw[hS]at w3;obtain⟨vs,v,ew,sv,pr,nE⟩:=w3.last;refine Zu ⟨_,rfl,_,rfl,rl,_,_,_,rfl,rfl,ao.of W3.hr,ZU hi,_,rfl,r i,_,rfl,ao.of ew,fun p1 nU=> ?_⟩;rw[SW];have k1:=Zk (o:=.lst ((vs.reverse++[v]).take 1)) nU;have r1:upd H3 p1 (.lst ((vs.reverse++[v]).take 1)) p1=some (.lst ((vs.reverse++[v]).take 1)):=Zc;generalize upd H3 p1 (HO.lst ((vs.reverse++[v]).take 1))=H4 at k1 r1 |-;refine⟨_,rfl,_,rfl,rl,_,_,_,rfl,rfl,ao.of (k1 _ _ W3.hr),ZU hi,_,rfl,1,rfl,_,rfl,r i,_,rfl,ao.of (k1 _ _ ew),fun p2 gw=> ?_⟩;rw[show -(1:Int)= -1 from rfl,SV];have k2:=Zk (o:=.lst (vs.reverse.drop 1)) gw;have r2:upd H4 p2 (.lst (vs.reverse.drop 1)) p2=some (.lst (vs.reverse.drop 1)):=Zc;generalize upd H4 p2 (HO.lst (vs.reverse.drop 1))=H5 at k2 r2 |-;refine⟨p1,p2,_,_,rfl,rfl,k2 _ _ r1,r2,by rw[ZaW,Zcz,Zam,Zce,Zaz];simp;omega,fun p3 jq=> ?_⟩;have k3:=Zk (o:=.lst ((vs.reverse++[v]).take 1++vs.reverse.drop 1)) jq;have r3:upd H5 p3 (.lst ((vs.reverse++[v]).take 1++vs.reverse.drop 1)) p3=some (.lst ((vs.reverse++[v]).take 1++vs.reverse.drop 1)):=Zc;have n3:H5 p3=none:=jq;generalize upd H5 p3 (HO.lst ((vs.reverse++[v]).take 1++vs.reverse.drop 1))=H6 at k3 r3 |-;have W5:=W3.same (k1.trans k2);have W6:=W5.same k3;have rows:iV H6 p3 (DM s T):=by
     cases T with
     |nil=>cases pr;exact⟨[v],r3,.cons (sv.same (k1.trans (k2.trans k3))) .nil⟩
     |cons t T=>
      refine⟨vs,?_,Paired.bj pr fun v s h=>h.same (k1.trans (k2.trans k3))⟩;rw[r3];have:0<vs.reverse.length:=by rw[Zce,nE];exact Nat.succ_pos _
      cases hv:vs.reverse with
      |nil=>rw[hv]at this;exact absurd this .d
      |cons x ys=>rfl
    have fresh:∀{q:Addr}{ys:List V},H5 q=some (.lst ys)->p3≠q:=fun h z=>by rw[<-z,n3]at h;cases h
    obtain⟨u,v',ep,_⟩:=W5.st;have nq:p3≠p/\p3≠dl/\p3≠rl/\∀j,j<2->p3≠L j/\p3≠r j:=⟨fresh ep,fresh W5.hd,fresh W5.hr,fun j hj=>by obtain⟨ys,e⟩:=(W5.d j hj).hL;obtain⟨zs,e',_⟩:=W5.w j hj;exact⟨fresh e,fresh e'⟩⟩
    refine⟨_,rfl,_,rfl,rl,_,_,i,rfl,rfl,W6.hr,RY hi,hD _ _ ⟨x8,x9,_,_,rfl,W6.list hi rows nq,?_⟩⟩;refine(g.mono (ZcJ n)).put ?_ ?_ ?_
    ·cases T<;>exact fun z=>by cases z
    ·cases T with
     |nil=>exact Nat.le_add_left 1 _
     |cons t T=>show T.length+1<=_;simp at Qs;omega
    ·intro x hx;cases T with
     |nil=>exact ZcP (g3 x hx)
     |cons t T=>exact ZcP (g3 x (Zad _ hx))
   ·intro D3 Fz;have aao:((vs.reverse++[v]).length:Int)=(T.length:Int)+1:=by rw[Zam,Zce,nE];rfl
    cases T with
    |nil=>refine⟨_,rfl,_,rfl,dl,_,_,_,rfl,rfl,ao.of W.hd,ZU hi,Wo BJ (Z7 (o:=.no 14) .d Ws (.BV rfl)) fun v1 H3 f3 d3 an=> ?_⟩;have W3:=W.jK hi f3 d3;have w3:=W3.w i hi;rw[hS]at w3;obtain⟨bR,v',oC,_,_,rM⟩:=w3.last;refine⟨_,rfl,_,rfl,rl,_,_,_,rfl,rfl,ao.of W3.hr,ZU hi,r i,_,rfl,.inl (ao.of oC),_,_,rfl,rfl,_,rfl,?_⟩;rw[Zav (by rw[Zam,Zce,rM];show ¬(1:Int)< ((0+1:Nat):Int);decide)];refine az ⟨bH,fun m hm=> ?_⟩;have k4:=Zk (o:=.lst [V.int 14]) hm;exact⟨JV (an.fr (.same k4)) ⟨m,rfl,Zc⟩,_,rfl,az (Zw (Fz _ _ ⟨rfl,W3.same k4⟩))⟩
    |cons t T=>refine⟨_,rfl,_,rfl,dl,_,_,_,rfl,rfl,ao.of W.hd,ZU hi,Wo BJ (Z7 (o:=.pop) .o Ws (.back (Nat.succ_ne_zero _))) fun v1 H3 f3 d3 an=> ?_⟩;have W3:=W.jK hi f3 d3;have w3:=W3.w i hi;rw[hS]at w3;obtain⟨bR,v',oC,_,_,rM⟩:=w3.last;refine⟨_,rfl,_,rfl,rl,_,_,_,rfl,rfl,ao.of W3.hr,ZU hi,r i,_,rfl,.inl (ao.of oC),_,_,rfl,rfl,_,rfl,?_⟩;rw[ZaA (by rw[Zam,Zce,rM,ZaE];show(1:Int)< ((T.length+1+1:Nat):Int);omega)];exact aB ⟨.str _ an rfl,_,rfl,az (Zw (Fz _ _ ⟨rfl,W3⟩))⟩
  ·rw[Zav (show ¬V.int bk=V.int 0 from fun z=>hb (by injection z))];refine az ?_;refine Zj (Zu ⟨_,rfl,_,rfl,_,rfl,rl,_,_,_,rfl,rfl,ao.of W.hr,ZU hi,1,rfl,r i,_,_,_,rfl,rfl,ao.of ew,Ji _ _,?_⟩);refine .mk p v s rfl W.st sv fun t z u H3 x3 dJ e3 lz dd=> ⟨t,_,rfl,aq.of e3,rfl,_,_,rfl,_,_,rfl,rfl,?_⟩;dsimp only[List.set];have W3:=W.sp x3 dJ;have tN:=W3.d i hi;rw[hS]at tN;cases dd with
   |push wd hg xs sy st aT=>
    refine Zj ⟨_,rfl,_,rfl,dl,_,_,_,rfl,rfl,ao.of W3.hd,ZU hi,_,rfl,Wo tN ⟨lz,.o,.inr (sy _)⟩ fun v1 H4 f4 d4 an=> ?_⟩;have W4:=W3.jK hi f4 d4;have mz:j6 H4 u (wd,hg,xs):=st.keep fun b ys e=>tN.tup e f4;obtain⟨t',b',l',eu,eA,_⟩:=id mz;have rV:∀{Q':Bool->Hp->Prop}{y8:Option V},Q' false H4->tB (uE (fun xs H Q=> ∃x t b,xs=[x,V.ty "list"]/\dF K H x t/\PySem.W.kitOne K t (.type "list")=some b/\Q (.bl b) H) (cq (gf 9) (cq (tC (.ty "list")) cZ))) [some (.ref a0),x1,some (.ref p),some (.ref dl),some (.ref rl),some (.int (n:Int)),some (.int (i:Int)),some (.int bk),y8,some u] H4 Q':=fun h=> ⟨_,rfl,u,_,_,rfl,by rw[eu];exact .tup eA,rfl,_,rfl,h⟩;refine rV (az ⟨.str _ an rfl,_,rfl,az (Zw ?_)⟩);dsimp only;refine rV (aB ?_);have w4:=W4.w i hi;rw[hS]at w4;obtain⟨bR,v',oC,Lp,MA,rM⟩:=w4.last;refine⟨_,rfl,_,rfl,rl,_,_,_,rfl,rfl,ao.of W4.hr,ZU hi,.inl ⟨rfl,_,ao.of oC⟩,_,rfl,r i,_,_,rfl,rfl,oC,by rw[Zam,Zce,rM,Zaz];simp;omega,Zw ?_⟩;have kt:mf H4 (upd H4 (r i) (.lst (bR.reverse++[v']++[u]))):=fun b ys e=>by rw[Zi (fun z=>by rw[z,oC]at e;cases e)];exact e
    have W5:=W4.row hi (H':=upd H4 (r i) (.lst (bR.reverse++[v']++[u]))) (T:=(wd,hg,xs)::s::T) aV.upd ⟨u::v'::bR,by rw[Zc,ZcS,ZcS],.cons (mz.keep kt) (.cons (Lp.keep kt) (Paired.bj MA fun v s h=>h.keep kt))⟩;refine hD _ _ ⟨_,_,r,_,rfl,W5,?_⟩;have gs:=g3 s Zai;refine(g.mono (ZcJ n)).put (fun z=>by cases z) (by show T.length+1+1<=_;omega) fun x hx=> ?_;rcases Zaf.mp hx with rfl |hx
    ·exact ZaL aT (Zc6 gs)
    ·exact ZcP (g3 x hx)
   |no l eu hl sy=>refine Zj ⟨_,rfl,_,rfl,dl,_,_,_,rfl,rfl,ao.of W3.hd,ZU hi,_,rfl,Wo tN ⟨lz,.o,.inr (sy _)⟩ fun v1 H4 f4 d4 an=> ?_⟩;have W4:=W3.jK hi f4 d4;have nY:=tN.F0 (fun z=>by cases z) (v:=u) (r:=.no 4) ⟨l,eu,hl⟩ f4;obtain⟨l',QE,Pb⟩:=id nY;have rV:∀{Q':Bool->Hp->Prop}{y8:Option V},Q' true H4->tB (uE (fun xs H Q=> ∃x t b,xs=[x,V.ty "list"]/\dF K H x t/\PySem.W.kitOne K t (.type "list")=some b/\Q (.bl b) H) (cq (gf 9) (cq (tC (.ty "list")) cZ))) [some (.ref a0),x1,some (.ref p),some (.ref dl),some (.ref rl),some (.int (n:Int)),some (.int (i:Int)),some (.int bk),y8,some u] H4 Q':=fun h=> ⟨_,rfl,u,_,_,rfl,by rw[QE];exact .lst Pb,rfl,_,rfl,h⟩;refine rV (aB ⟨_,rfl,JV an nY,_,rfl,az (Zw ?_)⟩);dsimp only;refine rV (az (Zw (hD _ _ ⟨_,_,r,S,rfl,?_,g.mono (ZcJ n)⟩)));have:=W4;rw[YU (show S i=pP (s::T) (.no 4) from hS)]at this;exact this
theorem RP {f:Addr}{cdv:Value}{A:Around}{outer:List Env}{s:Shared}{H0:Hp}{E:XK}(G:Gs mg)(hr:bf 119 (A.deeper (envOfC "law" (ay gh) s.heap.objs.size f cdv)))
  (fV:Def P w K mg base 118 "_law_said" fA (kg D Pg)) (mj:Def P w K mg base 104 "_law_dues" ["_law_kept", "_law_last"] pd):
  ∃t,dG (ck aF P w K mg base Ag "law" (ay gh) f cdv A outer s H0 E).hU bE t/\
  ∀(D':L2.Ends) (i:Nat) (x1 x5 x7 x8 x9:Option V) (a0 p dl rl:Addr) (ns:List Int) (a L r:Nat->Addr) (H:Hp) (S:Nat->List aY),i<2->W2 K D Pg a0 p dl rl ns a L r H S S->Good 10 S->
  (∀H' S',W2 K D Pg a0 p dl rl ns a L r H' S' S'->Good 10 S'->D'.nx [some (.ref a0),x1,some (.ref p),some (.ref dl),some (.ref rl),x5,some (.int (i:Int)),x7,x8,x9] H')->
  t D' [some (.ref a0),x1,some (.ref p),some (.ref dl),some (.ref rl),x5,some (.int (i:Int)),x7,x8,x9] H:=by
 have gU:(A.deeper (envOfC "law" (ay gh) s.heap.objs.size f cdv)).units+1<cLine:=W8 hr;refine⟨_,(Ze (Xr Zb6 (ZA Y8 (Zn ZG rfl G.len ZdE (Za (Zq Zs (pv 4) (pv 6) (fun _ _=>rfl)) Zb)) Zf (bJ _))
   (Ze (ZR (GX Zb0 PySem.F.slot_list_pop PySem.F.type_list_pop G5 (Zq Zs (pv 4) (pv 6) (fun _ _=>rfl))))
   (Ze (ZN (ZA (Jv gU) (Zh fV (hr.mono .d) (Za (Zq Zs (pv 3) (pv 6) (fun _ _=>rfl)) (Za Zr Zb))) Zr (bJ _)) ZP Zy)
   (Zg (ZN (ZA (Jv gU) (Zh fV (hr.mono .d) (Za (Zq Zs (pv 3) (pv 6) (fun _ _=>rfl)) (Za Zr Zb))) (Zq ZE (Zq Zs (Zh mj (hr.mono .d) (Za (Zq Zs (Zq Zs (pv 4) (pv 6) (fun _ _=>rfl)) (UI JY Zf) (fun _ _=>rfl)) (Za JG Zb))) Zf (fun _ _=>rfl)) Zf (fun _ _=>rfl)) (bJ _)) ZP Zy)))))
  (Zg (ZN (ZA (Jv gU) (Zh fV (hr.mono .d) (Za (Zq Zs (pv 3) (pv 6) (fun _ _=>rfl)) (Za Zr Zb))) (ZH (Za Zf Zb)) (bJ _)) ZP Zy))),?_⟩
 intro D' i x1 x5 x7 x8 x9 a0 p dl rl ns a L r H S hi W g q;refine Zj ⟨fun m σ H=>σ=[some (.ref a0),x1,some (.ref p),some (.ref dl),some (.ref rl),x5,some (.int (i:Int)),x7,x8,x9]/\∃S,W2 K D Pg a0 p dl rl ns a L r H S S/\Good 10 S/\(S i).length=m,⟨_,rfl,S,W,g,rfl⟩,?_⟩;rintro m σ H1 ⟨rfl,S1,W1,g1,hm⟩;obtain⟨e1,e2,e3⟩:=g1 i hi;obtain⟨s1,T,hS⟩:∃s T,S1 i=s::T:=by
  cases h:S1 i with
  |nil=>exact absurd h e1
  |cons s T=>exact⟨s,T,rfl⟩
 have wi:=W1.w i hi;have di:=W1.d i hi;rw[hS]at e2 e3 wi di hm;obtain⟨vs,v,ew,sv,pr,nE⟩:=wi.last;refine⟨_,rfl,_,rfl,rl,_,_,_,rfl,rfl,ao.of W1.hr,ZU hi,r i,_,rfl,.inl (ao.of ew),_,_,rfl,rfl,_,rfl,?_⟩;cases T with
 |nil=>rw[Zav (by rw[Zam,Zce,nE];show ¬(1:Int)< ((0+1:Nat):Int);decide)];refine az ?_;dsimp only;refine⟨_,rfl,_,rfl,dl,_,_,_,rfl,rfl,ao.of W1.hd,ZU hi,Wo di (Z7 (o:=.no 14) .d Ws (.BV rfl)) fun v1 H2 f2 d2 an=> ?_⟩;have W3:=W1.jK hi f2 (T:=[s1]) d2;rw[YU hS]at W3;refine⟨bH,fun k hk=> ?_⟩;have k4:=Zk (o:=.lst [V.int 14]) hk;exact⟨JV (an.fr (.same k4)) ⟨k,rfl,Zc⟩,_,rfl,az (Zw (q _ _ (W3.same k4) g1))⟩
 |cons t T=>have oE:T.length+1+1<=10+1:=e2;rw[ZaA (by rw[Zam,Zce,nE,ZaE];show(1:Int)< ((T.length+1+1:Nat):Int);omega)];refine aB ⟨fun ah H'=>ah=[some (.ref a0),x1,some (.ref p),some (.ref dl),some (.ref rl),x5,some (.int (i:Int)),x7,x8,x9]/\∃S,W2 K D Pg a0 p dl rl ns a L r H' S S/\Good 10 S/\(S i).length=T.length+1,fun ah H' h=> ⟨T.length+1,by rw[<-hm];exact ZcZ _,h⟩,?_⟩;refine Zj ⟨_,rfl,_,rfl,rl,_,_,_,rfl,rfl,ao.of W1.hr,ZU hi,.inl ⟨rfl,_,ao.of ew⟩,r i,_,v,rfl,rfl,ew,by simp,?_⟩;dsimp only;rw[List.dropLast_concat];have sx:aV (r i) H1 (upd H1 (r i) (.lst vs.reverse)):=aV.upd;have kt:mf H1 (upd H1 (r i) (.lst vs.reverse)):=Cj sx ew;have xi:=W1.row hi (T:=t::T) sx ⟨vs,Zc,Paired.bj pr fun v s h=>h.keep kt⟩;generalize upd H1 (r i) (HO.lst vs.reverse)=H2 at xi |-;have d2:=xi.d i hi;rw[hS]at d2;refine Zj ⟨_,rfl,_,rfl,dl,_,_,_,rfl,rfl,ao.of xi.hd,ZU hi,Wo d2 (Z7 (o:=.pop) (by show T.length+1<=900;omega) Ws (.back (Nat.succ_ne_zero _))) fun v1 H3 f3 d3 an=> ?_⟩;have W3:=xi.jK hi f3 (T:=t::T) d3;refine⟨.str _ an rfl,_,rfl,az (Zw ?_)⟩;dsimp only;have Ga:=W3.d i hi;rw[YZ]at Ga;refine⟨_,rfl,_,rfl,dl,_,_,_,rfl,rfl,ao.of W3.hd,ZU hi,Wo Ga (Z7 .o WH .shown) fun v5 H5 f5 d5 RH=> ?_⟩;have W5:=W3.jK hi f5 (T:=t::T) d5;have pp:put (put S1 i (t::T)) i (t::T)=put S1 i (t::T):=YU YZ;rw[pp]at W5;have w5:=W5.w i hi;rw[YZ]at w5;obtain⟨Kk,v2,BF,qX,_,_⟩:=w5.last;refine⟨_,rfl,_,rfl,rl,_,_,_,rfl,rfl,ao.of W5.hr,ZU hi,1,rfl,r i,_,_,_,rfl,rfl,ao.of BF,Ji _ _,?_⟩;have aT:=e3 t (by simp);refine .mk v2 false t rfl qX aT fun l H6 rs ds s6 nl e6 pr asked hd hl=> ?_;dsimp only[tC];refine FZ e6 pr hd ?_;refine⟨.str _ RH rfl,_,rfl,az (Zw ⟨rfl,_,W5.same s6,g1.put (fun z=>by cases z) (by show T.length+1<=_;omega) fun x hx=>e3 x (Zad _ hx),by rw[YZ];rfl⟩)⟩
end
def two (x y:Addr):Nat->Addr
 |0=>x
 |_=>y
theorem Jk {P:Nat->Prop}(h0:P 0)(h1:P 1):∀i,i<2->P i
 |0,_=>h0
 |1,_=>h1
section
variable {D Pg:Addr}{H:Hp}
theorem GH {a dx:Addr}{E:XK}{Q:Hp->Prop}(na:H a=none)(nx:H dx=none)(q:∀L v H',ak H H'->H L=none->fX D H' a L [v]->dU H' v 1 1 [.ag]->Q H'):uR D [.ref a] (upd (upd H dx (.own a)) a (.ins D dx [])) (fun v H'=>v=.ag/\Q H') E:=by
 have k1:ak H (upd (upd H dx (.own a)) a (.ins D dx [])):=fun q o h=>by rw[Zi (Zd h na),Zi (Zd h nx)];exact h
 have e1:upd (upd H dx (.own a)) a (.ins D dx []) a=some (.ins D dx []):=Zc;generalize upd (upd H dx (HO.own a)) a (HO.ins D dx [])=H1 at k1 e1 |-;exact .mk a dx rfl e1 fun L v H2 nL x2 d2 s2=> ⟨rfl,q L v H2 (fun q o h=>x2 _ _ (k1 _ _ h) (Zd h na)) (k1.free nL) d2 s2⟩
abbrev mO (H:Hp)(b l t L:Addr):Hp:=upd (upd (upd (upd H b (.tup [V.int 1,V.int 1])) l (.tup [V.ag])) t (.tup [V.ref b,V.ref l])) L (.lst [V.ref t])
theorem Gv {b l t L:Addr}(hb:H b=none)(hl:upd H b (.tup [V.int 1,V.int 1]) l=none)(ht:upd (upd H b (.tup [V.int 1,V.int 1])) l (.tup [V.ag]) t=none)(hL:upd (upd (upd H b (.tup [V.int 1,V.int 1])) l (.tup [V.ag])) t (.tup [V.ref b,V.ref l]) L=none):
  ak H (mO H b l t L)/\H L=none/\iV (mO H b l t L) L S1:=by
 unfold mO;have s1:=ZL (o:=.tup [V.int 1,V.int 1]) hb;have e1:upd H b (.tup [V.int 1,V.int 1]) b=some (.tup [V.int 1,V.int 1]):=Zc;generalize upd H b (HO.tup [V.int 1,V.int 1])=H1 at s1 e1 hl ht hL |-;have s2:=ZL (o:=.tup [V.ag]) hl;have e2:upd H1 l (.tup [V.ag]) l=some (.tup [V.ag]):=Zc;generalize upd H1 l (HO.tup [V.ag])=H2 at s2 e2 ht hL |-;have s3:=ZL (o:=.tup [V.ref b,V.ref l]) ht;have e3:upd H2 t (.tup [V.ref b,V.ref l]) t=some (.tup [V.ref b,V.ref l]):=Zc;generalize upd H2 t (HO.tup [V.ref b,V.ref l])=H3 at s3 e3 hL |-;have s4:=ZL (o:=.lst [V.ref t]) hL;have pI:=s2.trans (s3.trans s4);exact⟨s1.trans pI,(s1.trans (s2.trans s3)).free hL,[.ref t],Zc,.cons ⟨t,b,l,rfl,s4 _ _ e3,⟨ZI (pI _ _ e1),.d,.d,.d,.d⟩,(s3.trans s4) _ _ e2,UO⟩ .nil⟩
end
section
variable {P:Program}{w:World}{K:ZgE}{mg:Str->Option Value}{base:Heap}{D Pg:Addr}
def yr (K:ZgE)(Pg:Addr):Sp:=fun vs H Q _=> ∃(a:Addr) (ns:List Int),vs=[.ref a]/\fk K H a ns/\ns.length<=63/\H Pg=some (.bM #[])/\∀H',Q (.bl true) H'
theorem Se {f:Addr}{fd:FuncData}(F:aE K "law" "law" gh f fd)(G:Gs mg){fI:Addr}{qz:FuncData}(MD:Mk K D fI)(mD:mg "Desk" =some (.ref D))(FI:aw P w K mg base aF 1 fI qz ["self"] (uR D))(bI:Binds K qz ["self"] [])
  (Dss:Def P w K mg base 102 "_law_state" ["_law_script", "_law_k"] (yg K)) (D1:Def P w K mg base 1 "_law_take" ["_law_state_here", "_law_many"] rf) (CZ:Def P w K mg base 2 "_law_deed" ["_law_state_here", "_law_kept"] uW) (fV:Def P w K mg base 118 "_law_said" fA (kg D Pg)) (mj:Def P w K mg base 104 "_law_dues" ["_law_kept", "_law_last"] pd) (xw:Def P w K mg base 119 "_law_stand" pS (uL D Pg)) (Dgr:Def P w K mg base 119 "_law_great_right" [] (yu Pg)):
  aw P w K mg base aF 120 f fd ["_law_script"] (yr K Pg):=by
 refine F.ok kj (fun vs H Q E h=> ?_) (fun cdv A outer s H vs Q E hr h=> ?_)
 ·obtain⟨a,ns,rfl,_⟩:=h;rfl
 ·obtain⟨a0,ns,rfl,Lv,sj,EC,q⟩:=h;obtain⟨fg,Qw,Fg,Nv,NT,RA⟩:=Dgr;obtain⟨tT,rT,hT⟩:=VE (A:=A) (outer:=outer) (s:=s) (H0:=H) (E:=E) (f:=f) (cdv:=cdv) G hr D1 CZ fV mj xw;obtain⟨tE,rE,hE⟩:=RP (A:=A) (outer:=outer) (s:=s) (H0:=H) (E:=E) (f:=f) (cdv:=cdv) (D:=D) (Pg:=Pg) G hr fV mj;refine⟨_,Ze (ZN (Yw (Z0 (Xj Fg hr rfl Nv NT RA .nil rC))) ZP Zy)
   (Ze (Yx Zb6 rfl (ZV rfl G.range (Za (Zn (U1 (hr.hd .d)) rfl G.max boot_max (Za Zf (Za (Zn (V5 (hr.hd .d)) rfl G.min boot_min (Za (Zn ZG rfl G.len ZdE (Za (pv 0) Zb)) (Za Zf Zb))) Zb))) Zb)) (Zx (i:=1) kj.nd rfl (Or.inl rfl))
    (Ze (ZF (i:=2) kj.nd rfl (Or.inl rfl) (Zh Dss (hr.mono .d) (Za (pv 0) (Za (pv 1) Zb))))
    (Ze (Ca (i:=3) (j:=4) rfl kj.nd rfl rfl .d rfl rfl (Za (ZH (ZT (WM MD FI (hr.mono .d) rfl mD bI .nil rC) (ZT (WM MD FI (hr.mono .d) rfl mD bI .nil rC) Zb)))
     (Za (ZH (Za (ZH (Za (Zt (Za (Zt (Za Zf (Za Zf Zb))) (Za (Zt (Za Yb Zb)) Zb))) Zb)) (Za (ZH (Za (Zt (Za (Zt (Za Zf (Za Zf Zb))) (Za (Zt (Za Yb Zb)) Zb))) Zb)) Zb))) Zb)) rfl)
    (Ze (ZN (Yw (Z0 (Zh xw hr (Za (Zq Zs (pv 3) Zf (fun _ _=>rfl)) (Za (Zq Zs (Zq Zs (pv 4) Zf (fun _ _=>rfl)) Zf (fun _ _=>rfl)) (Za JG Zb)))))) ZP Zy)
    (Ze (Yx Zb6 rfl (ZV rfl G.range (Za Zf Zb)) (Zx (i:=5) kj.nd rfl (Or.inl rfl)) rT)
    (Zg (Yx Zb6 rfl (ZV rfl G.range (Za Zf Zb)) (Zx (i:=6) kj.nd rfl (Or.inl rfl)) rE)))))))
   (Zg (Zo JG))),?_⟩
  have Ky:TabAt H Pg iJ:=⟨#[],EC,trivial,fun pos cv z=>by cases z⟩;refine Zj (.mk rfl Ky fun H1 x1 uB=> ⟨_,rfl,az (Zw ?_)⟩);dsimp only;have Dq:fk K H1 a0 ns:=Lv.x x1 EC (fun _ _ z=>by cases z);refine Zj ?_;refine⟨_,rfl,a0,_,rfl,.inl Dq.sq,_,_,rfl,_,_,rfl,_,rfl,(by rw[Zae];split<;>split<;>omega),(by rw[Zae];split<;>split<;>omega),?_⟩;refine Yh (fun i σ H'=> ∃s1 s2 s3 s4 s5 s6 s7 s8 s9,σ=[some (.ref a0),s1,s2,s3,s4,s5,s6,s7,s8,s9]/\fk K H' a0 ns/\TabAt H' Pg iJ) ⟨_,_,_,_,_,_,_,_,_,rfl,Dq,uB⟩ ?_ ?_
  ·rintro k σ H2 hk ⟨s1,s2,s3,s4,s5,s6,s7,s8,s9,rfl,yI,Dd⟩;rw[Zcm];refine Zl ?_;dsimp only[List.set];refine Zj (Zu ⟨_,rfl,_,rfl,a0,ns,k,rfl,yI.sq,fun p H3 np k3 dJ=>Zl ?_⟩);dsimp only[List.set];obtain⟨u,v,ep,hp⟩:=id dJ;refine Zj fun d0 dx0 Ni M8 _=>GH Ni M8 fun L0 v0 H4 k4 pT wN Dm=>fun d1 dx1 Nh M7 _=>GH Nh M7 fun L1 v1 H5 k5 Ah l6 Dl=> ⟨bo,fun dl rK=> ?_⟩;have k6:=Zk (o:=.lst [V.ref d0,V.ref d1]) rK;have e6:upd H5 dl (.lst [V.ref d0,V.ref d1]) dl=some (.lst [V.ref d0,V.ref d1]):=Zc;generalize upd H5 dl (HO.lst [V.ref d0,V.ref d1])=H6 at k6 e6 |-;refine⟨bo,fun b hb=> ⟨bH,fun l hl=> ⟨bo,fun t ht=> ⟨bH,fun r0 h0=> ?_⟩⟩⟩⟩;obtain⟨k7,rG,w0⟩:=Gv hb hl ht h0;have eH:mO H6 b l t r0=upd (upd (upd (upd H6 b (.tup [V.int 1,V.int 1])) l (.tup [V.ag])) t (.tup [V.ref b,V.ref l])) r0 (.lst [V.ref t]):=rfl;rw[<-eH];generalize mO H6 b l t r0=H7 at k7 w0 |-;clear hb hl ht h0 eH;refine⟨bo,fun b hb=> ⟨bH,fun l hl=> ⟨bo,fun t ht=> ⟨bH,fun r1 h1=> ?_⟩⟩⟩⟩;obtain⟨k8,pR,w1⟩:=Gv hb hl ht h1;have eH:mO H7 b l t r1=upd (upd (upd (upd H7 b (.tup [V.int 1,V.int 1])) l (.tup [V.ag])) t (.tup [V.ref b,V.ref l])) r1 (.lst [V.ref t]):=rfl;rw[<-eH];generalize mO H7 b l t r1=H8 at k8 w1 |-;clear hb hl ht h1 eH;refine⟨bo,fun rl lj=> ⟨_,_,rfl,?_⟩⟩;have k9:=Zk (o:=.lst [V.ref r0,V.ref r1]) lj;have e9:upd H8 rl (.lst [V.ref r0,V.ref r1]) rl=some (.lst [V.ref r0,V.ref r1]):=Zc;generalize upd H8 rl (HO.lst [V.ref r0,V.ref r1])=H9 at k9 e9 |-;dsimp only[List.set];have Aw:=k7.trans (k8.trans k9);have vL:=k6.trans Aw;have vM:=k5.trans vL;have vN:=k4.trans vM;have Ru:=wN.same vM;have Rt:=l6.same vL;have tK:∃ys,H4 L0=some (.lst ys):=by obtain⟨_,_,h⟩:=wN;exact⟨_,h⟩
   have tJ:∃ys,H5 L1=some (.lst ys):=by obtain⟨_,_,h⟩:=l6;exact⟨_,h⟩
   obtain⟨y0,tK⟩:=tK;obtain⟨y1,tJ⟩:=tJ;have tH:∃ys,H7 r0=some (.lst ys):=by obtain⟨_,h,_⟩:=w0;exact⟨_,h⟩
   have wJ:∃ys,H8 r1=some (.lst ys):=by obtain⟨_,h,_⟩:=w1;exact⟨_,h⟩
   obtain⟨z0,tH⟩:=tH;obtain⟨z1,wJ⟩:=wJ;have Dc:=YR (YR Dd k3) vN;have W:W2 K D Pg a0 p dl rl ns (two d0 d1) (two L0 L1) (two r0 r1) H9 (fun _=>S1) (fun _=>S1):=by
    have MJ:p≠L0:=Zd ep pT;have p4:=k4 _ _ ep;have MI:p≠L1:=Zd p4 Ah;have p5:=k5 _ _ p4;have MF:p≠dl:=Zd p5 rK;have p6:=k6 _ _ p5;have Mz:p≠r0:=Zd p6 rG;have p7:=k7 _ _ p6;have My:p≠r1:=Zd p7 pR;have Mx:p≠rl:=Zd (k8 _ _ p7) lj;have LL:L0≠L1:=Zd tK Ah;have IL:=k5 _ _ tK;have Ld0:L0≠dl:=Zd IL rK;have Ld1:L1≠dl:=Zd tJ rK;have IK:=k6 _ _ IL;have II:=k6 _ _ tJ;have aah:L0≠r0:=Zd IK rG;have aaf:L1≠r0:=Zd II rG;have IJ:=k7 _ _ IK;have IH:=k7 _ _ II;have aag:L0≠r1:=Zd IJ pR;have aae:L1≠r1:=Zd IH pR;have Ll0:L0≠rl:=Zd (k8 _ _ IJ) lj;have Ll1:L1≠rl:=Zd (k8 _ _ IH) lj;have QQ:dl≠r0:=Zd e6 rG;have d7:=k7 _ _ e6;have QP:dl≠r1:=Zd d7 pR;have QO:dl≠rl:=Zd (k8 _ _ d7) lj;have rr:r0≠r1:=Zd tH pR;have Md:r0≠rl:=Zd (k8 _ _ tH) lj;have Mc:r1≠rl:=Zd wJ lj;have dk:∀{d L v H'},fX D H' d L [v]->dU H' v 1 1 [.ag]->ak H' H9->Dk D L Pg H9 d S1:=fun {d L v H'} h1 h2 s=> ⟨⟨[v],h1.same s,.cons (h2.same s) .nil⟩,Dc⟩;have gL:∀{r H'},iV H' r S1->ak H' H9->iV H9 r S1:=fun h s=>h.fr (ex:=[]) (.same s) (fun q m=>by cases m) (by simp);refine⟨(yI.same k3).same vN,dJ.yK vN,Aw _ _ e6,e9,Jk (dk wN Dm vM) (dk l6 Dl vL),Jk (gL w0 (k8.trans k9)) (gL w1 k9),⟨MF,Mx,QO⟩,Jk ⟨MJ,Ld0.symm,Ll0.symm,Mz,QQ,Md.symm⟩ ⟨MI,Ld1.symm,Ll1.symm,My,QP,Mc.symm⟩,fun i j hi hj=> ?_,fun i j hi hj n=> ?_⟩
    ·exact Jk (P:=fun i=>two L0 L1 i≠two r0 r1 j) (Jk (P:=fun j=>L0≠two r0 r1 j) aah aag j hj) (Jk (P:=fun j=>L1≠two r0 r1 j) aaf aae j hj) i hi
    ·have:(i=0/\j=1)∨(i=1/\j=0):=.o;rcases this with ⟨rfl,rfl⟩ |⟨rfl,rfl⟩
     ·exact⟨LL,rr⟩
     ·exact⟨LL.symm,rr.symm⟩
   have g0:Good 0 (fun _=>S1):=fun i hi=> ⟨List.cons_ne_nil _ _,Zaq 1,fun s hs=>by rw[Zar.mp hs];decide⟩;clear wN l6 Dm Dl Ru Rt e6 e9 w0 w1 tK tJ tH wJ k3 k4 k5 k6 k7 k8 k9 vN vM vL Aw pT Ah rK rG pR lj ep dJ Dc yI Dd np;generalize two d0 d1=a at W;generalize two L0 L1=L at W;generalize two r0 r1=r at W;have i0:(0:Nat)<2:=.d;obtain⟨vs,v,ew,sv,pr,nE⟩:=(W.w 0 i0).last;cases pr;refine Zj ⟨_,rfl,dl,_,_,_,rfl,rfl,ao.of W.hd,ZU i0,_,rfl,rl,_,_,_,rfl,rfl,ao.of W.hr,ZU i0,r 0,_,_,_,rfl,rfl,ao.of ew,Ya (j:=0) rfl,?_⟩;refine .mk (a 0) (L 0) v true (1,1,[.ag]) [] rfl (W.d 0 i0) sv .d .d fun mh FT wQ=> ⟨_,rfl,az (Zw ?_)⟩;dsimp only;have W:=W.jK i0 FT wQ;rw[YU rfl]at W;clear FT wQ ew sv;refine Zj ⟨10,rfl,.d,.d,?_⟩;refine Yh (n:=(10:Int).toNat) (fun i σ H'=> ∃x5 y6 y7 y8 y9 r' S,σ=[some (.ref a0),some (.int (k:Int)),some (.ref p),some (.ref dl),some (.ref rl),x5,y6,y7,y8,y9]/\W2 K D Pg a0 p dl rl ns a L r' H' S S/\Good i S) ⟨_,_,_,_,_,r,_,rfl,W,g0⟩ ?_ ?_
   ·rintro i σ H' hi ⟨x5,y6,y7,y8,y9,r',S,rfl,W,g⟩;rw[Zcm];refine Zl ?_;dsimp only[List.set];exact hT _ i _ y6 y7 y8 y9 a0 p dl rl ns a L r' H' S hi W g fun z6 z7 z8 z9 r2 H2 S2 W2 g2=> ⟨_,z6,z7,z8,z9,r2,S2,rfl,W2,g2⟩
   ·rintro σ H' ⟨x5,y6,y7,y8,y9,r',S,rfl,W,g⟩;dsimp only;refine⟨2,rfl,.d,.d,?_⟩;refine Yh (n:=(2:Int).toNat) (fun i σ H'=> ∃y6 S,σ=[some (.ref a0),some (.int (k:Int)),some (.ref p),some (.ref dl),some (.ref rl),x5,y6,y7,y8,y9]/\W2 K D Pg a0 p dl rl ns a L r' H' S S/\Good 10 S) ⟨_,_,rfl,W,g⟩ ?_ ?_
    ·rintro i σ H' hi ⟨y6,S,rfl,W,g⟩;rw[Zcm];refine Zl ?_;dsimp only[List.set];exact hE _ i _ x5 y7 y8 y9 a0 p dl rl ns a L r' H' S hi W g fun H2 S2 W2 g2=> ⟨_,S2,rfl,W2,g2⟩
    ·rintro σ H' ⟨y6,S,rfl,W,g⟩;exact⟨_,_,_,_,_,_,_,_,_,rfl,W.sc,W.tab⟩
  ·rintro σ H' ⟨s1,s2,s3,s4,s5,s6,s7,s8,s9,rfl,_,_⟩;exact q H'
end
end U
namespace U
open PySem L2 PyProof.Rows PySem.Spec
abbrev Bu:List Str:=["isinstance", "int", "bool", "tuple", "list", "len", "all", "set", "range", "max", "min", "zip", "str", "dict", "enumerate", "sorted", "ValueError"]
section
variable {P:Program}{w:World}{K:ZgE}{mg:Str->Option Value}{base:Heap}
theorem SR {h:Heap}{t0 t1 t2:Tok}(KX:K.In h)(G:h.Ns mainGlobals mg)(e:Bu.all (vE K)=true)(lo0:PySem.W.nsIn K mainGlobals "LONGEST_SIDE" =some (some (.int 12 t0)))(lo1:PySem.W.nsIn K mainGlobals "MOST_WIDE" =some (some (.int 6 t1)))(lo2:PySem.W.nsIn K mainGlobals "MOST_HIGH" =some (some (.int 7 t2))):Gs mg/\mg "ValueError" =none:=by have k:∀x∈Bu,mg x=none:=fun x hx=>XH KX G (Zbm.mp e x hx);exact⟨⟨k _ (by simp),k _ (by simp),k _ (by simp),k _ (by simp),k _ (by simp),k _ (by simp),k _ (by simp),k _ (by simp),k _ (by simp),k _ (by simp),k _ (by simp),k _ (by simp),k _ (by simp),k _ (by simp),k _ (by simp),k _ (by simp),⟨t0,Zbc KX G lo0⟩,⟨t1,Zbc KX G lo1⟩,⟨t2,Zbc KX G lo2⟩⟩,k _ (by simp)⟩
def vK (K:ZgE)(C c:Value)(b:Bool):Bool:=match PySem.W.kitOne K C c with |some d=>d==b |none=>false
theorem GC {C c:Value}{b:Bool}(h:vK K C c b=true):PySem.W.kitOne K C c=some b:=by
 unfold vK at h;split at h
 ·rename_i d q;rw[q,Zco.mp h]
 ·cases h
def Nx (K:ZgE)(C:Addr)(iC:Nat):Bool:=(List.range 15).all fun i=>match PySem.W.nsIn K mainGlobals (DX.getD i "") with |some (some (.ref c))=>vK K (.ref C) (.ref c) (decide (i=iC)) |_=>false
def mroOk (K:ZgE)(C:Addr)(b:Value):Bool:=match PySem.W.mroIn K C b with |some d=>d |none=>false
theorem HZ {C:Addr}{b:Value}(h:mroOk K C b=true):PySem.W.mroIn K C b=some true:=by
 unfold mroOk at h;split at h
 ·rename_i d q;rw[q,h]
 ·cases h
def BD (K:ZgE)(C c:Value):Bool:=match PySem.W.exmOne K C c with |some d=>d |none=>false
theorem Vf {C c:Value}(h:BD K C c=true):PySem.W.exmOne K C c=some true:=by
 unfold BD at h;split at h
 ·rename_i d q;rw[q,h]
 ·cases h
def oB (K:ZgE)(cS C:Addr)(iC:Nat):Bool:=mroOk K C (.type "object")&&mroOk K C (.type "BaseException")&&(PySem.W.clsIn K C).isSome&&BD K (.ref C) (.ref cS)&&Nx K C iC&&vK K (.ref C) (.type "ValueError") true&&PySem.W.excIn K C qE "ValueError.__new__"
theorem JJ {h:Heap}{cS C:Addr}{iC:Nat}(KX:K.In h)(G:h.Ns mainGlobals mg)(mv:mg "ValueError" =none)(ms:mg "StepError" =some (.ref cS))(e:oB K cS C iC=true)
  (ga:PySem.W.findIn K (.ref C) "__getattribute__" =some (some (.builtin "BaseException.__getattribute__"))) (hook:PySem.W.findIn K (.ref C) "__getattr__" =some none) (cl:PySem.W.findIn K (.ref C) "__class__" =some (some (.builtin "object.__class__"))):qK K mg cS C iC/\PySem.W.excIn K C qE "ValueError.__new__" =true:=by
 unfold oB at e;simp only[ZaJ]at e;obtain⟨⟨⟨⟨⟨⟨e1,e2⟩,e3⟩,e4⟩,e5⟩,e6⟩,e7⟩:=e;refine⟨⟨⟨ga,hook,cl,HZ e1,HZ e2,e3⟩,ms,Vf e4,fun i hi=> ?_,mv,GC e6⟩,e7⟩;have:=Zbm.mp e5 i (ZbC.mpr hi);split at this
 ·rename_i c q;exact⟨c,Zbc KX G q,GC this⟩
 ·cases this
def tR (aN aP aM aL aD:Addr)(i:Nat):Addr:=if i=2 then aN else if i=4 then aP else if i=11 then aM else if i=13 then aL else aD
theorem aR.ja {x:Str}{st:Stmt}{ps:List Str}{k:Nat}{sp:Sp}{f0:Addr}(d:aR K x st)(n:PySem.W.nsIn K mainGlobals x=some (some (.ref f0)))(hb:ml x st ps)(ok:∀f fd,aE K x x st f fd->aw P w K mg base (bc P w) k f fd ps sp):cm P w K mg base k f0 sp:=by obtain⟨f,fd,e,F⟩:=d;rw[n]at e;cases e;exact⟨fd,ps,ok _ _ F,F.kp,F.binds hb⟩
def MethAt (K:ZgE)(C:Addr)(m q:Str)(st:Stmt):Prop:=∃f fd,Meth K C m f/\aE K m q st f fd
theorem Ef {C:Addr}{m q:Str}{st:Stmt}{f:Addr}{oc:Value}{od an:Option Addr}{dZ:Array (Option Value)}{kV doc pm cdv ct:Value}(e1:PySem.W.findIn K (.ref C) m=some (some (.ref f)))
  (e2:K.lookup f=some ⟨oc,od,.func (PySem.W.fnOf m q (dC st) (cE st) (ay st) .none kV doc pm an cdv ct),dZ⟩) (e3:PySem.W.codeIn K cdv q=true) (e4:PySem.W.keepIn K (.ref f)=true) (e5:PySem.W.isFn K (.ref f)=true):MethAt K C m q st:=⟨f,_,⟨e1,e5,e4⟩,Ua e2 e3 e4⟩
def IP (K:ZgE)(C:Addr):Prop:=∃f fd,Mk K C f/\aE K "__init__" "Desk.__init__" pE f fd
theorem NW {C:Addr}{f:Addr}{oc:Value}{od an:Option Addr}{dZ:Array (Option Value)}{kV doc pm cdv ct:Value}(e0:PySem.W.makesIn K C=true)(e1:PySem.W.findIn K (.ref C) "__init__" =some (some (.ref f)))
  (e2:K.lookup f=some ⟨oc,od,.func (PySem.W.fnOf "__init__" "Desk.__init__" (dC pE) (cE pE) (ay pE) .none kV doc pm an cdv ct),dZ⟩) (e3:PySem.W.codeIn K cdv "Desk.__init__" =true) (e4:PySem.W.keepIn K (.ref f)=true) (e5:PySem.W.isFn K (.ref f)=true) (e6:PySem.W.keepIn K (.ref C)=true):IP K C:=⟨f,_,⟨e0,e1,e5,e6⟩,Ua e2 e3 e4⟩
theorem Av {a:Addr}{ai:List (Key×V)}{es:Array DictEntry}{ep:Nat}(e1:K.lookup a=some ⟨.type "dict",none,.dict es ep, #[]⟩)(hs:(a==sysModules)=false)(hp:Paired (xu w) es.toList ai)(nd:(ai.map (·.1)).Nodup):iY K w a ai:=⟨_,es,ep,e1,⟨rfl,rfl,rfl⟩,rfl,hs,hp,nd⟩
abbrev C3 (x q:Str)(st:Stmt)(ps:List Str):Prop:=∀(kV doc pm:Value) (an:Option Addr) (cdv ct:Value) (us:List Value),us.length=ps.length->bindArgs (PySem.W.fnOf x q (dC st) (cE st) (ay st) .none kV doc pm an cdv ct) ⟨us,[]⟩=pure (ps.zip us)
theorem MethAt.to {C:Addr}{m q:Str}{st:Stmt}{ps:List Str}{k:Nat}{sp:Sp}(d:MethAt K C m q st)(hb:C3 m q st ps)(ok:∀f fd,aE K m q st f fd->aw P w K mg base (bc P w) k f fd ps sp):j9 P w K mg base C k m ps sp:=by obtain⟨f,fd,M,F⟩:=d;exact⟨f,fd,ok f fd F,M,F.binds hb⟩
theorem c1 {x q a:Str}{st:Stmt}(h:∀(kV doc pm:Value) (an:Option Addr) (cdv ct u:Value),bindArgs (PySem.W.fnOf x q (dC st) (cE st) (ay st) .none kV doc pm an cdv ct) ⟨[u],[]⟩=pure [(a,u)]):C3 x q st [a]:=fun kV doc pm an cdv ct us hl=>match us,hl with | [u],_=>h kV doc pm an cdv ct u
theorem c2 {x q a b:Str}{st:Stmt}(h:∀(kV doc pm:Value) (an:Option Addr) (cdv ct u v:Value),bindArgs (PySem.W.fnOf x q (dC st) (cE st) (ay st) .none kV doc pm an cdv ct) ⟨[u,v],[]⟩=pure [(a,u),(b,v)]):C3 x q st [a,b]:=fun kV doc pm an cdv ct us hl=>match us,hl with | [u,v],_=>h kV doc pm an cdv ct u v
theorem cm.up {f:Addr}{sp:Sp}(h:cm P w K mg base 10 f sp):cm P w K mg base 116 f sp:=by obtain⟨fd,ps,F,k,b⟩:=h;exact⟨fd,ps,F.mono .d,k,b⟩
set_option maxHeartbeats 4000000 in
theorem NQ {fR cR PR:Addr}{M6:Value}{M5 RG:Option Addr}{NV QR MC Rw:Value}{MS:Array (Option Value)}{h:Heap}{fa c f cS aN aP aM aL aD:Addr}{oc:Value}{od an:Option Addr}{kV doc pm ct:Value}{dZ:Array (Option Value)}{t0 t1 t2:Tok}(KX:K.In h)(G:h.Ns mainGlobals mg)(hmg:mg "law" =some (.ref fa))
  (d0:aR K "is_whole" yQ) (d1:aR K "is_whole_within" yO) (d2:aR K "need_whole_within" zi) (d3:aR K "is_tuple_of" yU) (d4:aR K "is_board" zR) (d5:aR K "need_board" zh) (d6:aR K "need_at_most" U.pC) (d7:aR K "is_lay" zp) (d8:aR K "need_lay" zg) (d9:aR K "is_line" zx) (wQ:aR K "is_bare_line" zy) (Rr:aR K "with_point" S.yR) (Rq:aR K "points" zd) (Rp:aR K "point_pairs" ze) (Ro:aR K "steps" y3) (Rn:aR K "first_like" zK) (Rm:aR K "is_unlike" yS) (Gf:aR K "need_small" U.pB) (Rl:aR K "free_rows" S.zN) (Ge:aR K "all_fits" U.pH) (Gd:aR K "fits_many" U.pF) (Gb:aR K "first_fit" U.pG) (Rk:aR K "number_of" zj) (Rj:aR K "lay_text" zr) (Ri:aR K "new_board" zk) (Rh:aR K "put_point" zf) (Rg:aR K "take_point" yW) (BN:aR K "words_of" vd) (Rf:aR K "tell_shown" yZ) (Rc:aR K "tell_like" yV) (F9:aR K "tell_free" vm) (F8:aR K "tell_many" ve) (F7:aR K "tell_first" vf) (Rb:aR K "makes_line" zm) (Ra:aR K "read_line" zc) (Q9:aR K "_law_cell_at" zQ) (Q8:aR K "_law_state" y4) (Q7:aR K "_law_take" yX) (F6:aR K "_law_refused" zb) (Q6:aR K "_law_steps" zt) (Q5:aR K "_law_like" zo) (Q4:aR K "_law_unlike" zq) (Q3:aR K "_law_free" S.zu) (Q1:aR K "_law_fits" S.zv) (Q0:aR K "_law_text" yY) (F5:aR K "_law_words" vh) (QZ:aR K "_law_deed" zP) (QY:aR K "_law_dues" zO) (QX:aR K "_law_stand" za) (QW:aR K "_law_great_right" vk)
  (r1R:PySem.W.nsIn K mainGlobals "_law_said" =some (some (.ref fR))) (r2R:K.lookup fR=some ⟨M6,M5,.func (PySem.W.fnOf "_law_said" "_law_said" (dC eR) (cE eR) (ay eR) .none NV QR MC RG (.ref cR) Rw),MS⟩) (r3R:PySem.W.codeIn K (.ref cR) "_law_said" =true) (r4R:PySem.W.codeHdIn K cR PR=true) (r5R:PySem.W.keepIn K (.ref fR)=true)
  (l1:PySem.W.nsIn K mainGlobals "law" =some (some (.ref f))) (l2:K.lookup f=some ⟨oc,od,.func (PySem.W.fnOf "law" "law" (dC gh) (cE gh) (ay gh) .none kV doc pm an (.ref c) ct),dZ⟩) (l3:PySem.W.codeIn K (.ref c) "law" =true) (l5:PySem.W.keepIn K (.ref f)=true)
  (g1:Bu.all (vE K)=true) (lo0:PySem.W.nsIn K mainGlobals "LONGEST_SIDE" =some (some (.int 12 t0))) (lo1:PySem.W.nsIn K mainGlobals "MOST_WIDE" =some (some (.int 6 t1))) (lo2:PySem.W.nsIn K mainGlobals "MOST_HIGH" =some (some (.int 7 t2)))
  (eN:PySem.W.nsIn K mainGlobals "NoNumber" =some (some (.ref aN))) (eP:PySem.W.nsIn K mainGlobals "NoPoint" =some (some (.ref aP))) (eM:PySem.W.nsIn K mainGlobals "TooMany" =some (some (.ref aM))) (eL:PySem.W.nsIn K mainGlobals "NoLine" =some (some (.ref aL))) (eD:PySem.W.nsIn K mainGlobals "NoDeed" =some (some (.ref aD))) (eS:PySem.W.nsIn K mainGlobals "StepError" =some (some (.ref cS)))
  (xN:oB K cS aN 2=true) (xP:oB K cS aP 4=true) (xM:oB K cS aM 11=true) (xL:oB K cS aL 13=true) (xD:oB K cS aD 14=true) {gQ gD gM D fS fL fF fM f1 fB fP fT:Addr} (qQ:PySem.W.nsIn K mainGlobals "QUESTIONS" =some (some (.ref gQ))) (kQ:iY K w gQ (DK fS fL fF fM f1)) (nS:PySem.W.nsIn K mainGlobals "tell_shown" =some (some (.ref fS))) (nL:PySem.W.nsIn K mainGlobals "tell_like" =some (some (.ref fL))) (nF:PySem.W.nsIn K mainGlobals "tell_free" =some (some (.ref fF))) (nM:PySem.W.nsIn K mainGlobals "tell_many" =some (some (.ref fM))) (n1:PySem.W.nsIn K mainGlobals "tell_first" =some (some (.ref f1))) (qD:PySem.W.nsIn K mainGlobals "DEEDS" =some (some (.ref gD))) (kD:iY K w gD (F4 fB fP fT)) (nB:PySem.W.nsIn K mainGlobals "new_board" =some (some (.ref fB))) (nP:PySem.W.nsIn K mainGlobals "put_point" =some (some (.ref fP))) (nT:PySem.W.nsIn K mainGlobals "take_point" =some (some (.ref fT))) (qM:PySem.W.nsIn K mainGlobals "MANY_NUMBERS" =some (some (.ref gM))) (kM:iY K w gM pV) (qC:PySem.W.nsIn K mainGlobals "Desk" =some (some (.ref D))) (cC:iF K D) (nC:me K D "states") (mI:IP K D) (mY:MethAt K D "say" "Desk.say" vg) (mU:MethAt K D "undo" "Desk.undo" yT)
  (gaN:PySem.W.findIn K (.ref aN) "__getattribute__" =some (some (.builtin "BaseException.__getattribute__"))) (hoN:PySem.W.findIn K (.ref aN) "__getattr__" =some none) (clN:PySem.W.findIn K (.ref aN) "__class__" =some (some (.builtin "object.__class__")))
  (gaP:PySem.W.findIn K (.ref aP) "__getattribute__" =some (some (.builtin "BaseException.__getattribute__"))) (hoP:PySem.W.findIn K (.ref aP) "__getattr__" =some none) (clP:PySem.W.findIn K (.ref aP) "__class__" =some (some (.builtin "object.__class__")))
  (gaM:PySem.W.findIn K (.ref aM) "__getattribute__" =some (some (.builtin "BaseException.__getattribute__"))) (hoM:PySem.W.findIn K (.ref aM) "__getattr__" =some none) (clM:PySem.W.findIn K (.ref aM) "__class__" =some (some (.builtin "object.__class__")))
  (gaL:PySem.W.findIn K (.ref aL) "__getattribute__" =some (some (.builtin "BaseException.__getattribute__"))) (hoL:PySem.W.findIn K (.ref aL) "__getattr__" =some none) (clL:PySem.W.findIn K (.ref aL) "__class__" =some (some (.builtin "object.__class__")))
  (gaD:PySem.W.findIn K (.ref aD) "__getattribute__" =some (some (.builtin "BaseException.__getattribute__"))) (hoD:PySem.W.findIn K (.ref aD) "__getattr__" =some none) (clD:PySem.W.findIn K (.ref aD) "__class__" =some (some (.builtin "object.__class__"))):
  ∃fd:FuncData,(∀(s:Shared) (u:Value),BindsTo s fd ⟨[u],[]⟩ [("_law_script",u)])/\∀base:Heap,K.In base->base.Ns mainGlobals mg->uv mg base->aw P w K mg base aF 120 fa fd ["_law_script"] (yr K PR):=by
 have e0:=hmg.symm.trans (Zbc KX G l1);cases e0;obtain⟨gs,mv⟩:=SR KX G g1 lo0 lo1 lo2;have ms:=Zbc KX G eS;obtain⟨MN,yN⟩:=JJ KX G mv ms xN gaN hoN clN;have BE:Exc K mg "NoNumber" aN:=⟨Zbc KX G eN,yN⟩;obtain⟨MP,yP⟩:=JJ KX G mv ms xP gaP hoP clP;have FU:Exc K mg "NoPoint" aP:=⟨Zbc KX G eP,yP⟩;obtain⟨MM,yM⟩:=JJ KX G mv ms xM gaM hoM clM;have QB:Exc K mg "TooMany" aM:=⟨Zbc KX G eM,yM⟩;obtain⟨ML,yL⟩:=JJ KX G mv ms xL gaL hoL clL;have FV:Exc K mg "NoLine" aL:=⟨Zbc KX G eL,yL⟩;obtain⟨MD,yD⟩:=JJ KX G mv ms xD gaD hoD clD;have QC:Exc K mg "NoDeed" aD:=⟨Zbc KX G eD,yD⟩;have DC:qO K D:=⟨cC,nC⟩;refine⟨PySem.W.fnOf "law" "law" (dC gh) (cE gh) (ay gh) .none kV doc pm an (.ref c) ct,fun s u=> .of_eq rfl,fun base kb nb bm=> ?_⟩;have b0:∀{x:Str}{st:Stmt},(∀(kV doc pm:Value) (an:Option Addr) (cdv ct:Value),bindArgs (PySem.W.fnOf x x (dC st) (cE st) (ay st) .none kV doc pm an cdv ct) ⟨[],[]⟩=pure [])->ml x st []:=fun h kV doc pm an cdv ct us hl=>match us,hl with | [],_=>h kV doc pm an cdv ct
 have b1:∀{x a:Str}{st:Stmt},(∀(kV doc pm:Value) (an:Option Addr) (cdv ct u:Value),bindArgs (PySem.W.fnOf x x (dC st) (cE st) (ay st) .none kV doc pm an cdv ct) ⟨[u],[]⟩=pure [(a,u)])->ml x st [a]:=fun h kV doc pm an cdv ct us hl=>match us,hl with | [u],_=>h kV doc pm an cdv ct u
 have b2:∀{x a b:Str}{st:Stmt},(∀(kV doc pm:Value) (an:Option Addr) (cdv ct u v:Value),bindArgs (PySem.W.fnOf x x (dC st) (cE st) (ay st) .none kV doc pm an cdv ct) ⟨[u,v],[]⟩=pure [(a,u),(b,v)])->ml x st [a,b]:=fun h kV doc pm an cdv ct us hl=>match us,hl with | [u,v],_=>h kV doc pm an cdv ct u v
 have b3:∀{x a b c:Str}{st:Stmt},(∀(kV doc pm:Value) (an:Option Addr) (cdv ct u v w:Value),bindArgs (PySem.W.fnOf x x (dC st) (cE st) (ay st) .none kV doc pm an cdv ct) ⟨[u,v,w],[]⟩=pure [(a,u),(b,v),(c,w)])->ml x st [a,b,c]:=fun h kV doc pm an cdv ct us hl=>match us,hl with | [u,v,w],_=>h kV doc pm an cdv ct u v w
 have b4:∀{x a b c d:Str}{st:Stmt},(∀(kV doc pm:Value) (an:Option Addr) (cdv ct u v w y:Value),bindArgs (PySem.W.fnOf x x (dC st) (cE st) (ay st) .none kV doc pm an cdv ct) ⟨[u,v,w,y],[]⟩=pure [(a,u),(b,v),(c,w),(d,y)])->ml x st [a,b,c,d]:=fun h kV doc pm an cdv ct us hl=>match us,hl with | [u,v,w,y],_=>h kV doc pm an cdv ct u v w y
 have good:∀b':Heap,j9 P w K mg b' D 11 "say" ["self", "line"] (jc False K D (tR aN aP aM aL aD))/\j9 P w K mg b' D 117 "say" ["self", "line"] (jc True K D (tR aN aP aM aL aD)):=fun b'=>by have D0:Def P w K mg b' 1 "is_whole" ["thing"] (yd K):=d0.to KX G (b1 fun _ _ _ _ _ _ _=>rfl) fun f fd F=>Xg F gs;have D1:Def P w K mg b' 2 "is_whole_within" ["thing", "least", "most"] (oW K):=d1.to KX G (b3 fun _ _ _ _ _ _ _ _ _=>rfl) fun f fd F=>XO F D0;have oJ:dW P w K mg b' 3 "need_whole_within" ["number", "least", "most"] (uN aN):=d2.kI KX G (b3 fun _ _ _ _ _ _ _ _ _=>rfl) fun f fd F=>Su F BE.m BE.x D1;have D3:Def P w K mg b' 1 "is_tuple_of" ["thing", "many"] (uI K):=d3.to KX G (b2 fun _ _ _ _ _ _ _ _=>rfl) fun f fd F=>Xf F gs;have D4:Def P w K mg b' 3 "is_board" ["thing"] (uX K):=d4.to KX G (b1 fun _ _ _ _ _ _ _=>rfl) fun f fd F=>Xy F gs D3 D1;have D5:Def P w K mg b' 4 "need_board" ["board"] (yj K):=d5.to KX G (b1 fun _ _ _ _ _ _ _=>rfl) fun f fd F=>Zak F D4;have D6:Def P w K mg b' 5 "is_lay" ["board", "thing"] (yq K):=d7.to KX G (b2 fun _ _ _ _ _ _ _ _=>rfl) fun f fd F=>Sf F gs D5 D3 D1;have xx:Def P w K mg b' 6 "need_lay" ["board", "lay"] o8:=d8.to KX G (b2 fun _ _ _ _ _ _ _ _=>rfl) fun f fd F=>ZbK F D6;have CC:dW P w K mg b' 1 "need_at_most" ["board", "wide", "high"] (ym aM):=d6.kI KX G (b3 fun _ _ _ _ _ _ _ _ _=>rfl) fun f fd F=>TY F QB;have DIL:Def P w K mg b' 3 "is_line" ["lay", "thing"] (yt K):=d9.to KX G (b2 fun _ _ _ _ _ _ _ _=>rfl) fun f fd F=>Sm F gs D1;have I9:Def P w K mg b' 4 "is_bare_line" ["lay", "thing"] uS:=wQ.to KX G (b2 fun _ _ _ _ _ _ _ _=>rfl) fun f fd F=>Sd F DIL;have iE:Def P w K mg b' 1 "with_point" ["lay", "line", "row"] S.oX:=Rr.to KX G (b3 fun _ _ _ _ _ _ _ _ _=>rfl) fun f fd F=>S.MT F;have Rns:dW P w K mg b' 7 "need_small" ["board", "lay"] (g9 aM):=Gf.kI KX G (b2 fun _ _ _ _ _ _ _ _=>rfl) fun f fd F=>TZ F gs xx CC;have IB:dW P w K mg b' 8 "all_fits" ["board", "lay"] (g9 aM):=Ge.kI KX G (b2 fun _ _ _ _ _ _ _ _=>rfl) fun f fd F=>R7 F Rns;have Rfm:dW P w K mg b' 9 "fits_many" ["board", "lay"] (g9 aM):=Gd.kI KX G (b2 fun _ _ _ _ _ _ _ _=>rfl) fun f fd F=>R9 F gs IB;have Rff:dW P w K mg b' 9 "first_fit" ["board", "lay"] (g9 aM):=Gb.kI KX G (b2 fun _ _ _ _ _ _ _ _=>rfl) fun f fd F=>R8 F gs IB;have CS:Def P w K mg b' 1 "number_of" ["word"] yl:=Rk.to KX G (b1 fun _ _ _ _ _ _ _=>rfl) fun f fd F=>Ss F gs;have CW:Def P w K mg b' 7 "lay_text" ["board", "lay"] o9:=Rj.to KX G (b2 fun _ _ _ _ _ _ _ _=>rfl) fun f fd F=>So F gs xx;have CA:dW P w K mg b' 1 "words_of" ["numbers"] (fun _ _ _ _=>False):=BN.kI KX G (b1 fun _ _ _ _ _ _ _=>rfl) fun f fd F=>XA;have hS:cm P w K mg b' 10 fS uK:=Rf.ja nS (b3 fun _ _ _ _ _ _ _ _ _=>rfl) fun f fd F=> (SF F CW).any.mono .d;have hF:cm P w K mg b' 10 fF (uU aN):=F9.ja nF (b3 fun _ _ _ _ _ _ _ _ _=>rfl) fun f fd F=> (Sb F BE I9).mono .d;have hM:cm P w K mg b' 10 fM (kO aM):=F8.ja nM (b3 fun _ _ _ _ _ _ _ _ _=>rfl) fun f fd F=>T5 F gs Rfm;have h1:cm P w K mg b' 10 f1 (kO aM):=F7.ja n1 (b3 fun _ _ _ _ _ _ _ _ _=>rfl) fun f fd F=>T4 F gs CA Rff;have hB:cm P w K mg b' 10 fB uO:=Ri.ja nB (b3 fun _ _ _ _ _ _ _ _ _=>rfl) fun f fd F=> (Sr F).any.mono .d;have hP:cm P w K mg b' 10 fP (oZ aN aP):=Rh.ja nP (b3 fun _ _ _ _ _ _ _ _ _=>rfl) fun f fd F=> (Sv F FU.m FU.x oJ iE).mono .d;have hT:cm P w K mg b' 10 fT (rb aN):=Rg.ja nT (b3 fun _ _ _ _ _ _ _ _ _=>rfl) fun f fd F=> (SA F oJ iE).mono .d;have CU:Def P w K mg b' 4 "makes_line" ["word", "numbers"] yo:=Rb.to KX G (b2 fun _ _ _ _ _ _ _ _=>rfl) fun f fd F=>Sq F gs (Zbc KX G qM) kM D4;have xj:dW P w K mg b' 5 "read_line" ["line"] (oY K aL):=Ra.kI KX G (b1 fun _ _ _ _ _ _ _=>rfl) fun f fd F=>Sw F gs FV.m FV.x CS CU;have xl:j9 P w K mg b' D 1 "undo" ["self"] (ye D aD):=mU.to (c1 fun _ _ _ _ _ _ _=>rfl) fun f fd F=>SH F gs DC QC;have hY:j9 P w K mg b' D 11 "say" ["self", "line"] (jc False K D (tR aN aP aM aL aD)):=mY.to (c2 fun _ _ _ _ _ _ _ _=>rfl) fun f fd F=>G6 (k:=10) .d F DC (Zbc KX G qQ) kQ (Zbc KX G qD) kD xj xl hS hF hM h1 hB hP hT fun h=>h.elim;have CT:Def P w K mg b' 1 "need_at_most" ["board", "wide", "high"] S.yn:=d6.to KX G (b3 fun _ _ _ _ _ _ _ _ _=>rfl) fun f fd F=>S.MV F;have D7:Def P w K mg b' 107 "points" ["board", "lay"] yh:=Rq.to KX G (b2 fun _ _ _ _ _ _ _ _=>rfl) fun f fd F=>XN F gs xx;have D8:Def P w K mg b' 108 "point_pairs" ["board", "lay"] yi:=Rp.to KX G (b2 fun _ _ _ _ _ _ _ _=>rfl) fun f fd F=>XB F D7;have D9:Def P w K mg b' 109 "steps" ["board", "lay"] yf:=Ro.to KX G (b2 fun _ _ _ _ _ _ _ _=>rfl) fun f fd F=>XD F gs D8;have Kd:Def P w K mg b' 110 "first_like" ["board", "lay"] uV:=Rn.to KX G (b2 fun _ _ _ _ _ _ _ _=>rfl) fun f fd F=>Xz F gs D9;have Kc:Def P w K mg b' 111 "is_unlike" ["board", "lay"] uH:=Rm.to KX G (b2 fun _ _ _ _ _ _ _ _=>rfl) fun f fd F=>T6 F Kd;have CQ:Def P w K mg b' 7 "need_small" ["board", "lay"] S.yk:=Gf.to KX G (b2 fun _ _ _ _ _ _ _ _=>rfl) fun f fd F=>S.MU F gs xx CT;have Kb:Def P w K mg b' 112 "free_rows" ["board", "lay", "line"] S.mB:=Rl.to KX G (b3 fun _ _ _ _ _ _ _ _ _=>rfl) fun f fd F=>S.MZ F gs Kc iE;have Ka:Def P w K mg b' 113 "all_fits" ["board", "lay"] S.kP:=Ge.to KX G (b2 fun _ _ _ _ _ _ _ _=>rfl) fun f fd F=>S.M4 F gs CQ Kc iE Kb;have D17:Def P w K mg b' 114 "fits_many" ["board", "lay"] S.yw:=Gd.to KX G (b2 fun _ _ _ _ _ _ _ _=>rfl) fun f fd F=>S.M0 F gs Ka;have D18:Def P w K mg b' 114 "first_fit" ["board", "lay"] S.yx:=Gb.to KX G (b2 fun _ _ _ _ _ _ _ _=>rfl) fun f fd F=>S.M3 F gs Ka;have CN:Def P w K mg b' 1 "words_of" ["numbers"] oV:=BN.to KX G (b1 fun _ _ _ _ _ _ _=>rfl) fun f fd F=>T7 F gs;have oS:Def P w K mg b' 1 "words_of" ["numbers"] uG:=BN.to KX G (b1 fun _ _ _ _ _ _ _=>rfl) fun f fd F=>T8 F gs;have zL:cm P w K mg b' 116 fL uJ:=Rc.ja nL (b3 fun _ _ _ _ _ _ _ _ _=>rfl) fun f fd F=> (SD F Kd oS).any.mono .d;have zF:cm P w K mg b' 116 fF uT:=F9.ja nF (b3 fun _ _ _ _ _ _ _ _ _=>rfl) fun f fd F=> (Sa F I9 Kb CN).any.mono .d;have zM:cm P w K mg b' 116 fM (pe fun hg xs=>aO ((S.ba hg xs xs.length).length:Int)):=F8.ja nM (b3 fun _ _ _ _ _ _ _ _ _=>rfl) fun f fd F=> (SE F gs D17).any.mono .d;have z1:cm P w K mg b' 116 f1 (pe fun hg xs=>dB (S.ba hg xs xs.length)):=F7.ja n1 (b3 fun _ _ _ _ _ _ _ _ _=>rfl) fun f fd F=> (Sz F D18 oS).any.mono .d;have hZ:j9 P w K mg b' D 117 "say" ["self", "line"] (jc True K D (tR aN aP aM aL aD)):=mY.to (c2 fun _ _ _ _ _ _ _ _=>rfl) fun f fd F=>G6 (k:=116) .d F DC (Zbc KX G qQ) kQ (Zbc KX G qD) kD xj xl hS.up hF.up hM.up h1.up hB.up hP.up hT.up fun _=> ⟨zL,zF,zM,z1⟩;exact⟨hY,hZ⟩
 have hR:∀b':Heap,Def P w K mg b' 13 "_law_refused" ["_law_call"] (uM P w K mg b' cS 12):=fun b'=>F6.to KX G (b1 fun _ _ _ _ _ _ _=>rfl) fun f fd F=>T1 F gs;have E1:Def P w K mg base 1 "_law_cell_at" ["_law_script", "_law_k"] (yy K):=Q9.to KX G (b2 fun _ _ _ _ _ _ _ _=>rfl) fun f fd F=>Tr F gs;have E2:Def P w K mg base 102 "_law_state" ["_law_script", "_law_k"] (yg K):=Q8.to KX G (b2 fun _ _ _ _ _ _ _ _=>rfl) fun f fd F=>XC F gs E1;have E3:Def P w K mg base 1 "_law_take" ["_law_state_here", "_law_many"] rf:=Q7.to KX G (b2 fun _ _ _ _ _ _ _ _=>rfl) fun f fd F=>VN F;have E4:Def P w K mg base 1 "_law_steps" ["_law_lay"] (uQ K):=Q6.to KX G (b1 fun _ _ _ _ _ _ _=>rfl) fun f fd F=>XM F gs;have E5:Def P w K mg base 102 "_law_like" ["_law_lay"] (yp K):=Q5.to KX G (b1 fun _ _ _ _ _ _ _=>rfl) fun f fd F=>Sn F gs E4;have E6:Def P w K mg base 2 "_law_unlike" ["_law_lay"] uP:=Q4.to KX G (b1 fun _ _ _ _ _ _ _=>rfl) fun f fd F=>ZbL F E4;have E7:Def P w K mg base 3 "_law_free" ["_law_board", "_law_lay", "_law_line"] S.mB:=Q3.to KX G (b3 fun _ _ _ _ _ _ _ _ _=>rfl) fun f fd F=>S.MW F gs E6;have E8:Def P w K mg base 103 "_law_fits" ["_law_board", "_law_lay"] S.kP:=Q1.to KX G (b2 fun _ _ _ _ _ _ _ _=>rfl) fun f fd F=>S.MY F gs E6;have E9:Def P w K mg base 1 "_law_text" ["_law_board", "_law_lay"] o9:=Q0.to KX G (b2 fun _ _ _ _ _ _ _ _=>rfl) fun f fd F=>SG F gs;have IV:Def P w K mg base 1 "_law_words" ["_law_things"] rg:=F5.to KX G (b1 fun _ _ _ _ _ _ _=>rfl) fun f fd F=>Sh F gs;have EwL:Def P w K mg base 1 "_law_words" ["_law_things"] oV:=F5.to KX G (b1 fun _ _ _ _ _ _ _=>rfl) fun f fd F=>Sg F gs;have EDe:Def P w K mg base 2 "_law_deed" ["_law_state_here", "_law_kept"] uW:=QZ.to KX G (b2 fun _ _ _ _ _ _ _ _=>rfl) fun f fd F=>Sj F gs E3;have IY:Def P w K mg base 104 "_law_dues" ["_law_kept", "_law_last"] pd:=QY.to KX G (b2 fun _ _ _ _ _ _ _ _=>rfl) fun f fd F=>Sk F gs E9 E5 IV EwL E7 E8;obtain⟨fW,Qx,QK,FR⟩:=id F6;have mW:=Zbc KX G QK;have MX:∀i∈vq,qK K mg cS (tR aN aP aM aL aD i) i:=fun i hi=>by
  simp only[Zaf,ZcK,ZdD]at hi;rcases hi with rfl |rfl |rfl |rfl |rfl
  ·exact MN
  ·exact MP
  ·exact MM
  ·exact ML
  ·exact MD
 have ES:Def P w K mg base 118 "_law_said" fA (kg D PR):=⟨fR,_,Sx r2R r3R DC (fun b'=> (good b').1) (good base).2 hR mW FR.kp MX (PySem.W.codeHd_of_K kb r4R) bm,Zbc KX G r1R,r5R,(Ua r2R r3R r5R).binds (b2 fun _ _ _ _ _ _ _ _=>rfl)⟩;have EST:Def P w K mg base 119 "_law_stand" pS (uL D PR):=QX.to KX G (b3 fun _ _ _ _ _ _ _ _ _=>rfl) fun f fd F=>Sy F IY ES;obtain⟨fI,qz,MK,FI⟩:=mI;have bI:=FI.binds (c1 fun _ _ _ _ _ _ _=>rfl);have EGR:Def P w K mg base 119 "_law_great_right" [] (yu PR):=QW.to KX G (b0 fun _ _ _ _ _ _=>rfl) fun f fd F=>Sl F gs MK (Zbc KX G qC) (Gp FI DC) bI ES E8 IV;exact Se (Ua l2 l3 l5) gs MK (Zbc KX G qC) (Gp FI DC) bI E2 E3 EDe ES IY EST EGR
end
end U
namespace PySem.W.Fast
def tw13381216594917729600:=Nat
def tw13411982330547915072:=Nat
def tw5591125598125939008:=Nat
def tw12921980575082601856:=Nat
def tw14501426845190422976:=Nat
def tw12130549740210330048:=Nat
def tw2966575840327751136:=Nat
def tw4558727619908923872:=Nat
def tw14086809419631331840:=Nat
def tw986828165684729408:=Nat
def tw2671363957588273728:=Nat
def tw4691070925816916544:=Nat
def tw8334369978369400416:=Nat
def tw1702469244275208800:=Nat
def tw14128619332392756960:=Nat
def tw12231877700746118080:=Nat
def tw4426910076785371072:=Nat
def tw8705240137607679968:=Nat
def tw2878501496762190816:=Nat
def tw15980299157591085024:=Nat
def tw7117759518989515777:=Nat
def tw4328666082086182977:=Nat
def tw13145461713970623617:=Nat
def tw3964913167451846785:=Nat
def tw13798722123155215521:=Nat
def tw15895235106148012193:=Nat
def tw15575522068840064193:=Nat
def tw17631594339726324929:=Nat
def tw1232371052669761793:=Nat
def tw16184770186965217569:=Nat
def tw15740070040875497761:=Nat
def tw17237509361152282945:=Nat
def tw18069671840056582497:=Nat
def tw12388929472275440001:=Nat
def tw14353203667744915905:=Nat
def tw7260223225019220481:=Nat
def tw9269371041878358561:=Nat
def tw14900979553366704705:=Nat
def tw1698501327804679745:=Nat
def tw6047628925871217217:=Nat
def tw314554093554930305:=Nat
def tw9382268220443131585:=Nat
def tw15249300989988757249:=Nat
def tw17608892764570781601:=Nat
def tw6883107384149416962:=Nat
def tw7520047567047825410:=Nat
def tw17677328961586577442:=Nat
def tw8477021731897420962:=Nat
def tw3879859892541947042:=Nat
def tw11914083822642607330:=Nat
def tw17654637389048192226:=Nat
def tw1707504444624232706:=Nat
def tw5120626384969251106:=Nat
def tw6493038789182694786:=Nat
def tw2119879724178496962:=Nat
def tw11916346018623195714:=Nat
def tw5807090188281056834:=Nat
def tw799595364764964418:=Nat
def tw7793400432478378562:=Nat
def tw3400580769193580130:=Nat
def tw15508192667468453474:=Nat
def tw5675182950217112226:=Nat
def tw10447494718794954434:=Nat
def tw3067608950284668642:=Nat
def tw17698755291302963106:=Nat
def tw2725519344946740130:=Nat
def tw17158707632539570146:=Nat
def tw15012057895371374595:=Nat
def tw2351880851804770307:=Nat
def tw4792845044122786915:=Nat
def tw9164626794327133379:=Nat
def tw14601067112581856451:=Nat
def tw4514628953839878403:=Nat
def tw705801214440074819:=Nat
def tw8430638695440513667:=Nat
def tw6376042748427171555:=Nat
def tw4618477272048619331:=Nat
def tw158195319325001539:=Nat
def tw6430303776464183203:=Nat
def tw10168740474958047171:=Nat
def tw16145658757250168004:=Nat
def tw7600545985769956612:=Nat
def tw15247946628070065444:=Nat
def tw1158541651156199780:=Nat
def tw8750465089105060228:=Nat
def tw1011807414266502692:=Nat
def tw9669757453699057252:=Nat
def tw15660375026842676900:=Nat
def tw13516334560677022372:=Nat
def tw11562597264309594820:=Nat
def tw535637407022361316:=Nat
def tw13679329734795865924:=Nat
def tw10063027096723213124:=Nat
def tw13091345167722163076:=Nat
def tw1614571090436209540:=Nat
def tw8737466270751799204:=Nat
def tw3009915554549182404:=Nat
def tw6639455993236631621:=Nat
def tw11521361843294540005:=Nat
def tw16061989827378810149:=Nat
def tw16703082999096283589:=Nat
def tw14274451674658632165:=Nat
def tw14699698474930500133:=Nat
def tw13436334466677468741:=Nat
def tw1679663928682188389:=Nat
def tw8898575040214471269:=Nat
def tw15652356365892872837:=Nat
def tw4077520632127927973:=Nat
def tw5584671181579083461:=Nat
def tw16180835115003047621:=Nat
def tw13314990897294779141:=Nat
def tw6724405387323436837:=Nat
def tw1084277968346565445:=Nat
def tw3959448793829996389:=Nat
def tw4204229808767452037:=Nat
def tw10297930311693100965:=Nat
def tw16128142366352380901:=Nat
def tw11655039106222303238:=Nat
def tw7128988536757313606:=Nat
def tw1461014099327249478:=Nat
def tw7320001937720260710:=Nat
def tw13206074241777482982:=Nat
def tw12952857473962173670:=Nat
def tw16431286125716351302:=Nat
def tw3338366290761550182:=Nat
def tw5208576767908117894:=Nat
def tw9639569199305072038:=Nat
def tw18022192338064757158:=Nat
def tw2948670131490767302:=Nat
def tw4923365799356151270:=Nat
def tw6822164051086599654:=Nat
def tw13292505577987940870:=Nat
def tw5724168776677868134:=Nat
def tw8943082769037778598:=Nat
def tw592977132180191974:=Nat
def tw12622338097598520038:=Nat
def tw15641058756552509350:=Nat
def tw8881246123092452294:=Nat
def tw1466068821590762470:=Nat
def tw7377883637794617351:=Nat
def tw10196767559289557063:=Nat
def tw14543546642089146471:=Nat
def tw281982039888435303:=Nat
def tw3187374532499155079:=Nat
def tw5953951569938210983:=Nat
def tw3958949177686892775:=Nat
def tw11764658791333825927:=Nat
def tw10807516413818798503:=Nat
def tw1378000652478284199:=Nat
def tw13066118773053244839:=Nat
def tw8145912240871856551:=Nat
def tw7411931297259709927:=Nat
def tw1961765115075389959:=Nat
def tw16386690652570769959:=Nat
def tw914260878659841703:=Nat
def tw4645221814288032487:=Nat
def tw14221537844155729671:=Nat
def tw5062284347920569095:=Nat
def tw16855177682949504775:=Nat
def tw8322977841801177927:=Nat
def tw10282342526285532007:=Nat
def tw3673834757035324263:=Nat
def tw5219378099023020935:=Nat
def tw12172813988522492807:=Nat
def tw15505424920902408071:=Nat
def tw6402924107673037735:=Nat
def tw5806107488948816839:=Nat
def tw16899755505092357063:=Nat
def tw9669725853981605831:=Nat
def tw17688510474166966312:=Nat
def tw16165856530514656296:=Nat
def tw17873421088726171720:=Nat
def tw6346454073201167496:=Nat
def tw17542727898966697320:=Nat
def tw14070729725992310120:=Nat
def tw1409773050944056776:=Nat
def tw15109091142382361096:=Nat
def tw15657136963350988328:=Nat
def tw5847954901430850088:=Nat
def tw12290283215692496648:=Nat
def tw9204258190926327592:=Nat
def tw17171955735599979336:=Nat
def tw10052271469225664392:=Nat
def tw4618683438812068808:=Nat
def tw17311137070148850761:=Nat
def tw17654102247836746857:=Nat
def tw15828270423417176361:=Nat
def tw7724348237067279689:=Nat
def tw15484140141568381289:=Nat
def tw12038959410773404041:=Nat
def tw11599292567388428713:=Nat
def tw7777886895562424777:=Nat
def tw1332707345757422089:=Nat
def tw11540537693352974953:=Nat
def tw15251986469101492841:=Nat
def tw14732002616774619817:=Nat
def tw2231099512224484041:=Nat
def tw6614953441481193161:=Nat
def tw12857808154250389321:=Nat
def tw18241126996797385545:=Nat
def tw6680050403922995081:=Nat
def tw9746794780841633673:=Nat
def tw5975086400096315402:=Nat
def tw1643910365544168554:=Nat
def tw2124355115240162442:=Nat
def tw8262548637355648138:=Nat
def tw14347416308986941610:=Nat
def tw7106674729727268106:=Nat
def tw14747776034828759338:=Nat
def tw14500677380114148746:=Nat
def tw5261787564039608714:=Nat
def tw5401487783341705642:=Nat
def tw14737877830623114666:=Nat
def tw8827000971792626218:=Nat
def tw9975907898033230378:=Nat
def tw18336146142847725162:=Nat
def tw12986894212072980138:=Nat
def tw10671454059031452394:=Nat
def tw3490165785355539370:=Nat
def tw3565516741105229770:=Nat
def tw9565248797312062475:=Nat
def tw14669911943324499115:=Nat
def tw10865838605762252043:=Nat
def tw2228702576660067627:=Nat
def tw3001054734972959115:=Nat
def tw6280962696638658987:=Nat
def tw7476209339046543819:=Nat
def tw14659594736515032747:=Nat
def tw8423098009026105003:=Nat
def tw17046101829533833003:=Nat
def tw3895342745798516748:=Nat
def tw5117790201532169260:=Nat
def tw11102471474442920044:=Nat
def tw13096479432849240236:=Nat
def tw4046222065407593676:=Nat
def tw17020740332161241388:=Nat
def tw6072076239946333548:=Nat
def tw1011227722608756236:=Nat
def tw7381144876968268300:=Nat
def tw1882041463291082252:=Nat
def tw5919399096446903852:=Nat
def tw579262960780727852:=Nat
def tw7496697295616820908:=Nat
def tw9626426275480496844:=Nat
def tw14389408209928139500:=Nat
def tw13458463344835697420:=Nat
def tw7229722907980545804:=Nat
def tw17370952441020710700:=Nat
def tw10336013365570233196:=Nat
def tw17262390017834016652:=Nat
def tw6627280293483962413:=Nat
def tw9555636704556026957:=Nat
def tw17167524011110819981:=Nat
def tw6383548017335318861:=Nat
def tw6999881180187809229:=Nat
def tw969343691581398509:=Nat
def tw17367463818207858157:=Nat
def tw9656838654586972685:=Nat
def tw2361794860437522989:=Nat
def tw893431545064994445:=Nat
def tw12025252376576714509:=Nat
def tw3892504040807777261:=Nat
def tw5066764117430138926:=Nat
def tw15679072980529577038:=Nat
def tw8451812771306488910:=Nat
def tw9958877409838437486:=Nat
def tw12135538527506355342:=Nat
def tw10038298375571554510:=Nat
def tw3488857456206865710:=Nat
def tw9143694400069364302:=Nat
def tw9843488444467417678:=Nat
def tw12943245426481065678:=Nat
def tw5254292062497100526:=Nat
def tw12305948574681722702:=Nat
def tw17705897674951925742:=Nat
def tw2053280001328033774:=Nat
def tw808131389758629935:=Nat
def tw17125670031649067151:=Nat
def tw1777463402292732079:=Nat
def tw12208666442375884015:=Nat
def tw7253128882289953039:=Nat
def tw144946333532210479:=Nat
def tw3064764854526140751:=Nat
def tw5360148102384637263:=Nat
def tw17546129630780347759:=Nat
def tw4799293239801821615:=Nat
def tw7182284028307964367:=Nat
def tw6386430658895364559:=Nat
def tw9083652750276975055:=Nat
def tw4618810689316944367:=Nat
def tw2380384405794587279:=Nat
def tw12682652678215257775:=Nat
def tw12366653701701076655:=Nat
def tw7395414462027340527:=Nat
def tw9580337470987641615:=Nat
def tw13213865078703665999:=Nat
def tw6509804004490850223:=Nat
def tw13205920549547016111:=Nat
def tw11096995666539072463:=Nat
def tw11580664705965712400:=Nat
def tw12492000443581396016:=Nat
def tw5682122300154767568:=Nat
def tw6648912304547942672:=Nat
def tw14503534664671270192:=Nat
def tw10369954722223145264:=Nat
def tw10095710389956043088:=Nat
def tw3480656317343298896:=Nat
def tw4280200571448636880:=Nat
def tw9843806840284947984:=Nat
def tw9342252279856973648:=Nat
def tw13018098097440115536:=Nat
def tw12076645149972953105:=Nat
def tw5947556855132887089:=Nat
def tw8049589646029664369:=Nat
def tw2715992273421890769:=Nat
def tw17957459767278389585:=Nat
def tw15735337322433230257:=Nat
def tw15955817099336495537:=Nat
def tw16693995474310036977:=Nat
def tw4174502067437855345:=Nat
def tw2217390306760486545:=Nat
def tw720446649835877009:=Nat
def tw8223932348262095537:=Nat
def tw4738246255677282993:=Nat
def tw10417950508420999889:=Nat
def tw14844854446323717937:=Nat
def tw14607232157161225041:=Nat
def tw4982924025566058385:=Nat
def tw6210126033297030065:=Nat
def tw167744537592086449:=Nat
def tw5962602048322996177:=Nat
def tw14408049213290901489:=Nat
def tw14843981008785344530:=Nat
def tw7117622319181084690:=Nat
def tw3921328655381889170:=Nat
def tw3371334435956386002:=Nat
def tw10200519946590433522:=Nat
def tw15737349463256849778:=Nat
def tw15082537435987822962:=Nat
def tw15080781172158151090:=Nat
def tw4284023473777631698:=Nat
def tw11899273785065175538:=Nat
def tw11373582052214675954:=Nat
def tw9166492179670715922:=Nat
def tw1142570593420654130:=Nat
def tw15840762059850028722:=Nat
def tw10107675411202058962:=Nat
def tw13678839713145014002:=Nat
def tw14810463822378469170:=Nat
def tw1317027738251204434:=Nat
def tw4256181328690235218:=Nat
def tw4720212069293389650:=Nat
def tw6924407225551083378:=Nat
def tw4279623241323427698:=Nat
def tw301044810912865170:=Nat
def tw9075118797007715314:=Nat
def tw14083090758964018227:=Nat
def tw9812327156280905843:=Nat
def tw7456756045832879283:=Nat
def tw7688533154426737875:=Nat
def tw6915737567691707635:=Nat
def tw1644599264968409395:=Nat
def tw10503519011487587763:=Nat
def tw16532358714680762867:=Nat
def tw13605865487343826451:=Nat
def tw13591409569949894227:=Nat
def tw17657075250000159379:=Nat
def tw13175408136717549299:=Nat
def tw15703299755316354899:=Nat
def tw13806786889585518515:=Nat
def tw7024829698087215188:=Nat
def tw14292392326734163028:=Nat
def tw3184662347558933620:=Nat
def tw523132543839757556:=Nat
def tw14372951130077780372:=Nat
def tw4944173852889490900:=Nat
def tw10772276214057105908:=Nat
def tw6534654759720431124:=Nat
def tw9949865037257180724:=Nat
def tw4478425218173034228:=Nat
def tw12612224375730191348:=Nat
def tw12898471944560777269:=Nat
def tw5535807013826996277:=Nat
def tw11890057705739103317:=Nat
def tw1837337687595417685:=Nat
def tw750729295568025717:=Nat
def tw4850036066403850549:=Nat
def tw8348193830370768213:=Nat
def tw4704227870871624085:=Nat
def tw741492889486498229:=Nat
def tw1360743645595852309:=Nat
def tw1542718248736863925:=Nat
def tw10963107569114731221:=Nat
def tw106958204196925333:=Nat
def tw5769834635126789045:=Nat
def tw2458170521870725142:=Nat
def tw12237288638983392310:=Nat
def tw2752029890208733270:=Nat
def tw3185474607780139158:=Nat
def tw3250937100520913142:=Nat
def tw8985654874772007190:=Nat
def tw4482164884147695894:=Nat
def tw6929094798502868310:=Nat
def tw16419711090748119478:=Nat
def tw8402294942286552630:=Nat
def tw12677784402984499830:=Nat
def tw7363680115274677910:=Nat
def tw5526592262287870646:=Nat
def tw17946629488082904790:=Nat
def tw18204611045971459798:=Nat
def tw3278437219987805014:=Nat
def tw4966460645195824022:=Nat
def tw11561948697879342998:=Nat
def tw9005542448870417431:=Nat
def tw13860123223633448119:=Nat
def tw2918417135438908599:=Nat
def tw13986589162462507191:=Nat
def tw2252975638221931735:=Nat
def tw198874631892081943:=Nat
def tw3279567158245842359:=Nat
def tw8342028971873324471:=Nat
def tw14248914829265399319:=Nat
def tw13450413542539233879:=Nat
def tw6481837614328106615:=Nat
def tw15955659006810685111:=Nat
def tw18399628745465429783:=Nat
def tw5107379793005032279:=Nat
def tw8300169650565156727:=Nat
def tw2005228389211758680:=Nat
def tw9873943245047712888:=Nat
def tw11071540391937586392:=Nat
def tw12649813583096537304:=Nat
def tw12167109836044730616:=Nat
def tw13548909860697459096:=Nat
def tw9276136215120402872:=Nat
def tw6409937482143339032:=Nat
def tw30470133489069688:=Nat
def tw16463306480079488664:=Nat
def tw8012531279228062360:=Nat
def tw2819102980664691384:=Nat
def tw6489540975248159416:=Nat
def tw7798254147956383512:=Nat
def tw6880522305273152280:=Nat
def tw1025026293590879000:=Nat
def tw17179622568502999896:=Nat
def tw2589170339334059896:=Nat
def tw11049479929842035608:=Nat
def tw11696677883765104665:=Nat
def tw1746261080868736185:=Nat
def tw9201395041464605913:=Nat
def tw12939511482481208537:=Nat
def tw327075187166091577:=Nat
def tw15946959076029275481:=Nat
def tw8603303191328556377:=Nat
def tw4919165950439156089:=Nat
def tw13133744599891738009:=Nat
def tw13294075691944263193:=Nat
def tw16230547974852034233:=Nat
def tw5778515120291707609:=Nat
def tw1891500151597742937:=Nat
def tw11776870631861629785:=Nat
def tw5999315817094624121:=Nat
def tw3627131839347377081:=Nat
def tw10752522591098340345:=Nat
def tw1001877671785801850:=Nat
def tw15521763916042799258:=Nat
def tw9184464871584627866:=Nat
def tw4013116842732453082:=Nat
def tw11429785805710911898:=Nat
def tw199999191775186362:=Nat
def tw18273303994738138:=Nat
def tw7267902388427240954:=Nat
def tw15671939599200206490:=Nat
def tw16255011498178306746:=Nat
def tw17148136408473153242:=Nat
def tw7858252754460782330:=Nat
def tw4322303040870215514:=Nat
def tw3910692887946778522:=Nat
def tw11407267140653148122:=Nat
def tw4669735942235613211:=Nat
def tw11525284341498276891:=Nat
def tw8935920142231567387:=Nat
def tw12173203065624603803:=Nat
def tw1511664367204131099:=Nat
def tw18392179952710757723:=Nat
def tw15246790232053136763:=Nat
def tw17135808954011208091:=Nat
def tw16109670895993077147:=Nat
def tw11184265245573899675:=Nat
def tw15516124084855003579:=Nat
def tw623319760502027707:=Nat
def tw9163172362989214171:=Nat
def tw18114939246805562843:=Nat
def tw11111104521230908923:=Nat
def tw10849839264779275867:=Nat
def tw15286926400412501595:=Nat
def tw7728046020171526779:=Nat
def tw13601010143470543515:=Nat
def tw9671595100841117595:=Nat
def tw13993979365172422555:=Nat
def tw17231133229208103867:=Nat
def tw17302071167833437147:=Nat
def tw1905735156522907643:=Nat
def tw5470795521864924188:=Nat
def tw12987904818635057212:=Nat
def tw5605194853579780188:=Nat
def tw3550468935697803356:=Nat
def tw17159955861233345660:=Nat
def tw14590296821050563772:=Nat
def tw10136441037987219708:=Nat
def tw7822813715050418460:=Nat
def tw14363951464242048380:=Nat
def tw10185892314543511100:=Nat
def tw13140932436159263324:=Nat
def tw13897247050079420060:=Nat
def tw11888765763979778748:=Nat
def tw17139709685868094268:=Nat
def tw12127507354025162556:=Nat
def tw13998425878319119292:=Nat
def tw10074790930710954940:=Nat
def tw12802797311009545180:=Nat
def tw1364606565640138781:=Nat
def tw10724181161237126205:=Nat
def tw830005868874788989:=Nat
def tw5887356166129308893:=Nat
def tw12167322949028598077:=Nat
def tw10370912537993419069:=Nat
def tw15905231528804769181:=Nat
def tw7327653380517209565:=Nat
def tw628608203144943133:=Nat
def tw13610927295697793789:=Nat
def tw1807963284995018525:=Nat
def tw11947866372205419357:=Nat
def tw2101276187097233277:=Nat
def tw1001784866833165181:=Nat
def tw2553154576016785341:=Nat
def tw7590871816229045374:=Nat
def tw4035838497749951646:=Nat
def tw6390053072475493598:=Nat
def tw10389959987194562814:=Nat
def tw11391907839530485054:=Nat
def tw7192924032935038302:=Nat
def tw7161871298301254046:=Nat
def tw11227005211914353054:=Nat
def tw7937467381128836606:=Nat
def tw9233346418138211870:=Nat
def tw14369507545155423806:=Nat
def tw10906402220199317086:=Nat
def tw5401267130176764606:=Nat
def tw17413122349420753630:=Nat
def tw10413320877576173342:=Nat
def tw16150064197166804862:=Nat
def tw491775337326825631:=Nat
def tw14329879530663184575:=Nat
def tw3835694644005541151:=Nat
def tw67036781170926879:=Nat
def tw7798382305458492735:=Nat
def tw1420736652465202559:=Nat
def tw7383389471850360255:=Nat
def tw8622702257710152127:=Nat
def tw10289379609063695839:=Nat
def tw6924678569411418591:=Nat
def tw653101893242850815:=Nat
def tw15513898695831364095:=Nat
def tw4153206949140488703:=Nat
def tw9103458029099517567:=Nat
def tw16547956612350174847:=Nat
def tw5057501809681852063:=Nat
def tw16202512953493305055:=Nat
def tw3814096030044734207:=Nat
def tw3030080653441309471:=Nat
def tw1073222950877168447:=Nat
def tw14032589526945376095:=Nat
def tw16036030668501068639:=Nat
def tw11619629319097470975:=Nat
def tw4889094656425923364:=Nat
end PySem.W.Fast
set_option maxRecDepth 100000 in
set_option maxHeartbeats 0 in
theorem PySem.Challenge.cw_unlikesteps_k92_desks_told_and_asked_holds : PySem.Challenge.rw_unlikesteps_k92_desks_told_and_asked.Holds := by
 w_on; o_law; k_head; (case hw => w_witness2)
 k_fill
 refine U.Kg (l := PySem.Challenge.rw_unlikesteps_k92_desks_told_and_asked) (n := 63) (k := 120) (x := "_law_script") (Pts := [530]) (sp := fun K => U.yr K 530) rfl .d rfl ⟨fun _ => rfl, by decide, by decide, rfl⟩ (fun w h Y => PySem.W.km_in_of Y) ?hT9 ?hC9 ?hN9 ?F ?S
 case hT9 =>
  intro w h Y P hP;simp only [List.mem_cons, List.not_mem_nil, or_false] at hP;rcases hP with rfl
  ·exact PySem.W.km_tabs_of Y 530 (by simp)
 case hC9 =>
  intro w h X P hP;simp only [List.mem_cons, List.not_mem_nil, or_false] at hP;rcases hP with rfl
  ·exact ⟨534, PySem.W.codeHd_of_K X (by kernel_rfl)⟩
 case hN9 =>
  intro w P hP;simp only [List.mem_cons, List.not_mem_nil, or_false] at hP;rcases hP with rfl
  ·kernel_rfl
 case S => exact fun K H a ns hl hs hp => ⟨a, ns, rfl, hs, hl, hp _ (by simp), fun _ => rfl⟩
 case F =>
  intro w mg fa h KX G hmg;refine' U.NQ (cR := 534) (PR := 530) (c := 570) KX G hmg (U.aW ?a0 ?b0 ?c0 ?e0) (U.aW ?a1 ?b1 ?c1 ?e1) (U.aW ?a2 ?b2 ?c2 ?e2) (U.aW ?a3 ?b3 ?c3 ?e3) (U.aW ?a4 ?b4 ?c4 ?e4) (U.aW ?a5 ?b5 ?c5 ?e5) (U.aW ?a6 ?b6 ?c6 ?e6) (U.aW ?a7 ?b7 ?c7 ?e7) (U.aW ?a8 ?b8 ?c8 ?e8) (U.aW ?a9 ?b9 ?c9 ?e9) (U.aW ?a10 ?b10 ?c10 ?e10) (U.aW ?a11 ?b11 ?c11 ?e11) (U.aW ?a12 ?b12 ?c12 ?e12) (U.aW ?a13 ?b13 ?c13 ?e13) (U.aW ?a14 ?b14 ?c14 ?e14) (U.aW ?a15 ?b15 ?c15 ?e15) (U.aW ?a16 ?b16 ?c16 ?e16) (U.aW ?a17 ?b17 ?c17 ?e17) (U.aW ?a18 ?b18 ?c18 ?e18) (U.aW ?a19 ?b19 ?c19 ?e19) (U.aW ?a20 ?b20 ?c20 ?e20) (U.aW ?a21 ?b21 ?c21 ?e21) (U.aW ?a22 ?b22 ?c22 ?e22) (U.aW ?a23 ?b23 ?c23 ?e23) (U.aW ?a24 ?b24 ?c24 ?e24) (U.aW ?a25 ?b25 ?c25 ?e25) (U.aW ?a26 ?b26 ?c26 ?e26) (U.aW ?a27 ?b27 ?c27 ?e27) (U.aW ?a28 ?b28 ?c28 ?e28) (U.aW ?a29 ?b29 ?c29 ?e29) (U.aW ?a30 ?b30 ?c30 ?e30) (U.aW ?a31 ?b31 ?c31 ?e31) (U.aW ?a32 ?b32 ?c32 ?e32) (U.aW ?a33 ?b33 ?c33 ?e33) (U.aW ?a34 ?b34 ?c34 ?e34) (U.aW ?a35 ?b35 ?c35 ?e35) (U.aW ?a36 ?b36 ?c36 ?e36) (U.aW ?a37 ?b37 ?c37 ?e37) (U.aW ?a38 ?b38 ?c38 ?e38) (U.aW ?a39 ?b39 ?c39 ?e39) (U.aW ?a40 ?b40 ?c40 ?e40) (U.aW ?a41 ?b41 ?c41 ?e41) (U.aW ?a42 ?b42 ?c42 ?e42) (U.aW ?a43 ?b43 ?c43 ?e43) (U.aW ?a44 ?b44 ?c44 ?e44) (U.aW ?a45 ?b45 ?c45 ?e45) (U.aW ?a46 ?b46 ?c46 ?e46) (U.aW ?a47 ?b47 ?c47 ?e47) (U.aW ?a48 ?b48 ?c48 ?e48) (U.aW ?a49 ?b49 ?c49 ?e49) ?r1R ?r2R ?r3R ?r4R ?r5R ?l1 ?l2 ?l3 ?l5 ?g1 ?lo0 ?lo1 ?lo2 ?eN ?eP ?eM ?eL ?eD ?eS ?xN ?xP ?xM ?xL ?xD ?qQ ?kQ ?nS ?nL ?nF ?nM ?n1 ?qD ?kD ?nB ?nP ?nT ?qM ?kM ?qC ?cC ?nC ?mI ?mY ?mU ?gaN ?hoN ?clN ?gaP ?hoP ?clP ?gaM ?hoM ?clM ?gaL ?hoL ?clL ?gaD ?hoD ?clD
  case a0|b0|c0|e0|a1|b1|c1|e1|a2|b2|c2|e2|a3|b3|c3|e3|a4|b4|c4|e4|a5|b5|c5|e5|a6|b6|c6|e6|a7|b7|c7|e7|a8|b8|c8|e8|a9|b9|c9|e9|a10|b10|c10|e10|a11|b11|c11|e11|a12|b12|c12|e12|a13|b13|c13|e13|a14|b14|c14|e14|a15|b15|c15|e15|a16|b16|c16|e16|a17|b17|c17|e17|a18|b18|c18|e18|a19|b19|c19|e19|a20|b20|c20|e20|a21|b21|c21|e21|a22|b22|c22|e22|a23|b23|c23|e23|a24|b24|c24|e24|a25|b25|c25|e25|a26|b26|c26|e26|a27|b27|c27|e27|a28|b28|c28|e28|a29|b29|c29|e29|a30|b30|c30|e30|a31|b31|c31|e31|a32|b32|c32|e32|a33|b33|c33|e33|a34|b34|c34|e34|a35|b35|c35|e35|a36|b36|c36|e36|a37|b37|c37|e37|a38|b38|c38|e38|a39|b39|c39|e39|a40|b40|c40|e40|a41|b41|c41|e41|a42|b42|c42|e42|a43|b43|c43|e43|a44|b44|c44|e44|a45|b45|c45|e45|a46|b46|c46|e46|a47|b47|c47|e47|a48|b48|c48|e48|a49|b49|c49|e49|r1R|r2R|r3R|r5R|l1|l2|l3|l5|lo0|lo1|lo2|eN|eP|eM|eL|eD|eS|qQ|nS|nL|nF|nM|n1|qD|nB|nP|nT|qM|qC|gaN|hoN|clN|gaP|hoP|clP|gaM|hoM|clM|gaL|hoL|clL|gaD|hoD|clD=>k_is
  case r4R|g1|xN|xP|xM|xL|xD=>kernel_rfl
  case kQ =>
   refine' U.Av ?kQa ?kQb ?kQc ?kQd
   (case kQa => k_is)
   (case kQb => exact rfl)
   (case kQc => exact .cons ⟨rfl, rfl, rfl⟩ (.cons ⟨rfl, rfl, rfl⟩ (.cons ⟨rfl, rfl, rfl⟩ (.cons ⟨rfl, rfl, rfl⟩ (.cons ⟨rfl, rfl, rfl⟩ .nil)))))
   (case kQd => decide)
  case kD =>
   refine' U.Av ?kDa ?kDb ?kDc ?kDd
   (case kDa => k_is)
   (case kDb => exact rfl)
   (case kDc => exact .cons ⟨rfl, rfl, rfl⟩ (.cons ⟨rfl, rfl, rfl⟩ (.cons ⟨rfl, rfl, rfl⟩ .nil)))
   (case kDd => decide)
  case kM =>
   refine' U.Av ?kMa ?kMb ?kMc ?kMd
   (case kMa => k_is)
   (case kMb => exact rfl)
   (case kMc => exact .cons ⟨rfl, rfl, ⟨_, rfl⟩⟩ (.cons ⟨rfl, rfl, ⟨_, rfl⟩⟩ (.cons ⟨rfl, rfl, ⟨_, rfl⟩⟩ (.cons ⟨rfl, rfl, ⟨_, rfl⟩⟩ (.cons ⟨rfl, rfl, ⟨_, rfl⟩⟩ (.cons ⟨rfl, rfl, ⟨_, rfl⟩⟩ (.cons ⟨rfl, rfl, ⟨_, rfl⟩⟩ (.cons ⟨rfl, rfl, ⟨_, rfl⟩⟩ (.cons ⟨rfl, rfl, ⟨_, rfl⟩⟩ .nil)))))))))
   (case kMd => decide)
  (case cC => exact ⟨by kernel_rfl, by kernel_rfl, by kernel_rfl, by k_is⟩)
  (case nC => (show PySem.W.findIn _ _ _ = some none); k_is)
  case mI =>
   refine' U.NW ?i0 ?i1 ?i2 ?i3 ?i4 ?i5 ?i6
   (case i0 => kernel_rfl); (case i1 => k_is); (case i2 => k_is); (case i3 => k_is); (case i4 => k_is); (case i5 => k_is); (case i6 => k_is)
  case mY =>
   refine' U.Ef ?mY1 ?mY2 ?mY3 ?mY4 ?mY5
   (case mY1 => k_is); (case mY2 => k_is); (case mY3 => k_is); (case mY4 => k_is); (case mY5 => k_is)
  case mU =>
   refine' U.Ef ?mU1 ?mU2 ?mU3 ?mU4 ?mU5
   (case mU1 => k_is); (case mU2 => k_is); (case mU3 => k_is); (case mU4 => k_is); (case mU5 => k_is)
