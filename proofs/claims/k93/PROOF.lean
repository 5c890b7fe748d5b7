import PyProof.Rows.All
import Wide.All
import OpenK.AllK
import Wide.FinOn
import Lean
import PyProof.EqAt
import PyProof.EqKinds
import PyProof.TupleCall
import PyProof.NeKinds
import PyProof.Rows.TupIter
import PyProof.Rows.SetFrom
import PyProof.RangeIter
import PyProof.ExcClass2
import PyProof.StationsW
import PyProof.Rows.Catch
import PyProof.Rows.SortWalk
import PyProof.IsRules
import PyProof.StrCalls2
import PyProof.CollectIter
import PyProof.StrLawsChain
import PyProof.StrBlockI
import PyProof.Rows.StrRev
import PySem.Challenge.RW_unlikesteps_k93_desks_refuse_lines
set_option Elab.async false
set_option linter.all false
set_option maxRecDepth 100000
set_option maxHeartbeats 0
namespace L2
open PySem PySem.Spec PyProof.Rows
def bb (h:Heap):Option Value→Prop
 |none=>True
 |some v=> ∃a o vs C,v=.ref a∧h.get? a=some o∧o.cls=.ref C∧o.data=.fields vs∧vs[2]? =some .none
theorem bb.keeps {h h':Heap}{x:Option Value}(hd:bb h x) (k:∀b o,h.get? b=some o→h'.get? b=some o):bb h' x:=by
 cases x with
 |none=>trivial
 |some v=>
  obtain⟨a,o,vs,C,e,h1,h2⟩:=hd
  exact⟨a,o,vs,C,e,k _ _ h1,h2⟩
theorem bb.but {h h':Heap}{x:Option Value}{i:Addr}{o:Obj}{T:String}(k:∀b o,b≠i→h.get? b=some o→h'.get? b=some o) (hi:h.get? i=some o) (hT:o.cls=.type T) (hd:bb h x):bb h' x:=by
 cases x with
 |none=>trivial
 |some v=>
  obtain⟨a,oa,vs,C,e,h1,h2,h3⟩:=hd
  refine⟨a,oa,vs,C,e,k _ _ (fun z=> ?_) h1,h2,h3⟩
  rw[z,hi]at h1
  cases h1
  rw[hT]at h2
  cases h2
theorem W3:entryFor table "proto.unchain" =some Builtin.«proto.unchain» :=entryFor_of_fast (by kernel_rfl)
theorem Ut:plainId "proto.unchain" =true:=by decide+kernel
def qi (h:Heap) (e:Addr) (c:Value):Prop:=∃o vs,h.get? e=some o∧o.data=.fields vs∧vs[2]? =some c
section
variable {prog:Program}{w:World}{A:Around}{E:Value→Shared→Prop}{s:Shared}{α:Type}
theorem JR {e:Addr}{oe:Obj}{vs:Array Value}{Q:α→Shared→Prop}(hd:bb s.heap A.handled) (cm:A.handled≠some (.ref e)) (he:s.heap.get? e=some oe) (D8:oe.data=.fields vs) (hz:2<vs.size)
  (h0:A.handled=none→E (.ref e) s) (h1:∀v,A.handled=some v→E (.ref e) {s with heap:=s.heap.update e (Obj.mapFields (·.setIfInBounds 2 v))}):wpAny (model prog w) A (raiseNew (.ref e):Sem α) Q E s:=by
 unfold raiseNew
 refine wpAny_bind (wpAny_handled ?_)
 cases hA:A.handled with
 |none=>exact wpAny_bind (wpAny_pure (wpAny_throw (h0 hA)))
 |some v=>
  rw[hA]at hd cm
  obtain⟨a,o,ws,_,rfl,g1,_,g2,g3⟩:=hd
  have hb:(Value.ref a !=Value.ref e)=true:=by
   rw[bne_iff_ne]
   exact fun z=>cm (congrArg some z)
  dsimp only
  rw[if_pos hb]
  refine wpAny_bind (wpAny_holding (wpAny_runValue (codeAny_builtin W3 ?_)))
  rw[Around.under_plainId Ut _]
  unfold Builtin.«proto.unchain»
  refine wpAny_bind (wpAny_field g1 g2 g3 ?_)
  rw[if_pos (by rfl)]
  refine wpAny_bind (wpAny_pure (wpAny_pure ?_))
  dsimp only
  have:=wpAny_setField (M:=model prog w) (A:=A) (E:=E) (s:=s) (i:=2) (x:=Value.ref a) (Q:=fun _ s'=>E (.ref e) s') he D8 hz (h1 _ hA)
  exact wpAny_bind (wpAny_mono this (fun _ s' q=>wpAny_throw q) fun _ _ q=>q)
theorem Jj {Q:α→Shared→Prop}(hd:bb s.heap A.handled) (hE:∀h' e,(∀b o,s.heap.get? b=some o→h'.get? b=some o)→(∃o,h'.get? e=some o∧o.cls=.type "StopIteration")→E (.ref e) {s with heap:=h'}):
  wpAny (model prog w) A (newExc (.type "StopIteration") [] >>=fun e=> (raiseNew e:Sem α)) Q E s:=by
 refine wpAny_bind ?_
 unfold newExc newTuple
 refine wpAny_bind (wpAny_newObj_type ?_ (by size_fits))
 refine wpAny_bind (m:=firstArgMember _ _) (wpAny_of_eq (a:=Value.none) (by first |rfl |(simp only[firstArgMember];rfl)) ?_)
 refine wpAny_newObj_type ?_ (by size_fits)
 have k:∀b o,s.heap.get? b=some o→((s.heap.push {cls:=.type "tuple",data:=.seq ([]:List Value).toArray}).push {cls:=.type "StopIteration",data:=.fields (#[.ref s.heap.objs.size,.none,.none,.none,.bool false,.none]++ownMembersOf (.type "StopIteration") [])}).get? b=some o:=fun b o q=>Heap.get?_push_of_some _ (Heap.get?_push_of_some _ q)
 have ge:=Heap.get?_push_size (s.heap.push {cls:=.type "tuple",data:=.seq ([]:List Value).toArray}) (o:= {cls:=.type "StopIteration",data:=.fields (#[.ref s.heap.objs.size,.none,.none,.none,.bool false,.none]++ownMembersOf (.type "StopIteration") [])}) rfl
 have nw:∀o,s.heap.get? (s.heap.push {cls:=.type "tuple",data:=.seq ([]:List Value).toArray}).objs.size≠some o:=fun o q=>by
  have:=Heap.lt_size q
  rw[Heap.size_push]at this
  exact absurd (Nat.lt_of_succ_lt this) (Nat.lt_irrefl _)
 refine JR (hd.keeps k) (fun z=> ?_) ge rfl (by rw[Array.size_append];exact Nat.lt_of_lt_of_le (show 2<6 by decide) (Nat.le_add_right _ _)) (fun _=>hE _ _ k ⟨_,ge,rfl⟩) fun v _=>hE _ _ (fun b o q=> ?_) ⟨_,Heap.get?_update_self _ ge rfl,rfl⟩
 ·rw[z]at hd
  obtain⟨a,o,ws,C,ea,g1,_⟩:=hd
  cases ea
  exact nw _ g1
 ·rw[Heap.get?_update_other _ _ (fun z=> ?_)]
  ·exact k b o q
  ·rw[←z]at q
   exact nw _ q
theorem YO {it l:Addr}{i:Nat}{items:Array Value}{Q:Option Value→Shared→Prop}(dh:bb s.heap A.handled) (hit:s.heap.IsListIter it l i) (hl:s.heap.IsList l items) (hx:items[i]? =none)
  (hQ:∀h',Heap.ExtBut it s.heap h'→Q none {s with heap:=h'}):wpAny (model prog w) A (pyNext (.ref it)) Q E s:=by
 obtain⟨o,ho,hc,hd⟩:=id hit
 obtain⟨ol,j9,_,nl,kl⟩:=hl
 unfold pyNext
 refine wpAny_bind (wpAny_attempt (wpAny_callSpecial?_slot (name:=Str.ofString "__next__") hit.typeIs slot_listiter_next (wpAny_call_entry slot_listiter_next hit.typeIs entry_listiter_next ?_ (args_listiter_next _))))
 show wpAny _ _ (field (.ref it) 0 >>=_) _ _ s
 refine wpAny_bind (wpAny_field ho hd (x:=.ref l) rfl ?_)
 show wpAny _ _ (if (Value.ref l==Value.none)=true then _ else _) _ _ s
 rw[if_neg (show ¬((Value.ref l==Value.none)=true) from Bool.false_ne_true)]
 show wpAny _ _ (field (.ref it) 1 >>=_) _ _ s
 refine wpAny_bind (wpAny_field ho hd (x:=.int i 0) rfl ?_)
 show wpAny _ _ (seqItems? (.ref l) >>=_) _ _ s
 refine wpAny_bind (wpAny_seqItems j9 kl ?_)
 simp only[Int.toNat_natCast,hx]
 refine wpAny_bind (wpAny_rule (wpAny_bind (wpAny_setField ho hd (by simp) ?_)))
 have sb:=Heap.SameBut.update s.heap it (Obj.mapFields (·.setIfInBounds 0 Value.none))
 refine Jj (A:=A.in1) (bb.but (fun b o hb q=> (sb.2 b hb).trans q) ho hc dh) fun h' e k ⟨oe,g1,g2⟩=> ?_
 refine wpAny_bind (wpAny_isInstance (T:= "StopIteration") (b:=true) ⟨_,g1,g2⟩ isSubtype_stop ?_)
 exact wpAny_pure (hQ _ fun b o hb q=>k b o ((sb.2 b hb).trans q))
theorem UM {it l:Addr}{i:Nat}{items:Array Value}{Q:Option Value→Shared→Prop}(dh:bb s.heap A.handled) (hit:s.heap.IsTupleIter it l i) (hl:s.heap.IsTuple l items) (hx:items[i]? =none)
  (hQ:∀h',Heap.ExtBut it s.heap h'→Q none {s with heap:=h'}):wpAny (model prog w) A (pyNext (.ref it)) Q E s:=by
 obtain⟨o,ho,hc,hd⟩:=id hit
 obtain⟨ol,j9,_,nl,kl⟩:=hl
 unfold pyNext
 refine wpAny_bind (wpAny_attempt (wpAny_callSpecial?_slot (name:=Str.ofString "__next__") hit.typeIs F.slot_tuple_iterator_next (wpAny_call_entry F.slot_tuple_iterator_next hit.typeIs F.entry_tuple_iterator_next ?_ (F.args_tuple_iterator_next_1 _))))
 show wpAny _ _ (field (.ref it) 0 >>=_) _ _ s
 refine wpAny_bind (wpAny_field ho hd (x:=.ref l) rfl ?_)
 show wpAny _ _ (if (Value.ref l==Value.none)=true then _ else _) _ _ s
 rw[if_neg (show ¬((Value.ref l==Value.none)=true) from Bool.false_ne_true)]
 show wpAny _ _ (field (.ref it) 1 >>=_) _ _ s
 refine wpAny_bind (wpAny_field ho hd (x:=.int i 0) rfl ?_)
 show wpAny _ _ (seqItems? (.ref l) >>=_) _ _ s
 refine wpAny_bind (wpAny_seqItems j9 kl ?_)
 simp only[Int.toNat_natCast,hx]
 refine wpAny_bind (wpAny_rule (wpAny_bind (wpAny_setField ho hd (by simp) ?_)))
 have sb:=Heap.SameBut.update s.heap it (Obj.mapFields (·.setIfInBounds 0 Value.none))
 refine Jj (A:=A.in1) (bb.but (fun b o hb q=> (sb.2 b hb).trans q) ho hc dh) fun h' e k ⟨oe,g1,g2⟩=> ?_
 refine wpAny_bind (wpAny_isInstance (T:= "StopIteration") (b:=true) ⟨_,g1,g2⟩ isSubtype_stop ?_)
 exact wpAny_pure (hQ _ fun b o hb q=>k b o ((sb.2 b hb).trans q))
theorem HA {it:Addr}{x left step:Int}{Q:Option Value→Shared→Prop}(dh:bb s.heap A.handled) (hit:IsRangeIter s.heap it x left step) (DB:left≤0)
  (hQ:∀h',Heap.ExtBut it s.heap h'→Q none {s with heap:=h'}):wpAny (model prog w) A (pyNext (.ref it)) Q E s:=by
 have hT:s.TypeIs (.ref it) "range_iterator" :=⟨_,hit,rfl⟩
 unfold pyNext
 refine wpAny_bind (wpAny_attempt (wpAny_callSpecial?_slot (name:=Str.ofString "__next__") hT F.slot_range_iterator_next (wpAny_call_entry F.slot_range_iterator_next hT F.entry_range_iterator_next ?_ (F.args_range_iterator_next_1 _))))
 show wpAny _ _ (field (.ref it) 0 >>=_) _ _ s
 refine wpAny_bind (wpAny_field hit rfl (x:=rawInt x) rfl ?_)
 show wpAny _ _ (field (.ref it) 1 >>=_) _ _ s
 refine wpAny_bind (wpAny_field hit rfl (x:=rawInt left) rfl ?_)
 show wpAny _ _ (field (.ref it) 2 >>=_) _ _ s
 refine wpAny_bind (wpAny_field hit rfl (x:=rawInt step) rfl ?_)
 show wpAny _ _ (if left≤0 then _ else _) _ _ s
 rw[if_pos DB]
 refine wpAny_bind (wpAny_rule (wpAny_bind ?_))
 refine Jj (A:=A.in1) dh fun h' e k ⟨oe,g1,g2⟩=> ?_
 refine wpAny_bind (wpAny_isInstance (T:= "StopIteration") (b:=true) ⟨_,g1,g2⟩ isSubtype_stop ?_)
 exact wpAny_pure (hQ _ fun b o hb q=>k b o q)
def gh:Option Value→List Addr
 |some (.ref a)=> [a]
 |_=> []
theorem bb.at {h h':Heap}{x:Option Value}(hd:bb h x) (k:∀b∈gh x,∀o,h.get? b=some o→h'.get? b=some o):bb h' x:=by
 cases x with
 |none=>trivial
 |some v=>
  obtain⟨a,o,vs,C,rfl,h1,h2⟩:=hd
  exact⟨a,o,vs,C,rfl,k a (.head _) _ h1,h2⟩
theorem bb.mem {h:Heap}{x:Option Value}{i:Addr}(hd:bb h x) (m:i∈gh x):∃o C,h.get? i=some o∧o.cls=.ref C:=by
 cases x with
 |none=>cases m
 |some v=>
  obtain⟨a,o,vs,C,rfl,h1,h2,_⟩:=hd
  cases m with
  |head=>exact⟨o,C,h1,h2⟩
  |tail _ m=>cases m
theorem vO (I ax:Addr) (cm:ax≠I) (hI:I∉gh A.handled) (items:Array Value):
  Walks prog w A I (I::ax::gh A.handled) [I] items.size (fun i v=>items[i]? =some v) (fun i h=>bb h A.handled∧h.IsListIter I ax i∧h.IsList ax items) where
 sub:=fun b hb=>by cases hb with
  |head=>exact .head _
  |tail _ hb=>cases hb
 frame:=fun _ _ _ st hk=> ⟨st.1.at fun b hb o e=>hk b (.tail _ (.tail _ hb)) o e,st.2.1.at fun o e=>hk I (.head _) o e,st.2.2.at fun o e=>hk ax (.tail _ (.head _)) o e⟩
 item:=fun i s Q E hi st hQ=>by
  refine wpAny_pyNext_list_item st.2.1 st.2.2 (x:=items[i]) (by simp[hi]) fun h' tQ jf=> ?_
  exact hQ _ h' s.toks (by simp[hi]) ⟨st.1.at fun b hb o e=>jf.extBut b o (fun z=>hI (z▸hb)) e,tQ,st.2.2.extBut jf.extBut cm⟩ fun b o hb e=>jf.extBut b o (fun h=>hb (by simp[h])) e
 done:=fun s Q E st hQ=>YO st.1 st.2.1 st.2.2 (by simp) fun h' DW=>hQ h' s.toks fun b o hb e=>DW b o (fun h=>hb (by simp[h])) e
 self:=fun _ _ _ _ st hQ=>wpAny_pyIter_listiter st.2.1 hQ
theorem qq {t:Addr}{items:Array Value}{Q:List Value→Shared→Prop}(dh:bb s.heap A.handled) (ht:IsTup s.heap t items)
  (hQ:∀h',Heap.ExtBut s.heap.objs.size s.heap h'→Q items.toList {s with heap:=h'}):wpAny (model prog w) A (unpackItems (.ref t) items.size none) Q E s:=by
 have aJ:t≠s.heap.objs.size:=by obtain⟨o,ho,_⟩:=ht;exact Nat.ne_of_lt (Heap.lt_size ho)
 have nw:∀b o,s.heap.get? b=some o→b≠s.heap.objs.size:=fun b o q=>Nat.ne_of_lt (Heap.lt_size q)
 unfold unpackItems
 refine wpAny_bind ?_
 ·unfold notIterableAtAll
  refine wpAny_bind (wpAny_specialOf ht.typeIs slot_tuple_iter.lookup ?_)
  refine wpAny_pure ?_
  simp only[Bool.false_eq_true,if_false]
  refine wpAny_bind (wpAny_holding (iter_tuple ht ?_))
  refine wpAny_bind (wpAny_holding (draw_tuple aJ items.size 0 _ _ ⟨_,Heap.get?_push_size _ rfl,rfl,rfl⟩ (ht.push _) (by omega) fun aO kd dO=> ?_))
  rw[show List.take items.size (List.drop 0 items.toList)=items.toList by rw[List.drop_zero];exact List.take_of_length_le (by simp),if_neg (by simp)]
  have k1:∀b o,s.heap.get? b=some o→aO.get? b=some o:=fun b o q=>dO.extBut b o (nw b o q) (Heap.get?_push_of_some _ q)
  refine wpAny_bind (wpAny_holding (UM (dh.keeps k1) kd ((ht.push _).extBut dO.extBut aJ) (by simp) fun eY kg=> ?_))
  simp only[Option.isSome_none,Bool.false_eq_true,if_false]
  refine wpAny_pure (hQ eY fun b o hb e=>kg b o hb (dO.extBut b o hb (Heap.get?_push_of_some _ e)))
theorem F7 {env:Env}{elts:List Expr}{x1}{pos:Pos}{t:Addr}{items:Array Value}{Q:Unit→Shared→Prop}(dh:bb s.heap A.handled) (ht:IsTup s.heap t items)
  (hn:(assignEach elts env).length=items.size) (Dd:(assignEach elts env).findIdx? (·.1)=none)
  (h:∀h',Heap.ExtBut s.heap.objs.size s.heap h'→wpAny (model prog w) A (assignInOrder ((assignEach elts env).map (·.2)) items.toList) Q E {s with heap:=h'}):
  wpAny (model prog w) A (assign (.Tuple elts x1 pos) env (.ref t)) Q E s:=by
 rw[assign_Tuple]
 refine wpAny_bind (wpAny_standAt ?_)
 unfold unpack
 rw[hn,Dd]
 exact wpAny_bind (wpAny_holding (qq dh ht h))
end
section
variable {M:Model}{A:Around}{E:Value→Shared→Prop}{s:Shared}{base:Heap}{env:Env}{outer:List Env}{L e:Addr}{cls a0 c:Value}{Q:Unit→Shared→Prop}
theorem yG {oe:Obj}{vs:Array Value}{head:Value}{En:Bool}(bT:A.frames=some (env::outer)) (hl:s.heap.FunFrames base (env::outer)) (hf:env.frame=some L)
  (he:s.heap.get? e=some oe) (iB:base.StaysIn s.heap) (ki:base.get? e=none) (hd:oe.data=.fields vs) (hsz:1<vs.size) (h0:vs[0]? =some a0) (h2:vs[2]? =some c)
  (h:∀h',Heap.NotedW base (env::outer) e oe.cls a0 (rawInt L) s.heap h'→qi h' e c→Q () {s with heap:=h'}):
  wpAny M A (do let a ←frameOf env;let pl ←entryPlaceOf L En;let b ←EntryCells.newEntry head a .none (rawInt L) .none pl;setField (.ref e) 1 b) Q E s:=by
 have DU:e∉(env::outer).filterMap (·.frame):=fun hm=>by
  obtain⟨_,o,ho,bR⟩:=hl.mem hm
  rw[he]at ho
  cases ho
  exact bR vs hd
 refine wpAny_bind (wpAny_frameOf_fun bT hl hf fun aO dO=> ?_)
 refine wpAny_bind (wpAny_entryPlaceOf fun pl bz=> ?_)
 unfold EntryCells.newEntry newFields
 refine wpAny_bind (wpAny_newObj_type ?_ (bz.sizeOk5 _ _ _ _ _))
 have x9:aO.get? e=some oe:=(dO.2.1 e DU).trans he
 have xx:base.StaysIn aO:=fun b o dS=> (dO.2.1 b fun hm=>by rw[(hl.mem hm).1]at dS;cases dS).trans (iB b o dS)
 generalize hW:({cls:=.type "traceback",dict:=none,data:=.fields ([head,.ref L,.none,rawInt L,.none]++(if pl.isEmpty then List.replicate 6 Value.none else pl)).toArray} :Obj)=W
 have kg:=Heap.get?_push_of_some (h:=aO) W x9
 refine wpAny_setField kg hd hsz ?_
 have iH:aO.objs.size≠e:=Nat.ne_of_gt (Heap.lt_size x9)
 have tU:=Obj.data_mapFields hd (·.setIfInBounds 1 (Value.ref aO.objs.size))
 have x8:=Heap.get?_update_self (Obj.mapFields (·.setIfInBounds 1 (Value.ref aO.objs.size))) kg (Obj.isFreed_of_fields tU)
 have Er:=(Heap.get?_update_other (aO.push W) (Obj.mapFields (·.setIfInBounds 1 (Value.ref aO.objs.size))) (Ne.symm iH)).trans (Heap.get?_push_size aO (by rw[←hW];rfl))
 have keep:∀b o,b≠e→aO.get? b=some o→((aO.push W).update e (Obj.mapFields (·.setIfInBounds 1 (Value.ref aO.objs.size)))).get? b=some o:=fun b o fv hb=>by
  rw[Heap.get?_update_other _ _ (Ne.symm fv)]
  exact Heap.get?_push_of_some _ hb
 have ir:∀b o,s.heap.get? b=some o→(∀vs,o.data≠.fields vs)→b≠e:=fun b o hb bR q=>by
  rw[q,he]at hb
  cases hb
  exact bR vs hd
 refine h _ ⟨fun b o dS=>keep b o (fun q=>by rw[q,ki]at dS;cases dS) (xx b o dS),hl.of_keeps fun b o hb bR=> ?_,?_,fun b o hb bR=> ?_⟩ ⟨_,_,x8,tU,?_⟩
 ·obtain⟨sl,hs⟩:=dO.2.2 b o hb
  exact⟨_,keep b _ (ir b o hb bR) hs,rfl⟩
 ·subst hW
  exact⟨_,_,aO.objs.size,_,_,x8,⟨Obj.cls_mapFields _ _,by rw[Array.getElem?_setIfInBounds_ne (by decide)];exact h0⟩,tU,by simp[hsz],xx.fresh,iH,Er,rfl,by first |(simp;done) |(rcases bz with rfl |⟨_,_,_,_,_,_,_,rfl⟩<;>simp)⟩
 ·obtain⟨sl,hs⟩:=dO.2.2 b o hb
  exact⟨sl,keep b _ (ir b o hb bR) hs⟩
 ·rw[Array.getElem?_setIfInBounds_ne (by decide)]
  exact h2
def kE (base:Heap) (l:List Env) (e:Addr) (cls a0 c:Value) (h:Heap):Prop:=Heap.FlyingW base l e cls a0 h∧qi h e c
def K1 (base:Heap) (l:List Env) (e:Addr) (cls a0:Value) (L:Addr) (c:Value) (h:Heap):Prop:=Heap.HeldW base l e cls a0 L h∧qi h e c
theorem xp (bT:A.frames=some (env::outer)) (hf:env.frame=some L) (tT:kE base (env::outer) e cls a0 c s.heap)
  (hQ:∀h',K1 base (env::outer) e cls a0 L c h'→s.heap.UpToSlots h'→Q () {s with heap:=h'}):wpAny M A (noteFrame (.ref e) env) Q E s:=by
 obtain⟨⟨iB,ki,hl,oe,vs,T,oT,ts,he,⟨jm,h0⟩,hd,h1,o8,iH,hT,iD,h3⟩,oc,vc,pq,cw,h2⟩:=tT
 rw[he]at pq
 cases pq
 rw[hd]at cw
 cases cw
 subst jm
 unfold noteFrame
 simp only[hf]
 refine wpAny_bind (wpAny_field he hd h1 ?_)
 rw[if_pos (show(Value.ref T !=Value.none)=true from by simp)]
 refine wpAny_bind (wpAny_field hT iD h3 ?_)
 rw[if_neg (show ¬((Value.none==rawInt L)=true) from by simp[rawInt])]
 refine wpAny_bind (wpAny_setField hT iD (Array.getElem?_eq_some_iff.mp h3).1 ?_)
 have other:∀b,b≠T→(s.heap.update T (Obj.mapFields (·.setIfInBounds 3 Value.none))).get? b=s.heap.get? b:=fun b hb=>Heap.get?_update_other _ _ (Ne.symm hb)
 have ir:∀b o,s.heap.get? b=some o→(∀vs,o.data≠.fields vs)→b≠T:=fun b o hb bR q=>by
  rw[q,hT]at hb
  cases hb
  exact bR ts iD
 refine yG bT (hl.of_keeps fun b o hb bR=> ⟨o,(other b (ir b o hb bR)).trans hb,rfl⟩) hf ((other e (Ne.symm iH)).trans he)
  (fun b o dS=> (other b fun q=>by rw[q,o8]at dS;cases dS).trans (iB b o dS)) ki hd (Array.getElem?_eq_some_iff.mp h1).1 h0 h2
  fun h' ⟨x1,x2,x3,x4⟩ hc=>hQ h' ⟨⟨x1,ki,x2,x3⟩,hc⟩ fun b o hb bR=>x4 b o ((other b (ir b o hb bR)).trans hb) bR
theorem oI {fl:Value}{l:List Env}(iB:base.StaysIn s.heap) (ki:base.get? e=none) (hl:s.heap.FunFrames base l) (ht:s.heap.TracedAtW base e cls a0 fl) (hc:qi s.heap e c)
  (hQ:∀h',kE base l e cls a0 c h'→s.heap.UpToSlots h'→Q () {s with heap:=h'}):wpAny M A (setFlight (.ref e) none) Q E s:=by
 obtain⟨oe,vs,T,oT,ts,he,jm,hd,h1,o8,iH,hT,iD,h3⟩:=ht
 have xH:3<ts.size:=(Array.getElem?_eq_some_iff.mp h3).1
 have other:∀b,b≠T→(s.heap.update T (Obj.mapFields (·.setIfInBounds 3 ((none:Option Addr).elim Value.none fun f=>rawInt f)))).get? b=s.heap.get? b:=fun b hb=>Heap.get?_update_other _ _ (Ne.symm hb)
 have ir:∀b o,s.heap.get? b=some o→(∀vs,o.data≠.fields vs)→b≠T:=fun b o hb bR q=>by
  rw[q,hT]at hb
  cases hb
  exact bR ts iD
 unfold setFlight
 refine wpAny_bind (wpAny_field he hd h1 ?_)
 rw[if_pos (show(Value.ref T !=Value.none)=true from by simp)]
 refine wpAny_setField hT iD xH (hQ _ ⟨⟨fun b o dS=> (other b fun q=>by rw[q,o8]at dS;cases dS).trans (iB b o dS),ki,hl.of_keeps fun b o hb bR=> ⟨o,(other b (ir b o hb bR)).trans hb,rfl⟩,?_⟩,?_⟩ fun b o hb bR=> ⟨o.slots,(other b (ir b o hb bR)).trans hb⟩)
 ·exact⟨oe,vs,T,_,_,(other e (Ne.symm iH)).trans he,jm,hd,h1,o8,iH,Heap.get?_update_self _ hT (Obj.isFreed_of_fields (Obj.data_mapFields iD _)),Obj.data_mapFields iD _,by simp[xH]⟩
 ·obtain⟨oc,vc,pq,cw,h2⟩:=hc
  exact⟨oc,vc,(other e (Ne.symm iH)).trans pq,cw,h2⟩
theorem xu (bT:A.frames=some (env::outer)) (hf:env.frame=some L) (tT:kE base (env::outer) e cls a0 c s.heap)
  (hQ:∀h',kE base outer e cls a0 c h'→s.heap.UpToSlots h'→Q () {s with heap:=h'}):wpAny M A (leaving env (.ref e)) Q E s:=by
 unfold leaving
 refine wpAny_bind (xp bT hf tT fun h1 ⟨⟨k1,k2,k3,k4⟩,hc⟩ u1=> ?_)
 exact oI k1 k2 k3 k4 hc fun h2 ⟨⟨j1,j2,⟨_,_,j3⟩,j4⟩,dR⟩ u2=>hQ h2 ⟨⟨j1,j2,j3,j4⟩,dR⟩ (u1.trans u2)
structure MadeX (h h':Heap) (e:Addr) (cls c:Value):Prop where
 keeps:∀b o,h.get? b=some o→h'.get? b=some o
 new:h.get? e=none
 there:∃t,h'.get? e=some {cls:=cls,data:=.fields #[.ref t,.none,c,.none,.bool false,.none]}
theorem CH {h:Heap}(bT:A.frames=some (env::outer)) (hf:env.frame=some L) (iB:base.StaysIn h) (hl:h.FunFrames base (env::outer)) (hx:MadeX h s.heap e cls c)
  (hQ:∀h' a0,kE base outer e cls a0 c h'→s.heap.UpToSlots h'→Q () {s with heap:=h'}):wpAny M A (leaving env (.ref e)) Q E s:=by
 obtain⟨t,he⟩:=hx.there
 have fresh:base.get? e=none:=by
  cases hq:base.get? e with
  |none=>rfl
  |some o'=>have:=iB e o' hq;rw[hx.new]at this;cases this
 unfold leaving noteFrame
 simp only[hf]
 refine wpAny_bind (wpAny_bind (wpAny_field he rfl (x:=.none) rfl ?_))
 rw[if_neg (by decide)]
 refine yG bT (hl.of_keeps fun b o hb _=> ⟨o,hx.keeps b o hb,rfl⟩) hf he (fun b o hb=>hx.keeps b o (iB b o hb)) fresh rfl (show 1<6 by decide) rfl rfl fun h1 ⟨x1,x2,x3,x4⟩ hc=> ?_
 exact oI x1 fresh x2 x3 hc fun h2 ⟨⟨j1,j2,⟨_,_,j3⟩,j4⟩,dR⟩ u2=>hQ h2 _ ⟨⟨j1,j2,j3,j4⟩,dR⟩ (Heap.UpToSlots.trans x4 u2)
end
section
variable {prog:Program}{w:World}{A:Around}{E:Value→Shared→Prop}{s:Shared}{env:Env}
variable {nm q:Str}{C N:Addr}{bs bm iM:List Value}{hdct:Bool}{sn:List Str}{sub:List Value}{ab:Bool}{col:Option Bool}{dd:Option Addr}{k0 k1 k2 k3 k5:Option Value}{B newId sZ:String}
def uM (x:Option Value):Value:=x.getD .none
theorem wL {x:Sem Value}{Q:Flow→Shared→Prop}(iF:bm.contains (.type "BaseException")=true)
    (h:wpAny (model prog w) A x (fun v av=> ∃e,v=.ref e∧av.heap.get? C=some (excClassObj nm q C N bs bm hdct sn sub ab col dd k0 k1 k2 k3 k5 newId)∧bb av.heap A.handled∧A.handled≠some (.ref e)∧
      ∃h₀,MadeX h₀ av.heap e (.ref C) .none∧∀h',MadeX h₀ h' e (.ref C) (uM A.handled)→E (.ref e) {av with heap:=h'}) E s):
    wpAny (model prog w) A (raiseStmt env (some x) none) Q E s:=by
  have Ef:(Value.ref C::bm).contains (.type "BaseException")=true:=by rw[List.contains_cons,iF,Bool.or_true]
  unfold raiseStmt
  refine wpAny_bind (wpAny_mono h (fun v av aO=> ?_) fun _ _ x=>x)
  obtain⟨e,rfl,hC,hd,cm,h₀,mk,hE⟩:=aO
  obtain⟨hp,g,d,tk,os⟩:=av
  obtain⟨t,he⟩:=id mk.there
  repeat (first |with_reducible refine wpAny_loadPart_at he ?_ |with_reducible refine wpAny_loadPart_at hC ?_ |(with_reducible refine wpAny_isSubtype_exc hC ?_;rw[Ef]) |wp_step)
  refine JR hd cm he rfl (show 2<6 by decide) (fun hA=> ?_) fun v hA=> ?_
  · rw[hA]at hE
    exact hE _ mk
  · rw[hA]at hE
    refine hE _ ⟨fun b o hb=> ?_,mk.new,t,?_⟩
    · rw[Heap.get?_update_other _ _ (fun z=> ?_)]
      · exact mk.keeps b o hb
      · rw[←z,mk.new]at hb
        cases hb
    · rw[Heap.get?_update_self _ he rfl]
      rfl
theorem BJ (F:ExcBaseFacts B newId sZ iM) {mN:Str→Option Value}{x:Str}{np aY pos:Pos}{args:List Expr}{Q:Flow→Shared→Prop}
    (iF:bm.contains (.type "BaseException")=true) (tG:(backTo aY (starEach args env)).any (·.1)=false) (tL:mN "__init__" =none)
    (h:wpAny (model prog w) A (eval (.Name x np) env) (fun f av=>f=.ref C∧wpAny (model prog w) A (evalArgs (.ref C) true (backTo aY (starEach args env)) [])
      (fun a cq=>a.kw=[]∧a.pos.length≤sizeLine∧cq.heap.get? C=some (excClassObj nm q C N bs bm hdct sn sub ab col dd k0 k1 k2 k3 k5 newId)∧cq.heap.Ns N mN∧OwnTail cq.heap iM bm∧bb cq.heap A.handled∧
        ∀h' e,MadeX cq.heap h' e (.ref C) (uM A.handled)→E (.ref e) {cq with heap:=h'}) E av) E s):
    wpAny (model prog w) A (exec (.Raise (some (.Call (.Name x np) args [] aY)) none pos) env) Q E s:=by
  rw[arm_exec_Raise]
  first
    |refine wpAny_bind (wpAny_standAt (wL (C:=C) (nm:=nm) (q:=q) (N:=N) (bs:=bs) (bm:=bm) (hdct:=hdct) (sn:=sn) (sub:=sub) (ab:=ab) (col:=col) (dd:=dd) (k0:=k0) (k1:=k1) (k2:=k2) (k3:=k3) (k5:=k5) (newId:=newId) iF (wpAny_bind (wpAny_mono (wpAny_Call_ofName (wpAny_mono h (fun f av aO=> ?_) fun _ _ x=>x)) (fun v ia lN=>wpAny_bind (wpAny_standAt (wpAny_pure lN))) fun _ _ x=>x))))
    |(simp only[evalOpt,Option.map];refine wpAny_bind (wpAny_standAt (wL (C:=C) (nm:=nm) (q:=q) (N:=N) (bs:=bs) (bm:=bm) (hdct:=hdct) (sn:=sn) (sub:=sub) (ab:=ab) (col:=col) (dd:=dd) (k0:=k0) (k1:=k1) (k2:=k2) (k3:=k3) (k5:=k5) (newId:=newId) iF (wpAny_bind (wpAny_mono (wpAny_Call_ofName (wpAny_mono h (fun f av aO=> ?_) fun _ _ x=>x)) (fun v ia lN=>wpAny_bind (wpAny_standAt (wpAny_pure lN))) fun _ _ x=>x)))))
  obtain⟨rfl,aO⟩:=aO
  unfold callWith
  refine wpAny_bind (wpAny_holding (wpAny_mono aO (fun a cq eY=>wpAny_bind (wpAny_standAt ?_)) fun _ _ x=>x))
  obtain⟨apos,Ga⟩:=a
  obtain⟨DE,hlen,hC,hn,T,hd,eY⟩:=eY
  obtain rfl:Ga=[]:=DE
  obtain⟨hp,g,d,tk,os⟩:=cq
  simp only[tG]
  refine wpAny_bind (wpAny_keeperOf_exc hC ?_)
  refine wpAny_bind (wpAny_call_exc_subT (hrest:=hlen) F T hC hn tL fun h' e hm=>wpAny_bind (wpAny_holding (wpAny_point (wpAny_pure ?_))))
  obtain⟨t,ht,_,_⟩:=hm.there
  refine⟨e,rfl,hm.keeps _ _ hC,hd.keeps hm.keeps,fun z=> ?_,hp,⟨hm.keeps,hm.new,t,ht⟩,fun h2 m2=>eY h2 e m2⟩
  rw[z]at hd
  obtain⟨a,o,vs,C',ea,g1,_⟩:=hd
  cases ea
  have:=hm.new
  rw[g1]at this
  cases this
end
section
variable {prog:Program}{w:World}{A:Around}{E:Value→Shared→Prop}{s:Shared}
abbrev gL (led:Bool):Obj:= {cls:=.type "set",dict:=none,data:=.set #[] 0 (.fresh 0 0 led)}
theorem Ba {l:Addr}{items:Array Value}{ns:List Int}{Q:Value→Shared→Prop}(dh:bb s.heap A.handled) (hl:s.heap.IsList l items) (hi:IntsAre items.toList ns) (hb:items.size+1<scanBound)
    (h:∀(h':Heap) (tk:Nat),h'.SetOf (intKind prog w) s.heap.objs.size (fun k'=> (firstMet (fun i=>ns.getD i 0) items.size).any (· ==k')) (firstMet (fun i=>ns.getD i 0) items.size).length→
      (∀b o,b<s.heap.objs.size→s.heap.get? b=some o→h'.get? b=some o)→Q (.ref s.heap.objs.size) {s with heap:=h',toks:=tk}):wpAny (model prog w) A (call (.type "set") [.ref l]) Q E s:=by
  obtain⟨c,tl,LJ⟩:=F.called_set.mro
  have f1:=F.called_set.made
  have f2:=F.called_set.sub
  have f3:=F.called_set.notType
  have f4:=F.called_set.canCreate
  have f5:=F.typeCall_set_1 (.ref l)
  refine wpAny_call (codeAny_of_tree (show wpAny _ _ (callAny (.type "set") _) _ _ _ from wpAny_pure ⟨Code.quiet_builtin _ (by decide+kernel),codeAny_builtin F.entry_type_call ?_⟩))
  rw[Around.under_plain (weight_type_call_type "set" [.ref l] []) rfl]
  repeat (any_goals (first |assumption |wp_step))
  refine codeAny_mono (code_set_new_1 (.ref l) (E:=E) (Q₁:=fun x av=> ∃led:Bool,x=.ref s.heap.objs.size∧av= {s with heap:=s.heap.push (gL led)}) fun led=> ⟨led,rfl,rfl⟩) fun r av hr=> ?_
  cases r with
  |error e=>exact hr
  |ok fl=>
   cases fl with
   |ret x=>
    obtain⟨led,rfl,rfl⟩:=hr
    have hS:(s.heap.push (gL led)).get? s.heap.objs.size=some (gL led):=Heap.get?_push_size _ rfl
    have hT:Shared.TypeIs {s with heap:=s.heap.push (gL led)} (.ref s.heap.objs.size) "set" :=⟨_,hS,rfl⟩
    have g1:=F.called_set.init.lookup
    have g2:=F.called_set.init.bind (.ref s.heap.objs.size)
    repeat (any_goals (first |assumption |wp_step))
    refine codeAny_mono (codeAny_call_builtin (R:=wants (fun r cq=>r=.none∧∃h' tk,cq= {s with heap:=h',toks:=tk}∧h'.SetOf (intKind prog w) s.heap.objs.size (fun k'=> (firstMet (fun i=>ns.getD i 0) items.size).any (· ==k')) (firstMet (fun i=>ns.getD i 0) items.size).length∧
        (∀b o,b<s.heap.objs.size→s.heap.get? b=some o→h'.get? b=some o)) E) F.called_set.init.plain F.entry_set_init (check_set_init_1 hT ?_)) fun BD cq tE=> ?_
    · obtain⟨⟨oc,od,ot,os⟩,j9,fe,nl,kl⟩:=hl
      simp only at fe kl
      subst fe kl
      have Dp:(s.heap.push (gL led)).get? l=some {cls:=.type "list",dict:=od,data:=.seq items nl,slots:=os} :=Heap.get?_push_of_some _ j9
      have u1:=F.sub_list_set
      have u2:=F.sub_list_frozenset
      have u3:(Value.type "list" ==Value.type "dict")=false:=by decide
      have bS:(s.heap.push (gL led)).IsList l items:=⟨_,Dp,rfl,nl,rfl⟩
      unfold Builtin.«set.__init__» noKeywords Builtin.Frozenset.updateFrom
      generalize Et:pyIter=PI
      wp_walk
      subst Et
      refine wpAny_pyIter_list bS (wpAny_bind (wpAny_runValue ?_))
      have xV:l<s.heap.objs.size:=Heap.lt_size j9
      have zs:(s.heap.push (gL led)).objs.size=s.heap.objs.size+1:=Heap.size_push ..
      have old:∀b∈gh A.handled,b<s.heap.objs.size:=fun b m=>by
        obtain⟨o,_,q,_⟩:=dh.mem m
        exact Heap.lt_size q
      have W:=(vO (prog:=prog) (w:=w) (A:=A.in1.in1.in1) (s.heap.push (gL led)).objs.size l (by rw[zs];exact Nat.ne_of_lt (Nat.lt_succ_of_lt xV)) (fun m=>absurd (old _ m) (by rw[zs];exact Nat.not_lt.mpr (Nat.le_succ _))) items).toS
      have Es:s.heap.objs.size∉(s.heap.push (gL led)).objs.size::l::gh A.handled:=by
        rw[zs]
        intro m
        rcases List.mem_cons.mp m with z |m
        · exact absurd z (Nat.ne_of_lt (Nat.lt_succ_self _))
        · rcases List.mem_cons.mp m with z |m
          · exact absurd z.symm (Nat.ne_of_lt xV)
          · exact Nat.lt_irrefl _ (old _ m)
      refine codeAny_set_update_loopS W s.heap.objs.size Es (fun i=>ns.getD i 0) (fun i v hv=>IntsAre.int_at hi i v (by rw[Array.getElem?_toList];exact hv)) hb (items.size - 0) 0 _ (by omega) (Nat.zero_le _)
        ⟨dh.keeps fun b o q=>Heap.get?_push_of_some _ (Heap.get?_push_of_some _ q),⟨_,Heap.get?_push_size _ rfl,rfl,rfl⟩,bS.push _⟩ ?_ ?_
      · exact SetOf_congr ((setObjOf_fresh (knd:=intKind prog w) led).setOf (Heap.get?_push_of_some _ hS) (by unfold scanBound;omega)) (fun _=>rfl) rfl
      · intro s' hm uc
        obtain⟨h',g',d',Al,sL⟩:=s'
        obtain rfl:g'=s.gens:=hm.gens
        obtain rfl:d'=s.drawn:=hm.drawn
        obtain rfl:sL=s.os:=hm.os
        refine wpAny_pure (show wpAny _ _ (ret Value.none) _ _ _ from wpAny_pure ⟨rfl,h',Al,rfl,uc,fun b o hb e=>hm.heap b o ?_ (Heap.get?_push_of_some _ (Heap.get?_push_of_some _ e))⟩)
        rw[zs]
        intro m
        rcases List.mem_cons.mp m with z |m
        · exact absurd z (Nat.ne_of_lt hb)
        · exact absurd (List.mem_singleton.mp m) (Nat.ne_of_lt (Nat.lt_succ_of_lt hb))
    · cases BD with
      |error e=>exact tE
      |ok EW=>
       cases EW with
       |ret r=>
        obtain⟨rfl,h',tk,rfl,uc,gz⟩:=tE
        repeat (any_goals (first |assumption |wp_step))
        exact h _ _ uc gz
       |_=>exact tE.elim
   |_=>exact hr.elim
end
abbrev Key:=Sum Int Str
def iw:Key→Value→Bool
 | .inl k,v=>Value.isInt k v
 | .inr x,v=>Value.isStrOf x v
def sT (w:World):Key→Int
 | .inl k=>hashInt k
 | .inr x=>hashStr w x
theorem ZL:∀{k:Key}{v:Value},iw k v=true→(∃i t,k=Sum.inl i∧v=Value.int i t)∨(∃x t,k=Sum.inr x∧v=Value.str x t)
 | .inl i,v,h=>by
  obtain⟨t,e⟩:=Value.isInt_shape (k:=i) (v:=v) h
  exact .inl ⟨i,t,rfl,e⟩
 | .inr x,v,h=>by
  obtain⟨t,e⟩:=Value.isStrOf_shape (x:=x) (v:=v) h
  exact .inr ⟨x,t,rfl,e⟩
theorem IP (i:Int) (t:Tok):iw (.inl i) (.int i t)=true:=by simp[iw,Value.isInt]
theorem IQ (x:Str) (t:Tok):iw (.inr x) (.str x t)=true:=by simp[iw,Value.isStrOf]
theorem G9 (a b:Int):decide ((Sum.inl a:Key)=Sum.inl b)=(a==b):=by
 by_cases e:a=b
 ·subst e;simp
 ·have h:¬(Sum.inl a:Key)=Sum.inl b:=fun q=>e (Sum.inl.inj q)
  rw[decide_eq_false h]
  exact(beq_eq_false_iff_ne.mpr e).symm
theorem Hd (a b:Str):decide ((Sum.inr a:Key)=Sum.inr b)=decide (a=b):=by
 by_cases e:a=b
 ·subst e;simp
 ·have h:¬(Sum.inr a:Key)=Sum.inr b:=fun q=>e (Sum.inr.inj q)
  rw[decide_eq_false h,decide_eq_false e]
theorem Hb (a:Int) (b:Str):decide ((Sum.inl a:Key)=Sum.inr b)=false:=decide_eq_false (fun q=>nomatch q)
theorem Hc (a:Str) (b:Int):decide ((Sum.inr a:Key)=Sum.inl b)=false:=decide_eq_false (fun q=>nomatch q)
def du (prog:Program) (w:World):PySem.KeyKind prog w Key where
 is:=iw
 hash:=sT w
 inj:=fun v a b ha hb=>by
  rcases ZL ha with ⟨i,t,rfl,rfl⟩ |⟨x,t,rfl,rfl⟩
  ·rcases ZL hb with ⟨j,u,rfl,e⟩ |⟨y,u,rfl,e⟩
   ·injection e with e1 _;rw[e1]
   ·exact nomatch e
  ·rcases ZL hb with ⟨j,u,rfl,e⟩ |⟨y,u,rfl,e⟩
   ·exact nomatch e
   ·injection e with e1 _;rw[e1]
 byValue:=fun k v h=>by
  rcases ZL h with ⟨i,t,rfl,rfl⟩ |⟨x,t,rfl,rfl⟩<;>rfl
 pyHash:=fun hv h=>by
  rcases ZL hv with ⟨i,t,rfl,rfl⟩ |⟨x,t,rfl,rfl⟩
  ·exact wpAny_pyHash_int h
  ·exact wpAny_pyHash_str h
 eqBool:=fun hu hv h=>by
  rcases ZL hu with ⟨i,t,rfl,rfl⟩ |⟨x,t,rfl,rfl⟩
  ·rcases ZL hv with ⟨j,u,rfl,rfl⟩ |⟨y,u,rfl,rfl⟩
   ·rw[G9]at h;exact wpAny_eqBool_int h
   ·rw[Hb]at h;exact SeqAt.EqAt.int_str i t y u _ _ _ _ h
  ·rcases ZL hv with ⟨j,u,rfl,rfl⟩ |⟨y,u,rfl,rfl⟩
   ·rw[Hc]at h;exact SeqAt.EqAt.str_int x t j u _ _ _ _ h
   ·rw[Hd]at h;exact wpAny_eqBool_str h
 «strs» :=fun k x t v h=>by
  rcases ZL h with ⟨i,u,rfl,e⟩ |⟨y,u,rfl,e⟩
  ·exact nomatch e
  ·injection e with e1 _
   subst e1
   cases v<;>rfl
theorem WQ (prog:Program) (w:World) (i:Int) (t:Tok):(du prog w).is (.inl i) (.int i t)=true:=IP i t
theorem WP (prog:Program) (w:World) (x:Str) (t:Tok):(du prog w).is (.inr x) (.str x t)=true:=IQ x t
inductive V where
 |ae |bl (b:Bool) |int (i:Int) |str (x:Str) |fi (b:Array UInt8) |gC (b:UInt64) |ref (a:Addr) |ty (n:String)
 deriving DecidableEq
def RelV:V→Value→Prop
 | .ae,u=>u=Value.none
 | .bl b,u=>u=Value.bool b
 | .int i,u=> ∃t,u=Value.int i t
 | .str x,u=> ∃t,u=Value.str x t
 | .fi b,u=> ∃t,u=Value.bytes b t
 | .gC b,u=> ∃t,u=Value.float b t
 | .ref a,u=>u=Value.ref a
 | .ty n,u=>u=Value.type n
abbrev Vals:List V→List Value→Prop:=Paired RelV
theorem Vals.length {xs:List V}{us:List Value}(r:Vals xs us):xs.length=us.length:=Paired.length r
theorem Vals.get:∀{xs:List V}{us:List Value}{i:Nat}{x:V},Vals xs us→xs[i]? =some x→∃u,us[i]? =some u∧RelV x u
 |_,_,_,_,.nil,e=>by simp at e
 |_,_,0,_,.cons r _,e=>by simp at e;subst e;exact⟨_,rfl,r⟩
 |_,_,i+1,x,.cons _ t,e=>by
  obtain⟨u,h1,h2⟩:=Vals.get (i:=i) (x:=x) t (by simpa using e)
  exact⟨u,by simpa using h1,h2⟩
theorem Vals.set {x:V}{u:Value}(r:RelV x u):∀{xs:List V}{us:List Value}(i:Nat),Vals xs us→Vals (xs.set i x) (us.set i u)
 |_,_,_,.nil=> .nil
 |_,_,0,.cons _ t=> .cons r t
 |_,_,i+1,.cons q t=> .cons q (Vals.set r i t)
theorem Vals.append:∀{xs ys:List V}{us ws:List Value},Vals xs us→Vals ys ws→Vals (xs++ys) (us++ws)
 |_,_,_,_,.nil,s=>s
 |_,_,_,_,.cons r t,s=> .cons r (Vals.append t s)
theorem Vals.take:∀{xs:List V}{us:List Value}(n:Nat),Vals xs us→Vals (xs.take n) (us.take n)
 |_,_,0,_=> .nil
 |_,_,_+1,.nil=> .nil
 |_,_,n+1,.cons r t=> .cons r (Vals.take n t)
theorem Vals.drop:∀{xs:List V}{us:List Value}(n:Nat),Vals xs us→Vals (xs.drop n) (us.drop n)
 |_,_,0,r=>r
 |_,_,_+1,.nil=> .nil
 |_,_,n+1,.cons _ t=>Vals.drop n t
def dm:Option V→Option Value→Prop
 |some v,some u=>RelV v u
 |none,none=>True
 |_,_=>False
def KV {κ:Type} :List (κ×V)→List (κ×Value)→Prop:=Paired fun(p:κ×V) (q:κ×Value)=>p.1=q.1∧RelV p.2 q.2
def kV:Key→V
 | .inl i=> .int i
 | .inr x=> .str x
inductive HO where
  |lst (xs:List V)
  |tup (xs:List V)
  |par (xs:List V)
  |dK (ag:List (Key×V)) |dT (ag:List (List Key×V))
  |set (S:Int→Bool) (n:Nat)
  |ins (C dx:Addr) (fs:List (Str×V))
  |own (x:Addr)
  |xd (fs:List (Str×V))
  |met (f x:Addr)
  |eQ (lo hi:Int)
  |bZ (o:Obj) (u:HO)
  |bt (ps:Array Value)
  |ext (φ:Heap→Prop)
abbrev Hp:=Addr→Option HO
def upd (H:Hp) (a:Addr) (o:HO):Hp:=fun b=>if b=a then some o else H b
theorem Zc {H:Hp}{a:Addr}{o:HO} :upd H a o a=some o:=by unfold upd;rw[if_pos rfl]
theorem Zh {H:Hp}{a b:Addr}{o:HO}(h:b≠a):upd H a o b=H b:=by unfold upd;rw[if_neg h]
theorem Gh {H:Hp}{a b:Addr}{o u:HO}(h:H a=some o) (h':H b=some u) (d:o≠u):a≠b:=by
 intro e;subst e;rw[h]at h';exact d (Option.some.inj h')
theorem Zg {H:Hp}{a b:Addr}{o:HO}(h:H a=some o) (h':H b=none):a≠b:=by
 intro e;subst e;rw[h]at h';cases h'
section
variable (P:Program) (w:World)
def bq (H:Hp) (h:Heap) (a:Addr):HO→Prop
 | .lst xs=>xs.length≤sizeLine∧∃(aa:List Value) (n:Nat),Vals xs aa∧h.get? a=some {cls:=.type "list",data:=.seq aa.toArray n}
 | .tup xs=>xs.length≤sizeLine∧∃aa:List Value,Vals xs aa∧IsTup h a aa.toArray∧∃o,h.get? a=some o∧o.dict=none
 | .par xs=>xs.length≤sizeLine∧∃aa:List Value,Vals xs aa∧IsTup h a aa.toArray
 | .dK ag=>ag.length≤sizeLine∧(a==sysModules)=false∧∃vs,KV ag vs∧h.DictOf (du P w) a vs
 | .dT ag=>ag.length≤sizeLine∧(a==sysModules)=false∧∃xs:List (List Key×Addr×Value),
   Paired (fun(p:List Key×V) (q:List Key×Addr×Value)=>p.1=q.1∧H q.2.1=some (.tup (p.1.map kV))∧RelV p.2 q.2.2) ag xs∧
   ∃o es ep,h.get? a=some o∧o.ExactDict∧o.data=.dict es ep∧es.toList=xs.map (entryOfKey (tupleKind (du P w)))∧(xs.map (·.1)).Nodup
 | .set S n=>h.SetOf (intKind P w) a S n
 | .ins C dx fs=>H dx=some (.own a)∧fs.length≤1000∧dx≠a∧h.get? a=some (PySem.W.instObj C dx)∧
   ∃mA,h.Ns1 dx mA∧(∀f,dm (fs.lookup f) (mA f))∧PySem.Within mA (fs.map (·.1))
 | .own _=> ∃o,h.get? a=some o
 | .xd fs=> ∃mA,h.Ns1 a mA∧∀f,dm (fs.lookup f) (mA f)
 | .eQ lo hi=> ∃t u v,h.get? a=some {cls:=.type "range",data:=.fields #[.int lo t,.int hi u,.int 1 v]}
 | .bZ o u=>h.get? a=some o∧bq H h a u
 | .bt ps=>h.get? a=some {cls:=.none,data:=.fields ps}
 | .met f x=>h.get? a=some (PySem.W.methodObj (.ref f) (.ref x))
 | .ext φ=>φ h∧(∃o,h.get? a=some o)∧∀h1 h2:Heap,φ h1→(∀o,h1.get? a=some o→h2.get? a=some o)→φ h2
def bc (H:Hp) (h:Heap):Prop:=∀a o,H a=some o→bq P w H h a o
end
section
variable {P:Program}{w:World}{H H':Hp}{h h':Heap}{a:Addr}{o:HO}
theorem bq.lt (x:bq P w H h a o):a<h.objs.size:=by
 cases o with
 |lst xs=>obtain⟨_,_,_,_,e⟩:=x;exact Heap.lt_size e
 |tup xs=>obtain⟨_,_,_,p,_⟩:=x;exact p.lt
 |par xs=>obtain⟨_,_,_,p⟩:=x;exact p.lt
 |dK ag=>obtain⟨_,_,_,_,o,_,_,e,_⟩:=x;exact Heap.lt_size e
 |dT ag=>obtain⟨_,_,_,_,o,_,_,e,_⟩:=x;exact Heap.lt_size e
 |set S n=>obtain⟨o,_,_,_,e,_⟩:=x;exact Heap.lt_size e
 |ins C dx fs=>obtain⟨_,_,_,e,_⟩:=x;exact Heap.lt_size e
 |own y=>obtain⟨_,e⟩:=x;exact Heap.lt_size e
 |xd fs=>obtain⟨_,⟨_,_,_,e,_⟩,_⟩:=x;exact Heap.lt_size e
 |eQ lo hi=>obtain⟨_,_,_,e⟩:=x;exact Heap.lt_size e
 |bZ ob u=>obtain⟨e,_⟩:=x;exact Heap.lt_size e
 |bt ps=>exact Heap.lt_size (show h.get? a=some _ from x)
 |met f y=>exact Heap.lt_size (show h.get? a=some _ from x)
 |ext φ=>obtain⟨_,⟨_,e⟩,_⟩:=x;exact Heap.lt_size e
theorem Paired.lC {α β:Type}{F G:α→β→Prop} :∀{lE:List α}{lD:List β},Paired F lE lD→(∀a b,F a b→G a b)→Paired G lE lD
 |_,_,.nil,_=> .nil
 |_,_,.cons r t,f=> .cons (f _ _ r) (Paired.lC t f)
theorem bq.fO (x:bq P w H h a o) (k:∀b u,(b=a∨H b=some (.own a))→h.get? b=some u→h'.get? b=some u)
  (ho:∀b,H b=some (.own a)→H' b=some (.own a)) (ht:∀b xs,H b=some (.tup xs)→H' b=some (.tup xs)):bq P w H' h' a o:=by
 induction o with
 |lst xs=>obtain⟨z,aa,n,r,e⟩:=x;exact⟨z,aa,n,r,k _ _ (.inl rfl) e⟩
 |tup xs=>obtain⟨z,aa,r,⟨ob,e,c⟩,o2,e2,c2⟩:=x;exact⟨z,aa,r,⟨ob,k _ _ (.inl rfl) e,c⟩,o2,k _ _ (.inl rfl) e2,c2⟩
 |par xs=>obtain⟨z,aa,r,ob,e,c⟩:=x;exact⟨z,aa,r,ob,k _ _ (.inl rfl) e,c⟩
 |dK ag=>obtain⟨z,y,vs,r,ob,es,ep,e,c⟩:=x;exact⟨z,y,vs,r,ob,es,ep,k _ _ (.inl rfl) e,c⟩
 |dT ag=>
  obtain⟨z,y,xs,r,ob,es,ep,e,c⟩:=x
  exact⟨z,y,xs,Paired.lC r fun p q z=> ⟨z.1,ht _ _ z.2.1,z.2.2⟩,ob,es,ep,k _ _ (.inl rfl) e,c⟩
 |set S n=>obtain⟨ob,es,ep,t,e,c⟩:=x;exact⟨ob,es,ep,t,k _ _ (.inl rfl) e,c⟩
 |ins C dx fs=>
  obtain⟨d,z,ne,e,mA,⟨od,es,ep,e2,c⟩,r⟩:=x
  exact⟨ho _ d,z,ne,k _ _ (.inl rfl) e,mA,⟨od,es,ep,k _ _ (.inr d) e2,c⟩,r⟩
 |own y=>obtain⟨ob,e⟩:=x;exact⟨ob,k _ _ (.inl rfl) e⟩
 |xd fs=>obtain⟨mA,⟨od,es,ep,e,c⟩,r⟩:=x;exact⟨mA,⟨od,es,ep,k _ _ (.inl rfl) e,c⟩,r⟩
 |eQ lo hi=>obtain⟨t,u,v,e⟩:=x;exact⟨t,u,v,k _ _ (.inl rfl) e⟩
 |bZ ob u ih=>obtain⟨e,q⟩:=x;exact⟨k _ _ (.inl rfl) e,ih q⟩
 |bt ps=>
  have e:h.get? a=some {cls:=.none,data:=.fields ps} :=x
  show h'.get? a=some {cls:=.none,data:=.fields ps}
  exact k a _ (.inl rfl) e
 |met f y=>
  have e:h.get? a=some (PySem.W.methodObj (.ref f) (.ref y)):=x
  show h'.get? a=some (PySem.W.methodObj (.ref f) (.ref y))
  exact k a _ (.inl rfl) e
 |ext φ=>obtain⟨p,⟨o,e⟩,st⟩:=x;exact⟨st _ _ p fun o q=>k _ _ (.inl rfl) q,⟨o,k _ _ (.inl rfl) e⟩,st⟩
theorem bc.lt (x:bc P w H h) (e:H a=some o):a<h.objs.size:=(x a o e).lt
theorem bc.fresh (x:bc P w H h) (e:h.objs.size≤a):H a=none:=by
 cases q:H a with
 |none=>rfl
 |some u=>exact absurd (Nat.lt_of_lt_of_le (x.lt q) e) (Nat.lt_irrefl _)
theorem bc.kept (x:bc P w H h) (k:∀b u,h.get? b=some u→h'.get? b=some u):bc P w H h':=fun a o e=>
 (x a o e).fO (fun b u _ q=>k b u q) (fun _ q=>q) fun _ _ q=>q
theorem bc.laid (x:bc P w H h) (k:∀b u,h.get? b=some u→h'.get? b=some u) (hp:h.objs.size≤a) (new:bq P w (upd H a o) h' a o):bc P w (upd H a o) h':=fun b u e=>by
 have hn:=x.fresh hp
 by_cases hb:b=a
 ·subst hb;rw[Zc]at e;cases e;exact new
 ·rw[Zh hb]at e
  exact(x b u e).fO (fun c v _ q=>k c v q) (fun c q=>by rw[Zh (Zg q hn)];exact q) fun c xs q=>by rw[Zh (Zg q hn)];exact q
end
def Rd (H:Hp) (a:Addr) (u:HO):Prop:=H a=some u∨∃o,H a=some (.bZ o u)
theorem Rd.ok {P:Program}{w:World}{H:Hp}{h:Heap}{a:Addr}{u:HO}(r:Rd H a u) (x:bc P w H h):bq P w H h a u:=by
 rcases r with r |⟨o,r⟩
 ·exact x a u r
 ·obtain⟨_,q⟩:=x a _ r
  exact q
def p9:Option HO→Prop
 |some (.lst _)=>True
 |some (.dK _)=>True
 |some (.dT _)=>True
 |some (.set _ _)=>True
 |some (.ins _ _ _)=>True
 |some (.ext _)=>True
 |_=>False
section
variable {P:Program}{w:World}{H:Hp}{h h':Heap}{x e:Addr}{o':HO}
theorem bc.write (ok:bc P w H h) (mu:p9 (H x)) (he:e=x∨H e=some (.own x)) (k:∀b u,b≠e→h.get? b=some u→h'.get? b=some u) (kh:∃u,h'.get? e=some u)
  (new:bq P w (upd H x o') h' x o'):bc P w (upd H x o') h':=fun b u q=>by
 have xb:∀c y,H c=some (.own y)→c≠x:=fun c y r z=>by subst z;rw[r]at mu;exact mu
 have Ca:∀c xs,H c=some (.tup xs)→c≠x:=fun c xs r z=>by subst z;rw[r]at mu;exact mu
 by_cases hb:b=x
 ·subst hb;rw[Zc]at q;cases q;exact new
 ·rw[Zh hb]at q
  by_cases fv:b=e
  ·have q':H b=some (.own x):=by
    rcases he with z |z
    ·exact absurd (fv.trans z) hb
    ·rw[fv];exact z
   rw[q]at q';cases q'
   obtain⟨v,hv⟩:=kh
   exact⟨v,by rw[fv];exact hv⟩
  ·refine(ok b u q).fO (fun c v hc r=>k c v ?_ r) (fun c r=>by rw[Zh (xb c b r)];exact r) fun c xs r=>by rw[Zh (Ca c xs r)];exact r
   rcases hc with rfl |hc
   ·exact fv
   ·rintro rfl
    rcases he with z |z
    ·exact xb c b hc z
    ·rw[hc]at z;cases z;exact hb rfl
end
structure Un (fs ex:List Addr) (H H':Hp) (h h':Heap):Prop where
 keep:∀b o,h.get? b=some o→H b=none→b∉fs→b∉ex→h'.get? b=some o
 slot:∀b o,h.get? b=some o→H b=none→b∈fs→b∉ex→∃sl,h'.get? b=some {o with slots:=sl}
 free:∀b o,h.get? b=some o→H b=none→b∉ex→H' b=none
 there:∀b o,h.get? b=some o→b∉ex→∃o',h'.get? b=some o'
 dJ:∀b xs,H b=some (.tup xs)→H' b=some (.tup xs)
 dB:∀b o u,H b=some (.bZ o u)→H' b=some (.bZ o u)
 dq:∀b ps,H b=some (.bt ps)→∃more,H' b=some (.bt (ps++more))
section
variable {fs EV ex uD:List Addr}{H H1 H2:Hp}{h h1 h2 h':Heap}{a x e:Addr}{o:HO}
theorem Un.any (u:Un fs ex H H1 h h1) {b:Addr}{ob:Obj}(q:h.get? b=some ob) (n:H b=none) (hx:b∉ex):∃sl,h1.get? b=some {ob with slots:=sl} :=by
 by_cases hb:b∈fs
 ·exact u.slot b ob q n hb hx
 ·exact⟨ob.slots,u.keep b ob q n hb hx⟩
theorem Un.kept (k:∀b u,h.get? b=some u→h'.get? b=some u):Un fs ex H H h h':=
 ⟨fun b ob q _ _ _=>k b ob q,fun b ob q _ _ _=> ⟨ob.slots,k b ob q⟩,fun _ _ _ n _=>n,fun b ob q _=> ⟨ob,k b ob q⟩,fun _ _ q=>q,fun _ _ _ q=>q,fun _ ps q=> ⟨#[],by rw[q];simp⟩⟩
theorem Un.refl:Un fs ex H H h h:=Un.kept fun _ _ q=>q
theorem Un.laid (k:∀b u,h.get? b=some u→h'.get? b=some u) (hp:h.objs.size≤a) (hn:H a=none):Un fs ex H (upd H a o) h h' where
 keep:=fun b u q _ _ _=>k b u q
 slot:=fun b u q _ _ _=> ⟨u.slots,k b u q⟩
 free:=fun b u q n _=>by rw[Zh (Nat.ne_of_lt (Nat.lt_of_lt_of_le (Heap.lt_size q) hp))];exact n
 there:=fun b u q _=> ⟨u,k b u q⟩
 dJ:=fun b xs q=>by rw[Zh (Zg q hn)];exact q
 dB:=fun b u xs q=>by rw[Zh (Zg q hn)];exact q
 dq:=fun b ps q=> ⟨#[],by rw[Zh (Zg q hn),q];simp⟩
theorem Un.write (mu:p9 (H x)) (he:e=x∨H e=some (.own x)) (k:∀b u,b≠e→h.get? b=some u→h'.get? b=some u) (kh:∃u,h'.get? e=some u):Un fs ex H (upd H x o) h h':=by
 have hx:∀b,H b=none→b≠x:=fun b n z=>by subst z;rw[n]at mu;exact mu
 have hb:∀b,H b=none→b≠e:=fun b n z=>by
  subst z
  rcases he with r |r
  ·exact hx b n r
  ·rw[n]at r;cases r
 have hm:∀b u,H b=some u→¬p9 (some u)→b≠x:=fun b u q nm z=>by subst z;rw[q]at mu;exact nm mu
 refine⟨fun b u q n _ _=>k b u (hb b n) q,fun b u q n _ _=> ⟨u.slots,k b u (hb b n) q⟩,fun b u q n _=>by rw[Zh (hx b n)];exact n,fun b u q _=> ?_,
  fun b xs q=>by rw[Zh (hm b _ q fun z=>z)];exact q,fun b u xs q=>by rw[Zh (hm b _ q fun z=>z)];exact q,fun b ps q=> ⟨#[],by rw[Zh (hm b _ q fun z=>z),q];simp⟩⟩
 by_cases fv:b=e
 ·subst fv;exact kh
 ·exact⟨u,k b u fv q⟩
end
def nG (h:Heap) (H:Hp):List Addr:=(List.range h.objs.size).filter fun a=> (H a).isSome
def fq (h:Heap) (H:Hp):Heap:=PySem.W.hideAll h (nG h H)
theorem J4 (h:Heap) (H:Hp):(fq h H).objs.size=h.objs.size:=PySem.W.hideAll_size _ _
theorem WZ {h:Heap}{H:Hp}{b:Addr}{o:Obj}(e:h.get? b=some o) (n:H b=none):(fq h H).get? b=some o:=
 PySem.W.hideAll_get _ e fun hm=>by
  have q:(H b).isSome=true:=(List.mem_filter.mp hm).2
  rw[n]at q;simp at q
theorem UU {h:Heap}{H:Hp}{b:Addr}{o:Obj}(e:(fq h H).get? b=some o):h.get? b=some o∧H b=none:=by
 have e':h.get? b=some o:=PySem.W.of_hideAll (nG h H) e
 refine⟨e',?_⟩
 cases q:H b with
 |none=>rfl
 |some x=>
  have hm:b∈nG h H:=List.mem_filter.mpr ⟨List.mem_range.mpr (Heap.lt_size e'),by simp[q]⟩
  have z:(fq h H).get? b=none:=PySem.W.hideAll_none (nG h H) hm
  rw[z]at e;cases e
def F9 (g h:Heap) (L:Addr):List (Addr×Obj):=(List.range h.objs.size).filterMap fun a=>if a=L∨(g.get? a).isSome=true then none else (h.get? a).map fun o=> (a,o)
def rest (g h:Heap) (L d:Addr):List (Addr×Obj):=(F9 g h L).filter fun p=>decide (p.1≠d)
structure Mod (K:PySem.W.Frag) (mg:Str→Option Value) (base:Heap):Prop where
 gU:K.In base
 glob:base.Ns mainGlobals mg
 blt:∃mb,base.Ns builtinsNs mb∧∀x:Str,x≠ "__name__" →mb x=bootBuiltins x
 nolimit:base.NoLimit
structure Cx where
 prog:Program
 w:World
 K:PySem.W.Frag
 mg:Str→Option Value
 base:Heap
 A:Around
 N:List Str
 bC:Shared
 hX:Hp
 env:Env
 outer:List Env
 stack:List Env
 ex:List Addr
 fn:Str→Bool
 calm:Bool
 pn:List (Addr×Obj)
 xe:Value→Shared→Prop
def aA (l:List Env):List Addr:=l.filterMap (·.frame)
abbrev Cx.fs (X:Cx):List Addr:=aA X.outer
def jy (sc:Scope) (x:Str):Prop:=sc.names.lookup x=some .local∨sc.names.lookup x=some .cell∨sc.names.lookup x=some .free
def Loc (sc:Scope) (x:Str):Prop:=sc.names.lookup x=some .local∨sc.names.lookup x=some .cell
def Look (env:Env) (h:Heap) (m:Str→Option Value) (x:Str) (u:Value):Prop:=
 (env.kindOf x=some .local∧m x=some u)∨((env.kindOf x=some .cell∨env.kindOf x=some .free)∧∃c,env.cells.lookup x=some c∧h.IsCell c (some u))
structure Cx.Ok (X:Cx):Prop where
 mod:Mod X.K X.mg X.base
 kind:X.env.scope.kind=.function
 glob:X.env.globals=mainGlobals
 blt:X.env.builtins=builtinsNs
 above:X.bC.heap.objs.size≤X.env.locals
 inj:∀x y c,X.env.cells.lookup x=some c→X.env.cells.lookup y=some c→x=y
 has:∀x,(X.env.kindOf x=some .cell∨X.env.kindOf x=some .free)→∃c,X.env.cells.lookup x=some c
 gG:∀x c,X.fn x=true→X.env.cells.lookup x=some c→X.bC.heap.objs.size≤c
 hd:X.calm=true→bb X.base X.A.handled
 frames:X.A.frames=some X.stack
 ig:X.stack=X.outer∨(X.stack=X.env::X.outer∧X.env.frame=some X.env.locals)
 gF:∀b∈X.ex,b≠X.env.locals∧∀x c,X.env.cells.lookup x=some c→c≠b
 bs:∀b o,X.base.get? b=some o→X.bC.heap.get? b=some o∧X.hX b=none
 fj:X.base.objs.size≤X.bC.heap.objs.size
 gR:∀b o,X.base.get? b=some o→b∉X.ex
 gi:∀b∈X.ex,b∉X.fs
 bY:X.bC.heap.FunFrames X.base X.outer
 dU:∀b∈X.fs,X.hX b=none
structure Inv (X:Cx) (pins:List (Addr×Obj)) (σ:List (Option V)) (H:Hp) (s:Shared):Prop where
 ok:X.Ok
 os:s.os=X.bC.os
 bare:AllBare s.gens
 base:Un X.fs X.ex X.hX H X.bC.heap s.heap
 loc:∃m,s.heap.Ns X.env.locals m∧∀(i:Nat) (x:Str) (v:V),X.N[i]? =some x→σ[i]? =some (some v)→jy X.env.scope x→∃u,RelV v u∧Look X.env s.heap m x u
 cell:∀x c,X.env.cells.lookup x=some c→∃v,s.heap.IsCell c v
 free:H X.env.locals=none
 dC:∀x c,X.env.cells.lookup x=some c→H c=none
 pin:∀p∈X.pn++pins,s.heap.get? p.1=some p.2∧H p.1=none∧p.1≠X.env.locals∧p.1∉X.fs∧∀v,p.2.data≠.cell v
 ah:bc X.prog X.w H s.heap
 len:σ.length=X.N.length
section
variable {X:Cx}{pins:List (Addr×Obj)}{σ:List (Option V)}{H H':Hp}{s:Shared}{h':Heap}
theorem Cx.Ok.Cf (ok:X.Ok) {b:Addr}{o:Obj}(e:X.base.get? b=some o):b∉X.fs:=fun hb=>by
 have:=(ok.bY.mem hb).1
 rw[e]at this;cases this
theorem Inv.bs (I:Inv X pins σ H s):∀b o,X.base.get? b=some o→s.heap.get? b=some o∧H b=none:=fun b o e=>
 ⟨I.base.keep b o (I.ok.bs b o e).1 (I.ok.bs b o e).2 (I.ok.Cf e) (I.ok.gR b o e),I.base.free b o (I.ok.bs b o e).1 (I.ok.bs b o e).2 (I.ok.gR b o e)⟩
theorem Inv.bk (I:Inv X pins σ H s):∀b o,X.base.get? b=some o→s.heap.get? b=some o:=fun b o e=> (I.bs b o e).1
theorem Inv.cw (I:Inv X pins σ H s) (hc:X.calm=true):bb s.heap X.A.handled:=(I.ok.hd hc).keeps I.bk
theorem Inv.mod (I:Inv X pins σ H s):Mod X.K X.mg X.base:=I.ok.mod
theorem Inv.aW (I:Inv X pins σ H s):X.K.In s.heap:=I.ok.mod.gU.keeps I.bk
theorem Inv.lt (I:Inv X pins σ H s):X.env.locals<s.heap.objs.size:=let ⟨_,hn,_⟩:=I.loc;hn.lt
theorem Inv.sz (I:Inv X pins σ H s):X.bC.heap.objs.size≤s.heap.objs.size:=Nat.le_trans I.ok.above (Nat.le_of_lt I.lt)
theorem Inv.Cd (I:Inv X pins σ H s) {a:Addr}(h:s.heap.objs.size≤a):a∉X.fs:=fun hb=>by
 obtain⟨_,o,ho,_⟩:=I.ok.bY.mem hb
 exact absurd (Nat.lt_of_lt_of_le (Heap.lt_size ho) (Nat.le_trans I.sz h)) (Nat.lt_irrefl _)
theorem Inv.fA (I:Inv X pins σ H s):∀x c,X.env.cells.lookup x=some c→c≠X.env.locals:=fun x c e z=>by
 obtain⟨v,o,ho,hd⟩:=I.cell x c e
 obtain⟨m,⟨o',es,ep,bA,tY,_⟩,_⟩:=I.loc
 rw[z,bA]at ho;cases ho;rw[tY]at hd;cases hd
theorem Inv.bY (I:Inv X pins σ H s):s.heap.FunFrames X.base X.outer:=by
 have all:∀(l:List Env),(∀b∈aA l,b∈X.fs)→X.bC.heap.FunFrames X.base l→s.heap.FunFrames X.base l:=by
  intro l
  induction l with
  |nil=>intro _ _;trivial
  |cons env r ih=>
   intro hs hl
   obtain⟨hk,⟨L,o,hf,hn,ho,hd⟩,hr⟩:=hl
   have hL:L∈X.fs:=hs L (by unfold aA;rw[List.filterMap_cons,hf];exact List.mem_cons_self)
   obtain⟨sl,e⟩:=I.base.slot L o ho (I.ok.dU L hL) hL fun z=>I.ok.gi L z hL
   exact⟨hk,⟨L,_,hf,hn,e,hd⟩,ih (fun b hb=>hs b (by unfold aA;rw[List.filterMap_cons,hf];exact List.mem_cons_of_mem _ hb)) hr⟩
 exact all X.outer (fun _ hb=>hb) I.ok.bY
theorem Inv.stack (I:Inv X pins σ H s):s.heap.FunFrames X.base X.stack:=by
 rcases I.ok.ig with e |⟨e,hf⟩
 ·rw[e];exact I.bY
 ·rw[e]
  obtain⟨m,hn,_⟩:=I.loc
  refine .cons (by rw[I.ok.kind];decide) hf hn ?_ I.bY
  exact Heap.get?_none_of_le (Nat.le_trans I.ok.fj I.ok.above)
theorem Inv.kN (I:Inv X pins σ H s):∀b∈aA X.stack,b∈X.env.locals::X.fs:=fun b hb=>by
 rcases I.ok.ig with e |⟨e,hf⟩
 ·rw[e]at hb;exact List.mem_cons_of_mem _ hb
 ·rw[e]at hb
  unfold aA at hb
  rw[List.filterMap_cons,hf]at hb
  exact hb
theorem Inv.jO (I:Inv X pins σ H s):∀b∈aA X.stack,H b=none:=fun b hb=>by
 rcases List.mem_cons.mp (I.kN b hb) with e |hb
 ·rw[e];exact I.free
 ·obtain⟨_,o,ho,_⟩:=I.ok.bY.mem hb
  exact I.base.free b o ho (I.ok.dU b hb) fun z=>I.ok.gi b z hb
theorem Inv.step {g':Array GenState}{t':Nat}{d':Drawn}{ch:List Addr}(I:Inv X pins σ H s)
  (gA:∀b∈ch,(b∈X.ex∨X.bC.heap.objs.size≤b)∧b≠X.env.locals∧(∀x c,X.env.cells.lookup x=some c→c≠b)∧∀p∈X.pn++pins,p.1≠b)
  (keep:∀b o,b≠X.env.locals→b∉X.fs→b∉ch→s.heap.get? b=some o→H b=none→h'.get? b=some o)
  (slot:∀b o,b≠X.env.locals→b∈X.fs→b∉ch→s.heap.get? b=some o→H b=none→∃sl,h'.get? b=some {o with slots:=sl}) (free:∀b o,b∉ch→s.heap.get? b=some o→H b=none→H' b=none)
  (there:∀b o,b∉ch→s.heap.get? b=some o→∃o',h'.get? b=some o')
  (dJ:∀b xs,H b=some (.tup xs)→H' b=some (.tup xs)) (dB:∀b o u,H b=some (.bZ o u)→H' b=some (.bZ o u)) (dq:∀b ps,H b=some (.bt ps)→∃more,H' b=some (.bt (ps++more)))
  (ns:∀m,s.heap.Ns X.env.locals m→h'.Ns X.env.locals m) (ah:bc X.prog X.w H' h') (hg:AllBare g'):
  Inv X pins σ H' {s with heap:=h',gens:=g',drawn:=d',toks:=t'} :=by
 have xk:∀b o,X.bC.heap.get? b=some o→b≠X.env.locals:=fun b o e=>Nat.ne_of_lt (Nat.lt_of_lt_of_le (Heap.lt_size e) I.ok.above)
 have cU:∀b o,X.bC.heap.get? b=some o→b∉X.ex→b∉ch:=fun b o e hx hb=>by
  rcases (gA b hb).1 with z |z
  ·exact hx z
  ·exact absurd (Nat.lt_of_lt_of_le (Heap.lt_size e) z) (Nat.lt_irrefl _)
 have cellK:∀x c,X.env.cells.lookup x=some c→∀v,s.heap.IsCell c v→h'.IsCell c v:=fun x c e v ⟨o,ho,hd⟩=>by
  have lA:c∉ch:=fun z=> (gA c z).2.2.1 x c e rfl
  by_cases hc:c∈X.fs
  ·obtain⟨sl,q⟩:=slot c o (I.fA x c e) hc lA ho (I.dC x c e)
   exact⟨_,q,hd⟩
  ·exact⟨o,keep c o (I.fA x c e) hc lA ho (I.dC x c e),hd⟩
 refine⟨I.ok,I.os,hg,⟨fun b o e n hb hx=> ?_,fun b o e n hb hx=> ?_,fun b o e n hx=> ?_,fun b o e hx=> ?_,fun b xs e=>dJ b xs (I.base.dJ b xs e),fun b o xs e=>dB b o xs (I.base.dB b o xs e),fun b ps e=> ?_⟩,?_,fun x c e=> ?_,?_,fun x c e=> ?_,fun p hp=> ?_,ah,I.len⟩
 ·exact keep b o (xk b o e) hb (cU b o e hx) (I.base.keep b o e n hb hx) (I.base.free b o e n hx)
 ·obtain⟨sl,e1⟩:=I.base.slot b o e n hb hx
  obtain⟨A9,e2⟩:=slot b _ (xk b o e) hb (cU b o e hx) e1 (I.base.free b o e n hx)
  exact⟨A9,e2⟩
 ·obtain⟨o',e1⟩:=I.base.there b o e hx
  exact free b o' (cU b o e hx) e1 (I.base.free b o e n hx)
 ·obtain⟨o',e1⟩:=I.base.there b o e hx
  exact there b o' (cU b o e hx) e1
 ·obtain⟨m1,e1⟩:=I.base.dq b ps e
  obtain⟨m2,e2⟩:=dq b _ e1
  exact⟨m1++m2,by rw[e2,Array.append_assoc]⟩
 ·obtain⟨m,hn,hl⟩:=I.loc
  refine⟨m,ns m hn,fun i x v e1 e2 e3=> ?_⟩
  obtain⟨u,r,l⟩:=hl i x v e1 e2 e3
  refine⟨u,r,?_⟩
  rcases l with l |⟨k,c,e,z⟩
  ·exact .inl l
  ·exact .inr ⟨k,c,e,cellK x c e _ z⟩
 ·obtain⟨v,z⟩:=I.cell x c e
  exact⟨v,cellK x c e v z⟩
 ·obtain⟨m,⟨o,_,_,ho,_⟩,_⟩:=I.loc
  exact free _ o (fun z=> (gA _ z).2.1 rfl) ho I.free
 ·obtain⟨v,o,ho,hd⟩:=I.cell x c e
  exact free c o (fun z=> (gA c z).2.2.1 x c e rfl) ho (I.dC x c e)
 ·obtain⟨e,n,ne,nf,d⟩:=I.pin p hp
  have lA:p.1∉ch:=fun z=> (gA p.1 z).2.2.2 p hp rfl
  exact⟨keep p.1 p.2 ne nf lA e n,free p.1 p.2 lA e n,ne,nf,d⟩
theorem Inv.un {t':Nat}(I:Inv X pins σ H s) (u:Un X.fs [] H H' s.heap h') (ah:bc X.prog X.w H' h'):Inv X pins σ H' {s with heap:=h',toks:=t'} :=by
 obtain⟨m,⟨o,es,ep,ho,r⟩,_⟩:=id I.loc
 obtain⟨sl,hL⟩:=u.any ho I.free (by simp)
 exact I.step (g':=s.gens) (d':=s.drawn) (ch:=[]) (fun _ z=>nomatch z) (fun b o _ hb _ e n=>u.keep b o e n hb (by simp)) (fun b o _ hb _ e n=>u.slot b o e n hb (by simp)) (fun b o _ e n=>u.free b o e n (by simp)) (fun b o _ e=>u.there b o e (by simp)) u.dJ u.dB u.dq (fun m' hm=>by
  obtain⟨o',uE,mz,bA,r'⟩:=hm
  rw[ho]at bA;cases bA
  exact⟨_,uE,mz,hL,r'⟩) ah I.bare
theorem Inv.call {g':Array GenState}{t':Nat}{d':Drawn}{ch:List Addr}(I:Inv X pins σ H s) (u:Un (aA X.stack) ch H H' s.heap h') (ah:bc X.prog X.w H' h') (hg:AllBare g')
  (gA:∀b∈ch,(b∈X.ex∨X.bC.heap.objs.size≤b)∧b≠X.env.locals∧(∀x c,X.env.cells.lookup x=some c→c≠b)∧∀p∈X.pn++pins,p.1≠b):
  Inv X pins σ H' {s with heap:=h',gens:=g',drawn:=d',toks:=t'} :=by
 obtain⟨m,⟨o,es,ep,ho,r⟩,_⟩:=id I.loc
 obtain⟨sl,hL⟩:=u.any ho I.free fun z=> (gA _ z).2.1 rfl
 exact I.step (ch:=ch) gA (fun b o hL hb hc e n=>u.keep b o e n (fun z=> (List.mem_cons.mp (I.kN b z)).elim hL hb) hc) (fun b o _ _ hc e n=>u.any e n hc) (fun b o hc e n=>u.free b o e n hc) (fun b o hc e=>u.there b o e hc) u.dJ u.dB u.dq (fun m' hm=>by
  obtain⟨o',uE,mz,bA,r'⟩:=hm
  rw[ho]at bA;cases bA
  exact⟨_,uE,mz,hL,r'⟩) ah hg
theorem Inv.turned {t':Nat}{it:Addr}(I:Inv X pins σ H s) (k:∀b o,b≠it→s.heap.get? b=some o→h'.get? b=some o) (hn:H it=none) (hL:it≠X.env.locals)
  (h1:it∈X.ex∨X.bC.heap.objs.size≤it) (h2:∀x c,X.env.cells.lookup x=some c→c≠it) (h3:∀p∈X.pn++pins,p.1≠it):Inv X pins σ H {s with heap:=h',toks:=t'} :=by
 have xj:∀b u,H b=some u→b≠it:=fun b u e z=>by rw[z,hn]at e;cases e
 refine I.step (g':=s.gens) (d':=s.drawn) (ch:=[it]) (fun b hb=> ?_) (fun b o _ _ hc e _=>k b o (fun z=>hc (by simp[z])) e) (fun b o _ _ hc e _=> ⟨o.slots,k b o (fun z=>hc (by simp[z])) e⟩) (fun _ _ _ _ n=>n)
  (fun b o hc e=> ⟨o,k b o (fun z=>hc (by simp[z])) e⟩) (fun _ _ e=>e) (fun _ _ _ e=>e) (fun b ps e=> ⟨#[],by rw[e];simp⟩) (fun m hm=> ?_) (fun b u e=> ?_) I.bare
 ·have e:b=it:=by simpa using hb
  subst e
  exact⟨h1,hL,h2,h3⟩
 ·obtain⟨o,es,ep,ho,r⟩:=hm
  exact⟨o,es,ep,k _ o (Ne.symm hL) ho,r⟩
 ·refine(I.ah b u e).fO (fun c v hc q=>k c v ?_ q) (fun _ q=>q) fun _ _ q=>q
  rcases hc with z |z
  ·rw[z];exact xj b u e
  ·exact xj c _ z
theorem Inv.tok (I:Inv X pins σ H s) (t:Nat):Inv X pins σ H {s with toks:=t} :=I.un (h':=s.heap) (t':=t) Un.refl I.ah
theorem Inv.kept {t':Nat}(I:Inv X pins σ H s) (k:∀b u,s.heap.get? b=some u→h'.get? b=some u):Inv X pins σ H {s with heap:=h',toks:=t'} :=I.un (Un.kept k) (I.ah.kept k)
theorem Inv.laid {a:Addr}{o:HO}{t':Nat}(I:Inv X pins σ H s) (k:∀b u,s.heap.get? b=some u→h'.get? b=some u) (hp:s.heap.objs.size≤a) (new:bq X.prog X.w (upd H a o) h' a o):
  Inv X pins σ (upd H a o) {s with heap:=h',toks:=t'} :=I.un (Un.laid k hp (I.ah.fresh hp)) (I.ah.laid k hp new)
theorem Inv.write {x e:Addr}{o:HO}{t':Nat}(I:Inv X pins σ H s) (mu:p9 (H x)) (he:e=x∨H e=some (.own x)) (k:∀b u,b≠e→s.heap.get? b=some u→h'.get? b=some u) (kh:∃u,h'.get? e=some u)
  (new:bq X.prog X.w (upd H x o) h' x o):Inv X pins σ (upd H x o) {s with heap:=h',toks:=t'} :=I.un (Un.write mu he k kh) (I.ah.write mu he k kh new)
theorem Inv.wZ {w4:List (Addr×Obj)}(I:Inv X pins σ H s) (h:∀p∈w4,s.heap.get? p.1=some p.2∧H p.1=none∧p.1≠X.env.locals∧p.1∉X.fs∧∀v,p.2.data≠.cell v):Inv X w4 σ H s:=
 ⟨I.ok,I.os,I.bare,I.base,I.loc,I.cell,I.free,I.dC,fun p hp=> (List.mem_append.mp hp).elim (fun z=>I.pin p (List.mem_append_left _ z)) (h p),I.ah,I.len⟩
theorem Jw {N:List Str}(hN:N.Nodup) {i j:Nat}{x:Str}(a:N[i]? =some x) (b:N[j]? =some x):i=j:=by
 obtain⟨h1,e1⟩:=List.getElem?_eq_some_iff.mp a
 obtain⟨h2,e2⟩:=List.getElem?_eq_some_iff.mp b
 exact(List.getElem_inj hN).mp (e1.trans e2.symm)
theorem YV {M:Model}{A:Around}{E:Value→Shared→Prop}{i:Nat}{x:Str}{v:V}{u:Value}{Q:Unit→Shared→Prop}(I:Inv X pins σ H s) (hN:X.N.Nodup) (hi:X.N[i]? =some x) (hx:Loc X.env.scope x) (r:RelV v u)
  (h:∀s',Inv X pins (σ.set i (some v)) H s'→(∃a,Heap.SameBut a s.heap s'.heap∧(a=X.env.locals∨X.env.cells.lookup x=some a))→Q () s') (hf:X.fn x=true∨X.env.scope.names.lookup x=some .local:=by first |exact .inl rfl |exact .inr rfl |assumption):wpAny M A (storeName X.env x u) Q E s:=by
 obtain⟨m,hn,hl⟩:=id I.loc
 have jm:(X.env.scope.kind==.class||(X.env.scope.kind==.module&&X.env.locals !=X.env.globals))=false:=by rw[I.ok.kind];rfl
 have xW:i<σ.length:=by rw[I.len];exact(List.getElem?_eq_some_iff.mp hi).1
 have fA:=I.fA
 have tracked:∀{a:Addr}{h':Heap},(∃o,s.heap.get? a=some o∧H a=none)→Heap.SameBut a s.heap h'→bc X.prog X.w H h':=fun {a h'} ha hs b ob e=>by
  obtain⟨_,_,xY⟩:=ha
  refine(I.ah b ob e).fO (fun c w' hc q=> (hs.2 c ?_).trans q) (fun _ q=>q) fun _ _ q=>q
  rintro rfl
  rcases hc with rfl |hc
  ·rw[xY]at e;cases e
  ·rw[xY]at hc;cases hc
 rcases hx with hk |hk
 ·refine wpAny_storeName_local hk hn (fun h' Dv hs=> ?_) jm
  obtain⟨oL,_,_,hoL,_⟩:=id hn
  refine h _ ⟨I.ok,I.os,I.bare,⟨fun b o e n hb hx=> ?_,fun b o e n hb hx=> ?_,I.base.free,fun b o e hx=> ?_,I.base.dJ,I.base.dB,I.base.dq⟩,⟨_,Dv,fun j y v' e1 e2 e3=> ?_⟩,fun y c e=> ?_,I.free,I.dC,fun p hp=> ?_,tracked ⟨oL,hoL,I.free⟩ hs,by simpa using I.len⟩ ⟨_,hs,.inl rfl⟩
  ·exact(hs.2 b (Nat.ne_of_lt (Nat.lt_of_lt_of_le (Heap.lt_size e) I.ok.above))).trans (I.base.keep b o e n hb hx)
  ·obtain⟨sl,e1⟩:=I.base.slot b o e n hb hx
   exact⟨sl,(hs.2 b (Nat.ne_of_lt (Nat.lt_of_lt_of_le (Heap.lt_size e) I.ok.above))).trans e1⟩
  ·obtain⟨o',e1⟩:=I.base.there b o e hx
   exact⟨o',(hs.2 b (Nat.ne_of_lt (Nat.lt_of_lt_of_le (Heap.lt_size e) I.ok.above))).trans e1⟩
  ·by_cases hj:j=i
   ·subst hj
    rw[hi]at e1;cases e1
    rw[List.getElem?_set_self xW]at e2
    cases e2
    exact⟨u,r,.inl ⟨hk,by simp⟩⟩
   ·rw[List.getElem?_set_ne (Ne.symm hj)]at e2
    obtain⟨u',r',q⟩:=hl j y v' e1 e2 e3
    refine⟨u',r',?_⟩
    rcases q with ⟨k,e⟩ |⟨k,c,e,z⟩
    ·refine .inl ⟨k,?_⟩
     have:y≠x:=fun e=>hj (Jw hN e1 (e▸hi))
     simp[this,e]
    ·exact .inr ⟨k,c,e,z.sameBut hs (fA y c e)⟩
  ·obtain⟨w',z⟩:=I.cell y c e
   exact⟨w',z.sameBut hs (fA y c e)⟩
  ·obtain⟨e,n,ne,nf,d⟩:=I.pin p hp
   exact⟨(hs.2 p.1 ne).trans e,n,ne,nf,d⟩
 ·have fc:X.fn x=true:=by
   rcases hf with z |z
   ·exact z
   ·rw[z]at hk;cases hk
  obtain⟨c,hc⟩:=I.ok.has x (.inl hk)
  obtain⟨w',z⟩:=I.cell x c hc
  refine wpAny_storeName_cell I.ok.kind hk hc z (fun h' bM hs=> ?_)
  obtain⟨oc,xS,Dq⟩:=id z
  refine h {s with heap:=h'} ⟨I.ok,I.os,I.bare,⟨fun b o e n hb hx=> ?_,fun b o e n hb hx=> ?_,I.base.free,fun b o e hx=> ?_,I.base.dJ,I.base.dB,I.base.dq⟩,⟨m,hn.sameBut hs (Ne.symm (fA x c hc)),fun j y v' e1 e2 e3=> ?_⟩,fun y c' e=> ?_,I.free,I.dC,fun p hp=> ?_,tracked ⟨oc,xS,I.dC x c hc⟩ hs,by simpa using I.len⟩ ⟨c,hs,.inr hc⟩
  ·exact(hs.2 b (Nat.ne_of_lt (Nat.lt_of_lt_of_le (Heap.lt_size e) (I.ok.gG x c fc hc)))).trans (I.base.keep b o e n hb hx)
  ·obtain⟨sl,e1⟩:=I.base.slot b o e n hb hx
   exact⟨sl,(hs.2 b (Nat.ne_of_lt (Nat.lt_of_lt_of_le (Heap.lt_size e) (I.ok.gG x c fc hc)))).trans e1⟩
  ·obtain⟨o',e1⟩:=I.base.there b o e hx
   exact⟨o',(hs.2 b (Nat.ne_of_lt (Nat.lt_of_lt_of_le (Heap.lt_size e) (I.ok.gG x c fc hc)))).trans e1⟩
  ·by_cases hj:j=i
   ·subst hj
    rw[hi]at e1;cases e1
    rw[List.getElem?_set_self xW]at e2
    cases e2
    exact⟨u,r,.inr ⟨.inl hk,c,hc,bM⟩⟩
   ·rw[List.getElem?_set_ne (Ne.symm hj)]at e2
    obtain⟨u',r',q⟩:=hl j y v' e1 e2 e3
    refine⟨u',r',?_⟩
    rcases q with q |⟨k,c',e,z'⟩
    ·exact .inl q
    ·refine .inr ⟨k,c',e,z'.sameBut hs ?_⟩
     rintro rfl
     exact hj (Jw hN e1 (I.ok.inj _ _ _ e hc▸hi))
  ·by_cases ft:c'=c
   ·subst ft;exact⟨_,bM⟩
   ·obtain⟨w2,z2⟩:=I.cell y c' e
    exact⟨w2,z2.sameBut hs ft⟩
  ·obtain⟨e,n,ne,nf,d⟩:=I.pin p hp
   refine⟨(hs.2 p.1 ?_).trans e,n,ne,nf,d⟩
   intro q
   rw[q,xS]at e
   have q':oc=p.2:=Option.some.inj e
   exact d w' (by rw[←q'];exact Dq)
theorem ZU {M:Model}{A:Around}{E:Value→Shared→Prop}{i:Nat}{x:Str}{v:V}{u:Value}{Q:Unit→Shared→Prop}(I:Inv X pins σ H s) (hN:X.N.Nodup) (hi:X.N[i]? =some x) (hx:Loc X.env.scope x) (r:RelV v u)
  (h:∀s',Inv X pins (σ.set i (some v)) H s'→Q () s') (hf:X.fn x=true∨X.env.scope.names.lookup x=some .local:=by first |exact .inl rfl |exact .inr rfl |assumption):wpAny M A (storeName X.env x u) Q E s:=
 YV I hN hi hx r (fun s' I' _=>h s' I') hf
theorem Inv.pV {s':Shared}{ch:List Addr}(I:Inv X pins σ H s) (ho:s'.os=s.os) (u:Un (aA X.stack) ch H H' s.heap s'.heap) (ah:bc X.prog X.w H' s'.heap) (hg:AllBare s'.gens)
  (gA:∀b∈ch,(b∈X.ex∨X.bC.heap.objs.size≤b)∧b≠X.env.locals∧(∀x c,X.env.cells.lookup x=some c→c≠b)∧∀p∈X.pn++pins,p.1≠b):Inv X pins σ H' s':=by
 obtain⟨h',g',d',t',o'⟩:=s'
 have e:o'=s.os:=ho
 subst e
 exact I.call (g':=g') (t':=t') (d':=d') u ah hg gA
end
abbrev XK:=Value→Option Addr→Hp→Prop
abbrev St:=List (Option V)
abbrev VK:=V→Hp→Prop
abbrev TE:=St→Hp→VK→Prop
abbrev TT:=St→Hp→(Bool→Hp→Prop)→Prop
abbrev TA:=St→Hp→(List V→Hp→Prop)→Prop
structure Ends where
 nx:St→Hp→Prop
 rt:VK
 bk:St→Hp→Prop:=fun _ _=>False
 ct:St→Hp→Prop:=fun _ _=>False
abbrev TS:=Ends→St→Hp→Prop
def EP (X:Cx) (pins:List (Addr×Obj)) (σ:St) (Q:VK) (u:Value) (s':Shared):Prop:=∃v H',Inv X pins σ H' s'∧RelV v u∧Q v H'
def TP (X:Cx) (pins:List (Addr×Obj)) (σ:St) (Q:Bool→Hp→Prop) (b:Bool) (s':Shared):Prop:=∃H',Inv X pins σ H' s'∧Q b H'
def AP (X:Cx) (pins:List (Addr×Obj)) (σ:St) (Q:List V→Hp→Prop) (us:List Value) (s':Shared):Prop:=∃vs H',Inv X pins σ H' s'∧Vals vs us∧Q vs H'
def SP (X:Cx) (pins:List (Addr×Obj)) (D:Ends) (f:Flow) (s':Shared):Prop:=
 match f with
 | .next=> ∃af H',Inv X pins af H' s'∧D.nx af H'
 | .brk=> ∃af H',Inv X pins af H' s'∧D.bk af H'
 | .cont=> ∃af H',Inv X pins af H' s'∧D.ct af H'
 | .ret u=> ∃v af H',Inv X pins af H' s'∧RelV v u∧D.rt v H'
def PE (X:Cx) (e:Expr) (t:TE):Prop:=
 ∀(pins:List (Addr×Obj)) (s:Shared) (σ:St) (H:Hp) (Q:VK),Inv X pins σ H s→t σ H Q→wpAny (model X.prog X.w) X.A (eval e X.env) (EP X pins σ Q) X.xe s
def PT (X:Cx) (e:Expr) (t:TT):Prop:=
 ∀(pins:List (Addr×Obj)) (s:Shared) (σ:St) (H:Hp) (Q:Bool→Hp→Prop),Inv X pins σ H s→t σ H Q→wpAny (model X.prog X.w) X.A (isTrue e X.env (eval e X.env)) (TP X pins σ Q) X.xe s
def PW (X:Cx) (e:Expr) (t:TT):Prop:=
 ∀(whole:Sem Value) (pins:List (Addr×Obj)) (s:Shared) (σ:St) (H:Hp) (Q:Bool→Hp→Prop),Inv X pins σ H s→t σ H Q→wpAny (model X.prog X.w) X.A (isTrue e X.env whole) (TP X pins σ Q) X.xe s
theorem PW.pt {X:Cx}{e:Expr}{t:TT}(h:PW X e t):PT X e t:=h _
def PA (X:Cx) (es:List Expr) (t:TA):Prop:=
 ∀(pos:Pos) (pins:List (Addr×Obj)) (s:Shared) (σ:St) (H:Hp) (Q:List V→Hp→Prop),Inv X pins σ H s→t σ H Q→wpAny (model X.prog X.w) X.A (spliced (backTo pos (starEach es X.env))) (AP X pins σ Q) X.xe s
def PS (X:Cx) (st:Stmt) (t:TS):Prop:=
 ∀(pins:List (Addr×Obj)) (s:Shared) (σ:St) (H:Hp) (D:Ends),Inv X pins σ H s→t D σ H→wpAny (model X.prog X.w) X.A (exec st X.env) (SP X pins D) X.xe s
def cK (X:Cx) (st:List Stmt) (t:TS):Prop:=
 ∀(pins:List (Addr×Obj)) (s:Shared) (σ:St) (H:Hp) (D:Ends),Inv X pins σ H s→t D σ H→wpAny (model X.prog X.w) X.A (execs st X.env) (SP X pins D) X.xe s
theorem ao {α:Type}{t:Sem α}{Q Q':α→Shared→Prop}{M:Model}{A:Around}{E:Value→Shared→Prop}{s:Shared}(h:wpAny M A t Q E s) (hQ:∀a s,Q a s→Q' a s):wpAny M A t Q' E s:=wpAny_mono h hQ fun _ _ x=>x
section
variable {X:Cx}
def fm (i:Nat):TE:=fun σ H Q=> ∃v,σ[i]? =some (some v)∧Q v H
def tC (v:V):TE:=fun _ H Q=>Q v H
theorem YW {i:Nat}{x:Str}{pos:Pos}(hN:X.N[i]? =some x) (hv:jy X.env.scope x) (hd:(x==("__debug__" :Str))=false:=by decide) (bJ:(x==("__classdict__" :Str))=false:=by decide):PE X (.Name x pos) (fm i):=by
 intro pins s σ H Q I h
 obtain⟨v,e,h⟩:=h
 obtain⟨m,hn,hl⟩:=I.loc
 obtain⟨u,r,l⟩:=hl i x v hN e hv
 have fin:EP X pins σ Q u s:=⟨v,H,I,r,h⟩
 rcases l with ⟨hk,hm⟩ |⟨hk,c,hc,iE⟩
 ·exact wpAny_Name (wpAny_loadName_local I.ok.kind hk hn hm fin) hd
 ·rcases hk with hk |hk
  ·exact wpAny_Name (wpAny_loadName_cell I.ok.kind hk hc iE fin) hd
  ·exact wpAny_Name (wpAny_loadName_free I.ok.kind hk hc iE fin bJ) hd
theorem Zf {i j pos} :PE X (.Constant (.int i) j pos) (tC (.int i)):=fun _ _ _ H _ I h=>wpAny_Constant_int ⟨.int i,H,I.tok _,⟨_,rfl⟩,h⟩
theorem Y4 {b j pos} :PE X (.Constant (.bool b) j pos) (tC (.bl b)):=fun _ _ _ H _ I h=>Constant_bool ⟨.bl b,H,I,rfl,h⟩
theorem Yc {j pos} :PE X (.Constant .none j pos) (tC .ae):=fun _ _ _ H _ I h=>Constant_none ⟨.ae,H,I,rfl,h⟩
theorem Zl {x j pos} :PE X (.Constant (.str x) j pos) (tC (.str x)):=fun _ _ _ H _ I h=>Calls.Constant_str ⟨.str x,H,I.tok _,⟨_,rfl⟩,h⟩
def Gl (X:Cx) (x:Str):Prop:=X.env.kindOf x=some .globalImplicit
theorem Yo {E:Value→Shared→Prop}{pins:List (Addr×Obj)}{s:Shared}{σ:St}{H:Hp}{x:Str}{u:Value}{pos:Pos}{Q:Value→Shared→Prop}(I:Inv X pins σ H s) (hg:Gl X x) (hm:X.mg x=some u) (h:Q u s)
  (hd:(x==("__debug__" :Str))=false:=by decide):wpAny (model X.prog X.w) X.A (eval (.Name x pos) X.env) Q E s:=
 Calls.Name_function_global I.ok.kind hg (Calls.loadGlobal_global (by rw[I.ok.glob];exact I.mod.glob.keeps I.bk) hm h) hd
theorem JA {E:Value→Shared→Prop}{pins:List (Addr×Obj)}{s:Shared}{σ:St}{H:Hp}{x:Str}{u:Value}{pos:Pos}{Q:Value→Shared→Prop}(I:Inv X pins σ H s) (hg:Gl X x) (hm:X.mg x=none) (hv:bootBuiltins x=some u) (h:Q u s)
  (hn:x≠ "__name__" :=by decide) (hd:(x==("__debug__" :Str))=false:=by decide):wpAny (model X.prog X.w) X.A (eval (.Name x pos) X.env) Q E s:=by
 obtain⟨mb,h1,h2⟩:=I.mod.blt
 exact Calls.Name_function_global I.ok.kind hg (Calls.loadGlobal_builtin (by rw[I.ok.glob];exact I.mod.glob.keeps I.bk) hm (by rw[I.ok.blt];exact h1.keeps I.bk) ((h2 x hn).trans hv) h) hd
theorem ZF {x:Str}{v:V}{u:Value}{pos:Pos}(hg:Gl X x) (hm:X.mg x=some u) (r:RelV v u) (hd:(x==("__debug__" :Str))=false:=by decide):PE X (.Name x pos) (tC v):=
 fun _ _ _ H _ I h=>Yo I hg hm ⟨v,H,I,r,h⟩ hd
theorem YL {x:Str}{v:V}{u:Value}{pos:Pos}(hg:Gl X x) (hm:X.mg x=none) (hv:bootBuiltins x=some u) (r:RelV v u) (hn:x≠ "__name__" :=by decide) (hd:(x==("__debug__" :Str))=false:=by decide):PE X (.Name x pos) (tC v):=
 fun _ _ _ H _ I h=>JA I hg hm hv ⟨v,H,I,r,h⟩ hn hd
variable {a b:Expr}{ta tb:TE}{pos:Pos}
def PC (X:Cx) (op:CmpOp) (a b:Expr) (t:TE):Prop:=
 ∀(pins:List (Addr×Obj)) (s:Shared) (σ:St) (H:Hp) (Q:VK),Inv X pins σ H s→t σ H Q→
  wpAny (model X.prog X.w) X.A (eval a X.env) (fun v av=>wpAny (model X.prog X.w) X.A (eval b X.env) (fun u cq=>wpAny (model X.prog X.w) X.A (compareOp op v u) (EP X pins σ Q) X.xe cq) X.xe av) X.xe s
theorem xf (b:Expr) {op:CmpOp}(h:op≠.In) (h2:op≠.NotIn):behindInMarks op b=false:=by
 have e1:(op==CmpOp.In)=false:=by cases op<;>first |rfl |exact absurd rfl h
 have e2:(op==CmpOp.NotIn)=false:=by cases op<;>first |rfl |exact absurd rfl h2
 cases b<;>simp[behindInMarks,e1,e2]
def AL (ta:TE):TE:=fun σ H Q=>ta σ H fun x H1=>Q (.bl (decide (x=.ae))) H1
def AF (ta:TE):TE:=fun σ H Q=>ta σ H fun x H1=>Q (.bl (!decide (x=.ae))) H1
theorem RelV.xc {x:V}{v:Value}(r:RelV x v):(v==Value.none)=decide (x=.ae):=by
 cases x with
 |ae=>cases r;rfl
 |bl _=>cases r;rfl
 |int _=>obtain⟨t,rfl⟩:=r;rfl
 |str _=>obtain⟨t,rfl⟩:=r;rfl
 |fi _=>obtain⟨t,rfl⟩:=r;rfl
 |gC _=>obtain⟨t,rfl⟩:=r;rfl
 |ref _=>cases r;rfl
 |ty _=>cases r;rfl
theorem Uw {j pos'} (ha:PE X a ta):PC X .Is a (.Constant .none j pos') (AL ta):=by
 intro pins s σ H Q I h
 refine ao (ha pins s σ H _ I h) fun v s1 ⟨x,H1,I1,r1,q1⟩=> ?_
 exact Constant_none (is_none_gen ⟨.bl _,H1,I1,by rw[r1.xc];rfl,q1⟩)
theorem Wq {j pos'} (ha:PE X a ta):PC X .IsNot a (.Constant .none j pos') (AF ta):=by
 intro pins s σ H Q I h
 refine ao (ha pins s σ H _ I h) fun v s1 ⟨x,H1,I1,r1,q1⟩=> ?_
 exact Constant_none (isnot_none_gen ⟨.bl _,H1,I1,by rw[r1.xc];rfl,q1⟩)
def tB (t:TE):TT:=fun σ H Q=>t σ H fun x H1=> ∃c,x=.bl c∧Q c H1
theorem GG {op:CmpOp}{t:TE}(h:PC X op a b t) (h1:behindInMarks op b=false:=by first |exact xf _ (by decide) (by decide) |rfl):PE X (.Compare a [op] [b] pos) t:=fun pins s σ H Q I hw=>wpAny_Compare1 (h pins s σ H Q I hw) h1
theorem Jp {op:CmpOp}{t:TE}(h:PC X op a b t) (h1:behindInMarks op b=false:=by first |exact xf _ (by decide) (by decide) |rfl):PT X (.Compare a [op] [b] pos) (tB t):=by
 intro pins s σ H Q I hw
 refine wpAny_isTrue_Compare1 (ao (h pins s σ H _ I hw) fun v s1 h1=>ao h1 fun u s2 h2=>ao h2 fun c s3 ⟨x,H1,I1,r1,q1⟩=> ?_) h1
 obtain⟨d,rfl,q⟩:=q1
 cases r1
 exact wpAny_truthy_bool ⟨H1,I1,q⟩
theorem Yb {e:Expr}{t:TE}(h:PE X e t) (he:∀whole,isTrue e X.env whole=(do let v ←whole;standAt e.pos;holding [v] (truthy v)):=by intro _;rfl):PT X e (tB t):=by
 intro pins s σ H Q I hw
 refine isTrue_plain (ao (h pins s σ H _ I hw) fun v s1 ⟨x,H1,I1,r1,q1⟩=> ?_) (he _)
 obtain⟨d,rfl,q⟩:=q1
 cases r1
 exact wpAny_truthy_bool ⟨H1,I1,q⟩
variable {tA nH:TT}{rest:List Expr}
def A4 (t u:TT):TT:=fun σ H Q=>t σ H fun c H1=>if c=true then u σ H1 Q else Q false H1
def AD (t u:TT):TT:=fun σ H Q=>t σ H fun c H1=>if c=true then Q true H1 else u σ H1 Q
def AG (t:TT):TT:=fun σ H Q=>t σ H fun c H1=>Q (!c) H1
theorem Ir (ha:PT X a tA):PW X (.BoolOp .And [a] pos) tA:=by
 intro wh pins s σ H Q I h
 refine isTrue_and (ao (ha pins s σ H Q I h) fun c s1 e=> ?_)
 cases c with
 |true=>exact isTrue_and_nil e
 |false=>exact e
theorem Yp (ha:PT X a tA):PW X (.BoolOp .Or [a] pos) tA:=by
 intro wh pins s σ H Q I h
 refine isTrue_or (ao (ha pins s σ H Q I h) fun c s1 e=> ?_)
 cases c with
 |false=>exact isTrue_or_nil e
 |true=>exact e
theorem GL (ha:PT X a tA) (hb:PW X (.BoolOp .And (b::rest) pos) nH):PW X (.BoolOp .And (a::b::rest) pos) (A4 tA nH):=by
 intro wh pins s σ H Q I h
 refine isTrue_and (ao (ha pins s σ H _ I h) fun c s1 ⟨H1,I1,q1⟩=> ?_)
 cases c with
 |true=>exact hb wh pins s1 σ H1 Q I1 q1
 |false=>exact⟨H1,I1,q1⟩
theorem Y3 (ha:PT X a tA) (hb:PW X (.BoolOp .Or (b::rest) pos) nH):PW X (.BoolOp .Or (a::b::rest) pos) (AD tA nH):=by
 intro wh pins s σ H Q I h
 refine isTrue_or (ao (ha pins s σ H _ I h) fun c s1 ⟨H1,I1,q1⟩=> ?_)
 cases c with
 |true=>exact⟨H1,I1,q1⟩
 |false=>exact hb wh pins s1 σ H1 Q I1 q1
theorem Yz (ha:PT X a tA):PT X (.UnaryOp .Not a pos) (AG tA):=by
 intro pins s σ H Q I h
 exact isTrue_not (ha pins s σ H (fun c H1=>Q (!c) H1) I h)
def A3 (ta tb:TE):TE:=fun σ H Q=>ta σ H fun x H1=> ∃c,x=.bl c∧if c=true then tb σ H1 Q else Q (.bl false) H1
def AB (ta tb:TE):TE:=fun σ H Q=>ta σ H fun x H1=> ∃c,x=.bl c∧if c=true then Q (.bl true) H1 else tb σ H1 Q
def AE (ta:TE):TE:=fun σ H Q=>ta σ H fun x H1=> ∃c,x=.bl c∧Q (.bl (!c)) H1
theorem YA {op}{t:TE}(h:PE X a t):PE X (.BoolOp op [a] pos) t:=fun pins s σ H Q I hw=>BoolOp_one (h pins s σ H Q I hw)
theorem YX (ha:PE X a ta) (hb:PE X (.BoolOp .And (b::rest) pos) tb):PE X (.BoolOp .And (a::b::rest) pos) (A3 ta tb):=by
 intro pins s σ H Q I h
 refine BoolOp_and (ao (ha pins s σ H _ I h) fun v s1 ⟨x,H1,I1,r1,q1⟩=> ?_)
 obtain⟨c,rfl,q1⟩:=q1
 cases r1
 refine wpAny_truthy_bool ?_
 cases c with
 |true=>exact hb pins s1 σ H1 Q I1 q1
 |false=>exact⟨.bl false,H1,I1,rfl,q1⟩
theorem GW (ha:PE X a ta) (hb:PE X (.BoolOp .Or (b::rest) pos) tb):PE X (.BoolOp .Or (a::b::rest) pos) (AB ta tb):=by
 intro pins s σ H Q I h
 refine BoolOp_or (ao (ha pins s σ H _ I h) fun v s1 ⟨x,H1,I1,r1,q1⟩=> ?_)
 obtain⟨c,rfl,q1⟩:=q1
 cases r1
 refine wpAny_truthy_bool ?_
 cases c with
 |false=>exact hb pins s1 σ H1 Q I1 q1
 |true=>exact⟨.bl true,H1,I1,rfl,q1⟩
theorem GI (ha:PE X a ta):PE X (.UnaryOp .Not a pos) (AE ta):=by
 intro pins s σ H Q I h
 refine UnaryOp_ (ao (ha pins s σ H _ I h) fun v s1 ⟨x,H1,I1,r1,q1⟩=> ?_)
 obtain⟨c,rfl,q1⟩:=q1
 cases r1
 exact not_of (wpAny_truthy_bool ⟨.bl (!c),H1,I1,rfl,q1⟩)
def AN (t:TT) (ta tb:TE):TE:=fun σ H Q=>t σ H fun c H1=>if c=true then ta σ H1 Q else tb σ H1 Q
theorem Js {c:Expr}(hc:PT X c tA) (ha:PE X a ta) (hb:PE X b tb):PE X (.IfExp c a b pos) (AN tA ta tb):=by
 intro pins s σ H Q I h
 refine wpAny_IfExp (ao (hc pins s σ H _ I h) fun d s1 ⟨H1,I1,q1⟩=> ?_)
 cases d with
 |true=>exact ha pins s1 σ H1 Q I1 q1
 |false=>exact hb pins s1 σ H1 Q I1 q1
end
def ak (K:PySem.W.Frag) (H:Hp) (a:Addr) (xs:List V):Prop:=
 Rd H a (.lst xs)∨
  ∃(o:Obj) (aa:Array Value) (n:Nat),K.lookup a=some o∧o.cls=.type "list" ∧o.dict=none∧o.data=.seq aa n∧aa.size≤sizeLine∧Vals xs aa.toList
def au (K:PySem.W.Frag) (H:Hp) (a:Addr) (xs:List V):Prop:=
 Rd H a (.tup xs)∨
  (∃(o:Obj) (aa:Array Value) (n:Nat),K.lookup a=some o∧o.cls=.type "tuple" ∧o.data=.seq aa n∧aa.size≤sizeLine∧Vals xs aa.toList)∨H a=some (.par xs)
def Gb:Value→Option V
 | .none=>some .ae
 | .bool b=>some (.bl b)
 | .int i _=>some (.int i)
 | .str x _=>some (.str x)
 | .bytes b _=>some (.fi b)
 | .float b _=>some (.gC b)
 | .ref a=>some (.ref a)
 | .type n=>some (.ty n)
 |_=>none
theorem RelV.abs {x:V}{u:Value}(r:RelV x u):Gb u=some x:=by
 cases x with
 |ae=>cases r;rfl
 |bl _=>cases r;rfl
 |int _=>obtain⟨t,rfl⟩:=r;rfl
 |str _=>obtain⟨t,rfl⟩:=r;rfl
 |fi _=>obtain⟨t,rfl⟩:=r;rfl
 |gC _=>obtain⟨t,rfl⟩:=r;rfl
 |ref _=>cases r;rfl
 |ty _=>cases r;rfl
theorem RelV.inj {x y:V}{u:Value}(r:RelV x u) (q:RelV y u):x=y:=Option.some.inj (r.abs.symm.trans q.abs)
theorem Vals.inj:∀{xs ys:List V}{us:List Value},Vals xs us→Vals ys us→xs=ys
 |_,_,_,.nil,.nil=>rfl
 |_,_,_,.cons r t,.cons r' t'=>by rw[r.inj r',Vals.inj t t']
section
variable {X:Cx}{pins:List (Addr×Obj)}{σ:St}{H:Hp}{s:Shared}{a:Addr}{xs ys:List V}
theorem ak.of {K:PySem.W.Frag}(h:H a=some (.lst xs)):ak K H a xs:=.inl (.inl h)
theorem au.of {K:PySem.W.Frag}(h:H a=some (.tup xs)):au K H a xs:=.inl (.inl h)
theorem Inv.list (I:Inv X pins σ H s) (h:ak X.K H a xs):∃aa:List Value,Vals xs aa∧PlainL s.heap a aa.toArray∧xs.length≤sizeLine:=by
 rcases h with h |⟨o,aa,n,hk,hc,hd,hs,hz,r⟩
 ·obtain⟨z,aa,n,r,e⟩:=h.ok I.ah
  exact⟨aa,r,⟨_,n,e,rfl,rfl,rfl⟩,z⟩
 ·refine⟨aa.toList,r,⟨o,n,I.aW a o hk,hc,hd,by simpa using hs⟩,?_⟩
  have e:=r.length
  simp only[Array.length_toList]at e
  omega
theorem Inv.tuple (I:Inv X pins σ H s) (h:au X.K H a xs):∃aa:List Value,Vals xs aa∧IsTup s.heap a aa.toArray∧xs.length≤sizeLine:=by
 rcases h with h |⟨o,aa,n,hk,hc,hs,hz,r⟩ |h
 ·obtain⟨z,aa,r,p,_⟩:=h.ok I.ah
  exact⟨aa,r,p,z⟩
 rotate_left
 ·obtain⟨z,aa,r,p⟩:=(show bq X.prog X.w H s.heap a (.par xs) from I.ah a _ h)
  exact⟨aa,r,p,z⟩
 ·refine⟨aa.toList,r,⟨o,I.aW a o hk,hc,n,by simpa using hs⟩,?_⟩
  have e:=r.length
  simp only[Array.length_toList]at e
  omega
theorem Inv.CB (I:Inv X pins σ H s) (h:ak X.K H a xs) (h':ak X.K H a ys):xs=ys:=by
 obtain⟨aa,r,⟨o,n,e,_,_,d⟩,_⟩:=I.list h
 obtain⟨its',r',⟨o',n',e',_,_,d'⟩,_⟩:=I.list h'
 rw[e]at e';cases e'
 rw[d]at d'
 injection d' with d1 _
 have:aa=its':=by simpa using congrArg Array.toList d1
 subst this
 exact r.inj r'
theorem Inv.Ak (I:Inv X pins σ H s) (h:au X.K H a xs) (h':au X.K H a ys):xs=ys:=by
 obtain⟨aa,r,⟨o,e,_,n,d⟩,_⟩:=I.tuple h
 obtain⟨its',r',⟨o',e',_,n',d'⟩,_⟩:=I.tuple h'
 rw[e]at e';cases e'
 rw[d]at d'
 injection d' with d1 _
 have:aa=its':=by simpa using congrArg Array.toList d1
 subst this
 exact r.inj r'
end
abbrev Cx.dn (X:Cx) (E:Value→Shared→Prop):Cx:= {X with xe:=E}
abbrev Cx.dN (X:Cx):Cx:=X.dn fun _ _=>False
theorem Cx.Ok.dn {X:Cx}(ok:X.Ok) (E:Value→Shared→Prop):(X.dn E).Ok:=
 ⟨ok.mod,ok.kind,ok.glob,ok.blt,ok.above,ok.inj,ok.has,ok.gG,ok.hd,ok.frames,ok.ig,ok.gF,ok.bs,ok.fj,ok.gR,ok.gi,ok.bY,ok.dU⟩
theorem Cx.Ok.fJ {X:Cx}{E:Value→Shared→Prop}(ok:(X.dn E).Ok):X.Ok:=
 ⟨ok.mod,ok.kind,ok.glob,ok.blt,ok.above,ok.inj,ok.has,ok.gG,ok.hd,ok.frames,ok.ig,ok.gF,ok.bs,ok.fj,ok.gR,ok.gi,ok.bY,ok.dU⟩
section
variable {X:Cx}{pins:List (Addr×Obj)}{σ:St}{H:Hp}{s:Shared}{E:Value→Shared→Prop}
theorem Inv.dn (I:Inv X pins σ H s) (E:Value→Shared→Prop):Inv (X.dn E) pins σ H s:=⟨I.ok.dn E,I.os,I.bare,I.base,I.loc,I.cell,I.free,I.dC,I.pin,I.ah,I.len⟩
theorem Inv.fJ (I:Inv (X.dn E) pins σ H s):Inv X pins σ H s:=⟨I.ok.fJ,I.os,I.bare,I.base,I.loc,I.cell,I.free,I.dC,I.pin,I.ah,I.len⟩
theorem SP.fJ {D:Ends}{f:Flow}{s':Shared}(h:SP (X.dn E) pins D f s'):SP X pins D f s':=by
 cases f with
 |next=>obtain⟨af,H',I,q⟩:=h;exact⟨af,H',I.fJ,q⟩
 |brk=>obtain⟨af,H',I,q⟩:=h;exact⟨af,H',I.fJ,q⟩
 |cont=>obtain⟨af,H',I,q⟩:=h;exact⟨af,H',I.fJ,q⟩
 |ret u=>obtain⟨v,af,H',I,r,q⟩:=h;exact⟨v,af,H',I.fJ,r,q⟩
theorem cK.dN {st:List Stmt}{t:TS}(h:cK X.dN st t):cK X st t:=fun pins s σ H D I hw=>
 wpAny_mono (h pins s σ H D (I.dn _) hw) (fun _ _ q=>q.fJ) fun _ _ z=>False.elim z
end
section
variable {X:Cx}{st:Stmt}{rest:List Stmt}{t u:TS}{e:Expr}{te:TE}{pos:Pos}
def v7:TS:=fun D σ H=>D.nx σ H
def qx (t u:TS):TS:=fun D σ H=>t {D with nx:=u D} σ H
theorem ZA:cK X [] v7:=fun _ _ σ H _ I h=>wpAny_execs_nil ⟨σ,H,I,h⟩
theorem Ze (h1:PS X st t) (h2:cK X rest u):cK X (st::rest) (qx t u):=by
 intro pins s σ H D I h
 refine wpAny_execs_cons (ao (h1 pins s σ H {D with nx:=u D} I h) fun f s1 q=> ?_)
 cases f with
 |next=>
  obtain⟨af,H',I',q⟩:=q
  exact h2 pins s1 af H' D I' q
 |ret v=>exact q
 |brk=>exact q
 |cont=>exact q
theorem Zj (h1:PS X st t):cK X [st] t:=by
 intro pins s σ H D I h
 refine wpAny_execs_cons (ao (h1 pins s σ H D I h) fun f s1 q=> ?_)
 cases f with
 |next=>exact wpAny_execs_nil q
 |ret v=>exact q
 |brk=>exact q
 |cont=>exact q
theorem Inv.quiet {pins:List (Addr×Obj)}{σ:St}{H:Hp}{s:Shared}(I:Inv X pins σ H s):interactive X.env=false:=by simp[interactive,I.ok.kind]
def AU (te:TE):TS:=fun D σ H=>te σ H fun _ H1=>D.nx σ H1
theorem ZS (he:PE X e te) (hs:swapsWith e none pos.line X.env=pure false:=by rfl):PS X (.Expr e pos) (AU te):=by
 intro pins s σ H D I h
 exact wpAny_Expr_any (ao (he pins s σ H _ I h) fun v s1 ⟨x,H1,I1,r1,q1⟩=> ⟨σ,H1,I1,q1⟩) I.quiet hs
def qy (te:TE):TS:=fun D σ H=>te σ H D.rt
theorem Zv (he:PE X e te):PS X (.Return (some e) pos) (qy te):=by
 intro pins s σ H D I h
 exact wpAny_Return_some (ao (he pins s σ H _ I h) fun v s1 ⟨x,H1,I1,r1,q1⟩=> ⟨x,σ,H1,I1,r1,q1⟩)
def AM (c:TT) (t u:TS):TS:=fun D σ H=>c σ H fun b H1=>if b=true then t D σ H1 else u D σ H1
theorem ZN {c:Expr}{a b:List Stmt}{tc:TT}(hc:PT X c tc) (ha:cK X a t) (hb:cK X b u):PS X (.If c a b pos) (AM tc t u):=by
 intro pins s σ H D I h
 refine wpAny_If (ao (hc pins s σ H _ I h) fun d s1 ⟨H1,I1,q1⟩=> ?_)
 cases d with
 |true=>exact ha pins s1 σ H1 D I1 q1
 |false=>exact hb pins s1 σ H1 D I1 q1
def AI:TS:=fun _ _ _=>False
theorem ZO {A6:List Stmt} :cK X A6 AI:=fun _ _ _ _ _ _ h=>h.elim
end
abbrev TG:=V→St→Hp→(St→Hp→Prop)→Prop
abbrev hU:=List V→St→Hp→(St→Hp→Prop)→Prop
def PG (X:Cx) (target:Expr) (t:TG):Prop:=
 ∀(pins:List (Addr×Obj)) (s:Shared) (σ:St) (H:Hp) (v:V) (u:Value) (Q:St→Hp→Prop),Inv X pins σ H s→RelV v u→t v σ H Q→
  wpAny (model X.prog X.w) X.A (assign target X.env u) (fun _ s'=> ∃af H',Inv X pins af H' s'∧Q af H') X.xe s
def mS (X:Cx) (ts:List Expr) (t:hU):Prop:=
 ∀(pins:List (Addr×Obj)) (s:Shared) (σ:St) (H:Hp) (vs:List V) (us:List Value) (Q:St→Hp→Prop),Inv X pins σ H s→Vals vs us→t vs σ H Q→
  wpAny (model X.prog X.w) X.A (assignInOrder ((assignEach ts X.env).map (·.2)) us) (fun _ s'=> ∃af H',Inv X pins af H' s'∧Q af H') X.xe s
abbrev vm:=V→V→V→Hp→(Hp→Prop)→Prop
def zI (X:Cx) (t:vm):Prop:=
 ∀(pins:List (Addr×Obj)) (s:Shared) (σ:St) (H:Hp) (o i v:V) (ov iv u:Value) (Q:Hp→Prop),Inv X pins σ H s→RelV o ov→RelV i iv→RelV v u→t o i v H Q→
  wpAny (model X.prog X.w) X.A (setItem ov iv u) (fun _ s'=> ∃H',Inv X pins σ H' s'∧Q H') X.xe s
section
variable {X:Cx}{pos:Pos}
def iJ (i:Nat):TG:=fun v σ H Q=>Q (σ.set i (some v)) H
theorem ZK {i:Nat}{x:Str}(hN:X.N.Nodup) (hi:X.N[i]? =some x) (hx:Loc X.env.scope x) (hf:X.fn x=true∨X.env.scope.names.lookup x=some .local:=by first |exact .inl rfl |exact .inr rfl |assumption):PG X (.Name x pos) (iJ i):=by
 intro pins s σ H v u Q I r h
 exact wpAny_assign_Name (ZU I hN hi hx r (fun s' I'=> ⟨_,H,I',h⟩) hf)
def ET:hU:=fun vs σ H Q=>vs=[]∧Q σ H
def EU (t:TG) (u:hU):hU:=fun vs σ H Q=> ∃v r,vs=v::r∧t v σ H fun af H'=>u r af H' Q
theorem YJ:mS X [] ET:=by
 intro pins s σ H vs us Q I r h
 obtain⟨e,h⟩:=h
 subst e
 cases r
 exact assignInOrder_nil ⟨σ,H,I,h⟩
theorem ZT {e:Expr}{es:List Expr}{t:TG}{u:hU}(h1:PG X e t) (h2:mS X es u)
  (hs:(assignEach (e::es) X.env).map (·.2)=assign e X.env::(assignEach es X.env).map (·.2):=by rfl):mS X (e::es) (EU t u):=by
 intro pins s σ H vs us Q I r h
 obtain⟨v,vr,e1,h⟩:=h
 subst e1
 cases r with
 |cons r rr=>
  rw[hs]
  refine assignInOrder_cons (ao (h1 pins s σ H _ _ _ I r h) fun _ s1 ⟨kF,H1,I1,q1⟩=> ?_)
  exact h2 pins s1 kF H1 _ _ Q I1 rr q1
def EN (K:PySem.W.Frag) (n:Nat) (t:hU):TG:=fun v σ H Q=> ∃a xs,v=.ref a∧au K H a xs∧xs.length=n∧t xs σ H Q
theorem Uu {es:List Expr}{k:Nat}{t:hU}{n:Nat}(hc:X.calm=true) (h:mS X es t)
  (hn:(assignEach es X.env).length=n:=by rfl) (dA:(assignEach es X.env).findIdx? (·.1)=none:=by rfl):PG X (.Tuple es k pos) (EN X.K n t):=by
 intro pins s σ H v u Q I r hw
 obtain⟨a,xs,e1,hq,hl,hw⟩:=hw
 subst e1
 cases r
 obtain⟨aa,rv,ht,hz⟩:=I.tuple hq
 refine F7 (I.cw hc) ht (by simp[hn,←hl,rv.length]) dA fun h' hx=> ?_
 have I1:Inv X pins σ H {s with heap:=h'} :=I.kept (t':=s.toks) fun b o e=>hx b o (Nat.ne_of_lt (Heap.lt_size e)) e
 exact h pins _ σ H xs _ Q I1 (by simpa using rv) hw
def EO (to ti:TE) (t:vm):TG:=fun v σ H Q=>to σ H fun o H1=>ti σ H1 fun i H2=>t o i v H2 fun H3=>Q σ H3
theorem zr {o i:Expr}{to ti:TE}{t:vm}(ho:PE X o to) (hi:PE X i ti) (hs:zI X t)
    (ha:∀v,assign (.Subscript o i pos) X.env v=(do
      let ov ←holding [v] (eval o X.env)
      let iv ←holding [v,ov] (eval i X.env)
      standAt pos
      holding [v,ov,iv] (setItem ov iv v)
      release [v,ov,iv] []):=by intro _;rfl):PG X (.Subscript o i pos) (EO to ti t):=by
  intro pins s σ H v u Q I r h
  rw[ha]
  refine wpAny_bind (wpAny_holding (ao (ho pins s σ H _ I h) fun ov s1 ⟨x,H1,I1,r1,q1⟩=> ?_))
  refine wpAny_bind (wpAny_holding (ao (hi pins s1 σ H1 _ I1 q1) fun iv s2 ⟨y,H2,I2,r2,q2⟩=> ?_))
  refine wpAny_bind (wpAny_standAt (wpAny_bind (wpAny_holding (ao (hs pins s2 σ H2 x y v ov iv u _ I2 r1 r2 r q2) fun _ s3 ⟨H3,I3,q3⟩=> ?_))))
  exact wpAny_release ⟨σ,H3,I3,q3⟩
def kK (te:TE) (g:TG):TS:=fun D σ H=>te σ H fun x H1=>g x σ H1 D.nx
theorem Yq {tg e:Expr}{te:TE}{g:TG}(he:PE X e te) (hg:PG X tg g) (hs:swapsWithSole [tg] e pos.line X.env=pure false:=by rfl) (hw:swappedStores [tg] e X.env=pure none:=by rfl)
  (h1:(assignEach [tg] X.env).map (·.2)=[assign tg X.env]:=by rfl):PS X (.Assign [tg] e pos) (kK te g):=by
 intro pins s σ H D I h
 refine wpAny_Assign_stores (ao (he pins s σ H _ I h) fun v s1 ⟨x,H1,I1,r1,q1⟩=> ?_) hs hw
 rw[h1]
 exact ao (hg pins s1 σ H1 x v _ I1 r1 q1) fun _ s2 q=>q
theorem Zx {i:Nat}{x:Str}{e:Expr}{te:TE}{pos':Pos}(hN:X.N.Nodup) (hi:X.N[i]? =some x) (hx:Loc X.env.scope x) (he:PE X e te) (hs:swapsWith e (some (.Name x pos')) pos.line X.env=pure false:=by rfl) (hf:X.fn x=true∨X.env.scope.names.lookup x=some .local:=by first |exact .inl rfl |exact .inr rfl |assumption):
  PS X (.Assign [.Name x pos'] e pos) (kK te (iJ i)):=by
 intro pins s σ H D I h
 refine wpAny_Assign_Name (ao (he pins s σ H _ I h) fun v s1 ⟨y,H1,I1,r1,q1⟩=> ?_) hs
 exact ZU I1 hN hi hx r1 (fun s2 I2=> ⟨_,H1,I2,q1⟩) hf
def AA (i j:Nat) (ta:TA):TS:=fun D σ H=>ta σ H fun vs H1=> ∃v w,vs=[v,w]∧D.nx ((σ.set i (some v)).set j (some w)) H1
theorem zt {i j:Nat}{x y:Str}{a b:Expr}{ta:TA}{px py pt:Pos}{kt k2 iY} (hc:X.calm=true) (hN:X.N.Nodup) (hi:X.N[i]? =some x) (hj:X.N[j]? =some y) (DM:i≠j)
  (hx:X.env.scope.names.lookup x=some .local) (hy:X.env.scope.names.lookup y=some .local) (ha:PA X [a,b] ta)
  (hw:swappedStores [.Tuple [.Name x px,.Name y py] kt pt] (.Tuple [a,b] k2 iY) X.env=pure (some [x,y]))
  (hs:swapsWithSole [.Tuple [.Name x px,.Name y py] kt pt] (.Tuple [a,b] k2 iY) pos.line X.env=pure false:=by rfl):
  PS X (.Assign [.Tuple [.Name x px,.Name y py] kt pt] (.Tuple [a,b] k2 iY) pos) (AA i j ta):=by
 intro pins s σ H D I h
 rw[exec_Assign_arm]
 refine wpAny_bind (wpAny_standAt ?_)
 rw[hs]
 refine wpAny_bind (wpAny_pure ?_)
 rw[if_neg (by decide)]
 refine wpAny_bind (Tuple_ (ao (ha _ pins s σ H _ I h) fun us s1 ⟨vs,H1,I1,r1,q1⟩=> ?_))
 obtain⟨v,w,e1,q1⟩:=q1
 subst e1
 obtain⟨u1,u2,rfl,rv,eO⟩:∃u1 u2,us=[u1,u2]∧RelV v u1∧RelV w u2:=by
  cases r1 with
  |cons p q=>
   cases q with
   |cons p' q'=>
    cases q'
    exact⟨_,_,rfl,p,p'⟩
 refine wpAny_newObj_type ?_ (by show 2≤sizeLine;decide)
 have I2:Inv X pins σ H1 {s1 with heap:=s1.heap.push {cls:=.type "tuple",data:=.seq [u1,u2].toArray} } :=I1.kept (t':=s1.toks) fun b o e=>Heap.get?_push_of_some _ e
 rw[hw]
 refine wpAny_bind (wpAny_pure ?_)
 show wpAny (model X.prog X.w) X.A (do rule "assign.swapped-stores";let items ←unpackItems (.ref s1.heap.objs.size) 2 none;assignInOrder [fun v=>bindName X.env y v,fun v=>bindName X.env x v] items.reverse;pure Flow.next) _ _ _
 refine wpAny_bind (wpAny_rule (wpAny_bind (qq (items:= #[u1,u2]) ((I1.cw hc).keeps fun b o q=>Heap.get?_push_of_some _ q) (IsTup.new s1.heap _) fun h' tf=> ?_)))
 have I3:=I2.kept (h':=h') (t':=s1.toks) fun b o e=>tf b o (Nat.ne_of_lt (Heap.lt_size e)) e
 show wpAny _ _ (assignInOrder [fun v=>bindName X.env y v,fun v=>bindName X.env x v] [u2,u1] >>=fun _=>pure Flow.next) _ _ _
 refine wpAny_bind (assignInOrder_cons (wpAny_bindName (ZU I3 hN hj (.inl hy) eO (fun s2 I4=> ?_) (.inr hy))))
 refine assignInOrder_cons (wpAny_bindName (ZU I4 hN hi (.inl hx) rv (fun s3 I5=>assignInOrder_nil (wpAny_pure ?_)) (.inr hx)))
 rw[List.set_comm _ _ (Ne.symm DM)]at I5
 exact⟨_,H1,I5,q1⟩
end
structure It where
 go:Nat→Hp→Prop
 jL:Nat→Hp→V→Hp→Prop
 stop:Nat→Hp→Prop
def aT (X:Cx) (pins:List (Addr×Obj)) (H:Hp) (b:Addr):Prop:=
 H b=none∧b≠X.env.locals∧b∉X.fs∧(b∈X.ex∨X.bC.heap.objs.size≤b)∧(∀x c,X.env.cells.lookup x=some c→c≠b)∧∀p∈X.pn++pins,p.1≠b
theorem Inv.mw {X:Cx}{pins:List (Addr×Obj)}{σ:St}{H H':Hp}{s:Shared}{b:Addr}(I:Inv X pins σ H s) (hb:s.heap.objs.size≤b) (hn:H' b=none):aT X pins H' b:=by
 refine⟨hn,Nat.ne_of_gt (Nat.lt_of_lt_of_le I.lt hb),I.Cd hb,.inr (Nat.le_trans I.sz hb),fun x c e z=> ?_,fun p hp z=> ?_⟩
 ·obtain⟨v,q⟩:=I.cell x c e
  exact absurd (Nat.lt_of_lt_of_le q.lt (by rw[z];exact hb)) (Nat.lt_irrefl _)
 ·exact absurd (Nat.lt_of_lt_of_le (Heap.lt_size (I.pin p hp).1) (by rw[z];exact hb)) (Nat.lt_irrefl _)
structure Turn (P:Program) (w:World) (K:PySem.W.Frag) (tg:Expr) (J:It) (fp:List Addr) (it:Addr) (tn:Nat→Heap→Prop):Prop where
 mem:it∈fp
 obj:∀i h,tn i h→∀b∈fp,∃o,h.get? b=some o∧∀v,o.data≠.cell v
 keep:∀i h h',tn i h→(∀b∈fp,∀o,h.get? b=some o→h'.get? b=some o)→tn i h'
 item:∀(X:Cx),X.prog=P→X.w=w→X.K=K→X.calm=true→∀(i:Nat) (pins:List (Addr×Obj)) (s:Shared) (σ:St) (H:Hp) (E:Value→Shared→Prop),Inv X pins σ H s→(∀b∈fp,aT X pins H b)→tn i s.heap→J.go i H→
  wpAny (model P w) X.A (pyNext (.ref it)) (fun r s1=> ∃u,r=some u∧
   wpAny (model P w) X.A (letOwnedTupleGo tg (.ref it) u) (fun _ s2=> ∃x H',Inv X pins σ H' s2∧RelV x u∧J.jL i H x H'∧tn (i+1) s2.heap∧∀b∈fp,H' b=none) E s1) E s
 done:∀(X:Cx),X.prog=P→X.w=w→X.K=K→X.calm=true→∀(i:Nat) (pins:List (Addr×Obj)) (s:Shared) (σ:St) (H:Hp) (E:Value→Shared→Prop),Inv X pins σ H s→(∀b∈fp,aT X pins H b)→tn i s.heap→J.stop i H→
  wpAny (model P w) X.A (pyNext (.ref it)) (fun r s1=>r=none∧Inv X pins σ H s1) E s
 self:∀(A:Around) (i:Nat) (s:Shared) (Q:Value→Shared→Prop) (E:Value→Shared→Prop),tn i s.heap→Q (.ref it) s→wpAny (model P w) A (pyIter (.ref it)) Q E s
abbrev TI:=St→Hp→(It→Hp→Prop)→Prop
def zJ (X:Cx) (pins:List (Addr×Obj)) (σ:St) (tg:Expr) (R:It→Hp→Prop) (gX:Value) (s2:Shared):Prop:=
 ∃(it:Addr) (fp:List Addr) (tn:Nat→Heap→Prop) (J:It) (H':Hp),gX=.ref it∧Inv X pins σ H' s2∧Turn X.prog X.w X.K tg J fp it tn∧tn 0 s2.heap∧(∀b∈fp,aT X pins H' b)∧R J H'
def PI (X:Cx) (tg iter:Expr) (wi:TI):Prop:=
 ∀(pins:List (Addr×Obj)) (s:Shared) (σ:St) (H:Hp) (R:It→Hp→Prop),Inv X pins σ H s→wi σ H R→
  wpAny (model X.prog X.w) X.A (eval iter X.env) (fun v s1=>wpAny (model X.prog X.w) X.A (pyIter v) (zJ X pins σ tg R) X.xe s1) X.xe s
theorem u7 {M:Model}{A:Around}{E:Value→Shared→Prop}{s:Shared}{tg:Expr}{it:Addr}{u:Value}{o:Obj}{n:String}{vs:Array Value}{Q:Unit→Shared→Prop}(ho:s.heap.get? it=some o) (hc:o.cls=.type n) (hd:o.data=.fields vs)
    (hn:["enumerate", "zip", "dict_itemiterator", "dict_reverseitemiterator", "odict_iterator", "itertools.zip_longest", "itertools.pairwise"].contains n=false) (hQ:Q () s):wpAny M A (letOwnedTupleGo tg (.ref it) u) Q E s:=by
  unfold letOwnedTupleGo
  cases tg<;>first
    |exact wpAny_pure hQ
    |(cases u<;>first
        |exact wpAny_pure hQ
        |(refine wpAny_bind (wpAny_load ho ?_)
          rw[hc,hd]
          show wpAny M A (if (["enumerate", "zip", "dict_itemiterator", "dict_reverseitemiterator", "odict_iterator", "itertools.zip_longest", "itertools.pairwise"].contains n&&vs[0]? ==some (rawInt _))=true then _ else _) Q E s
          rw[if_neg (by intro h;rw[hn,Bool.false_and]at h;cases h)]
          exact wpAny_pure hQ))
def iQ (K:PySem.W.Frag) (a:Addr):It:=
 ⟨fun i H=> ∃xs x,ak K H a xs∧xs[i]? =some x,fun i H x H'=>H'=H∧∀xs,ak K H a xs→xs[i]? =some x,fun i H=> ∃xs,ak K H a xs∧xs.length≤i⟩
def kB (K:PySem.W.Frag) (a:Addr):It:=
 ⟨fun i H=> ∃xs x,au K H a xs∧xs[i]? =some x,fun i H x H'=>H'=H∧∀xs,au K H a xs→xs[i]? =some x,fun i H=> ∃xs,au K H a xs∧xs.length≤i⟩
def jF (lo:Int) (n:Nat):It:=⟨fun i _=>i<n,fun i H x H'=>H'=H∧x=.int (lo+i),fun i _=>n≤i⟩
theorem Kh {P:Program}{w:World}{K:PySem.W.Frag}{tg:Expr}(a it:Addr):Turn P w K tg (iQ K a) [it] it (fun i h=>h.IsListIter it a i) where
 mem:=by simp
 obj:=fun i h st b hb=>by
  have e:b=it:=by simpa using hb
  subst e
  obtain⟨o,e,c,d⟩:=st
  exact⟨o,e,fun v z=>by rw[d]at z;cases z⟩
 keep:=fun i h h' st k=>st.at fun o e=>k it (by simp) o e
 item:=by
  intro X hP hw hK hc i pins s σ H E I hf st hg
  subst hP hw hK
  obtain⟨xs,x,hq,hx⟩:=hg
  obtain⟨aa,rv,p,hz⟩:=I.list hq
  obtain⟨u,hu,ru⟩:=rv.get hx
  obtain⟨f0,f1,f2,f3,f4,f5⟩:=hf it (by simp)
  refine wpAny_pyNext_list_item st p.isList (x:=u) (by simpa using hu) fun h' fo sb=> ?_
  have I1:Inv X pins σ H {s with heap:=h'} :=I.turned (t':=s.toks) (fun b o hb e=> (sb.2 b hb).trans e) f0 f1 f3 f4 f5
  obtain⟨o,e,c,d⟩:=id fo
  exact⟨u,rfl,u7 (s:= {s with heap:=h'}) e c d (by decide) ⟨x,H,I1,ru,⟨rfl,fun ys hy=>by rw[I.CB hy hq];exact hx⟩,fo,fun b hb=> (hf b hb).1⟩⟩
 done:=by
  intro X hP hw hK hc i pins s σ H E I hf st hg
  subst hP hw hK
  obtain⟨xs,hq,hx⟩:=hg
  obtain⟨aa,rv,p,hz⟩:=I.list hq
  obtain⟨f0,f1,f2,f3,f4,f5⟩:=hf it (by simp)
  have hl:=rv.length
  exact YO (I.cw hc) st p.isList (by simp;omega) fun h' eb=> ⟨rfl,I.turned (t':=s.toks) (fun b o hb e=>eb b o hb e) f0 f1 f3 f4 f5⟩
 self:=fun _ _ _ _ _ st h=>wpAny_pyIter_listiter st h
theorem Uh {P:Program}{w:World}{K:PySem.W.Frag}{tg:Expr}(a it:Addr):Turn P w K tg (kB K a) [it] it (fun i h=>h.IsTupleIter it a i) where
 mem:=by simp
 obj:=fun i h st b hb=>by
  have e:b=it:=by simpa using hb
  subst e
  obtain⟨o,e,c,d⟩:=st
  exact⟨o,e,fun v z=>by rw[d]at z;cases z⟩
 keep:=fun i h h' st k=>st.at fun o e=>k it (by simp) o e
 item:=by
  intro X hP hw hK hc i pins s σ H E I hf st hg
  subst hP hw hK
  obtain⟨xs,x,hq,hx⟩:=hg
  obtain⟨aa,rv,p,hz⟩:=I.tuple hq
  obtain⟨u,hu,ru⟩:=rv.get hx
  obtain⟨f0,f1,f2,f3,f4,f5⟩:=hf it (by simp)
  refine wpAny_pyNext_tuple_item st (show s.heap.IsTuple a aa.toArray from p) (x:=u) (by simpa using hu) fun h' fo sb=> ?_
  have I1:Inv X pins σ H {s with heap:=h'} :=I.turned (t':=s.toks) (fun b o hb e=> (sb.2 b hb).trans e) f0 f1 f3 f4 f5
  obtain⟨o,e,c,d⟩:=id fo
  exact⟨u,rfl,u7 (s:= {s with heap:=h'}) e c d (by decide) ⟨x,H,I1,ru,⟨rfl,fun ys hy=>by rw[I.Ak hy hq];exact hx⟩,fo,fun b hb=> (hf b hb).1⟩⟩
 done:=by
  intro X hP hw hK hc i pins s σ H E I hf st hg
  subst hP hw hK
  obtain⟨xs,hq,hx⟩:=hg
  obtain⟨aa,rv,p,hz⟩:=I.tuple hq
  obtain⟨f0,f1,f2,f3,f4,f5⟩:=hf it (by simp)
  have hl:=rv.length
  exact UM (I.cw hc) st (show s.heap.IsTuple a aa.toArray from p) (by simp;omega) fun h' eb=> ⟨rfl,I.turned (t':=s.toks) (fun b o hb e=>eb b o hb e) f0 f1 f3 f4 f5⟩
 self:=fun _ _ _ _ _ st h=>wpAny_pyIter_tupleiter st h
theorem Ui {P:Program}{w:World}{K:PySem.W.Frag}{tg:Expr}(it:Addr) (lo:Int) (n:Nat):Turn P w K tg (jF lo n) [it] it (fun i h=>IsRangeIter h it (lo+(i:Nat)*1) ((n:Int) - (i:Nat)) 1) where
 mem:=by simp
 obj:=fun i h st b hb=>by
  have e:b=it:=by simpa using hb
  subst e
  exact⟨_,st,fun v z=>by
   have z':Data.fields _=Data.cell v:=z
   cases z'⟩
 keep:=fun i h h' st k=>k it (by simp) _ st
 item:=by
  intro X hP hw hK hc i pins s σ H E I hf st hg
  subst hP hw hK
  obtain⟨f0,f1,f2,f3,f4,f5⟩:=hf it (by simp)
  have hg:i<n:=hg
  refine wpAny_pyNext_range_item st (by omega) fun h' fo sb=> ?_
  have fo:IsRangeIter h' it (lo+((i+1:Nat):Int)*1) ((n:Int) - ((i+1:Nat):Int)) 1:=by
   rw[show lo+((i+1:Nat):Int)*1=lo+(i:Int)*1+1 by omega,show(n:Int) - ((i+1:Nat):Int)=(n:Int) - (i:Int) - 1 by omega]
   exact fo
  have I1:Inv X pins σ H {s with heap:=h',toks:=s.toks+1} :=I.turned (fun b o hb e=>sb.extBut b o (by simpa using hb) e) f0 f1 f3 f4 f5
  refine⟨_,rfl,u7 (s:= {s with heap:=h',toks:=s.toks+1}) (n:= "range_iterator") fo rfl rfl (by decide) ⟨.int (lo+i),H,I1,⟨s.toks,?_⟩,⟨rfl,rfl⟩,fo,fun b hb=> (hf b hb).1⟩⟩
  rw[Int.mul_one]
 done:=by
  intro X hP hw hK hc i pins s σ H E I hf st hg
  subst hP hw hK
  obtain⟨f0,f1,f2,f3,f4,f5⟩:=hf it (by simp)
  exact HA (I.cw hc) st (by have:n≤i:=hg;omega) fun h' eb=> ⟨rfl,I.turned (t':=s.toks) (fun b o hb e=>eb b o hb e) f0 f1 f3 f4 f5⟩
 self:=fun _ _ _ _ _ st h=>wpAny_pyIter_rangeiter st h
section
variable {X:Cx}{tg:Expr}
def CQ (K:PySem.W.Frag) (tl:TE):TI:=fun σ H R=>tl σ H fun x H1=> ∃a,x=.ref a∧(∃xs,ak K H1 a xs)∧R (iQ K a) H1
def CO (K:PySem.W.Frag) (tl:TE):TI:=fun σ H R=>tl σ H fun x H1=> ∃a,x=.ref a∧(∃xs,au K H1 a xs)∧R (kB K a) H1
theorem Z7 {l:Expr}{tl:TE}(hl:PE X l tl):PI X tg l (CQ X.K tl):=by
 intro pins s σ H R I h
 refine ao (hl pins s σ H _ I h) fun v s1 ⟨x,H1,I1,r1,q1⟩=> ?_
 obtain⟨a,e,⟨xs,hq⟩,q⟩:=q1
 subst e
 cases r1
 obtain⟨aa,rv,p,hz⟩:=I1.list hq
 refine wpAny_pyIter_list p.isList ?_
 refine⟨s1.heap.objs.size,[s1.heap.objs.size],_,_,H1,rfl,I1.kept (t':=s1.toks) fun b o e=>Heap.get?_push_of_some _ e,Kh a _,⟨_,Heap.get?_push_size _ rfl,rfl,rfl⟩,fun b hb=> ?_,q⟩
 have e:b=s1.heap.objs.size:=by simpa using hb
 subst e
 exact I1.mw (Nat.le_refl _) (I1.ah.fresh (Nat.le_refl _))
theorem Jq {l:Expr}{tl:TE}(hl:PE X l tl):PI X tg l (CO X.K tl):=by
 intro pins s σ H R I h
 refine ao (hl pins s σ H _ I h) fun v s1 ⟨x,H1,I1,r1,q1⟩=> ?_
 obtain⟨a,e,⟨xs,hq⟩,q⟩:=q1
 subst e
 cases r1
 obtain⟨aa,rv,p,hz⟩:=I1.tuple hq
 refine wpAny_pyIter_tuple (show s1.heap.IsTuple a aa.toArray from p) ?_
 refine⟨s1.heap.objs.size,[s1.heap.objs.size],_,_,H1,rfl,I1.kept (t':=s1.toks) fun b o e=>Heap.get?_push_of_some _ e,Uh a _,⟨_,Heap.get?_push_size _ rfl,rfl,rfl⟩,fun b hb=> ?_,q⟩
 have e:b=s1.heap.objs.size:=by simpa using hb
 subst e
 exact I1.mw (Nat.le_refl _) (I1.ah.fresh (Nat.le_refl _))
theorem Ku {pins:List (Addr×Obj)}{σ:St}{H:Hp}{s:Shared}{R:It→Hp→Prop}{E:Value→Shared→Prop}{lo hi:Int}{t u v:Tok}{tk:Nat}(I:Inv X pins σ H s) (h1: -(2^62)≤lo) (h2:lo<2^62) (h3: -(2^62)≤hi) (h4:hi<2^62)
  (q:R (jF lo (hi - lo).toNat) H):wpAny (model X.prog X.w) X.A (pyIter (.ref s.heap.objs.size)) (zJ X pins σ tg R) E {s with heap:=s.heap.push {cls:=.type "range",data:=.fields #[.int lo t,.int hi u,.int 1 v]},toks:=tk} :=by
 refine wpAny_pyIter_range (IsRange.new ..) (small_one h1 h2 h3 h4) ?_
 have I1:Inv X pins σ H {s with heap:=s.heap.push {cls:=.type "range",data:=.fields #[.int lo t,.int hi u,.int 1 v]},toks:=tk} :=I.kept fun b o e=>Heap.get?_push_of_some _ e
 refine⟨(s.heap.push {cls:=.type "range",data:=.fields #[.int lo t,.int hi u,.int 1 v]}).objs.size,[(s.heap.push {cls:=.type "range",data:=.fields #[.int lo t,.int hi u,.int 1 v]}).objs.size],_,_,H,rfl,
  I1.kept (t':=tk) fun b o e=>Heap.get?_push_of_some _ e,Ui _ lo (hi - lo).toNat,?_,fun b hb=> ?_,q⟩
 ·have e1:lo+((0:Nat):Int)*1=lo:=by simp
  have e2:(((hi - lo).toNat:Nat):Int) - ((0:Nat):Int)=Builtin.Range.rangeSize lo hi 1:=by rw[rangeSize_one];split<;>omega
  show IsRangeIter _ _ (lo+((0:Nat):Int)*1) ((((hi - lo).toNat:Nat):Int) - ((0:Nat):Int)) 1
  rw[e1,e2]
  exact Heap.get?_push_size _ rfl
 ·have e:b=(s.heap.push {cls:=.type "range",data:=.fields #[.int lo t,.int hi u,.int 1 v]}).objs.size:=by simpa using hb
  subst e
  exact I1.mw (Nat.le_refl _) (I1.ah.fresh (Nat.le_refl _))
def CP (ta:TA):TI:=fun σ H R=>ta σ H fun vs H1=> ∃j:Int,vs=[.int j]∧ -(2^62)≤j∧j<2^62∧R (jF 0 j.toNat) H1
theorem Z3 {a:Expr}{ta:TA}{p pos:Pos}(hg:Gl X "range") (hm:X.mg "range" =none) (ha:PA X [a] ta) (hs:starEach [a] X.env=[(false,eval a X.env)]:=by rfl):PI X tg (.Call (.Name "range" p) [a] [] pos) (CP ta):=by
 intro pins s σ H R I h
 refine Call_ (JA I hg hm boot_range (PyProof.Rows.callWith_type1 (ao (ha pos pins s σ H _ I h) fun us s1 ⟨vs,H1,I1,r1,q1⟩=> ?_) hs rfl))
 obtain⟨j,e,q1,q2,q⟩:=q1
 subst e
 cases r1 with
 |cons r rr=>
  cases rr
  obtain⟨t,rfl⟩:=r
  exact call_range_1 (Ku I1 (by omega) (by omega) q1 q2 (by simpa using q))
def AR (wi:TI) (g:TG) (tb:TS):TS:=fun D σ H=>wi σ H fun J H1=> ∃W:Nat→Nat→St→Hp→Prop,(∃m,W 0 m σ H1)∧∀i m σ H,W i m σ H→
 (J.stop i H∧D.nx σ H)∨(J.go i H∧∃N:St→Hp→Prop,(∀af H',N af H'→∃m',m'<m∧W (i+1) m' af H')∧∀x H',J.jL i H x H'→g x σ H' fun bf H2=>tb {D with nx:=N,ct:=N,bk:=D.nx} bf H2)
def ee (fp:List Addr) (h:Heap):List (Addr×Obj):=fp.filterMap fun b=> (h.get? b).map fun o=> (b,o)
theorem ZC {fp:List Addr}{h:Heap}{b:Addr}{o:Obj}(hb:b∈fp) (e:h.get? b=some o):(b,o)∈ee fp h:=List.mem_filterMap.mpr ⟨b,hb,by rw[e];rfl⟩
theorem Yg {fp:List Addr}{h:Heap}{p:Addr×Obj}(hp:p∈ee fp h):p.1∈fp∧h.get? p.1=some p.2:=by
 obtain⟨b,hb,e⟩:=List.mem_filterMap.mp hp
 cases q:h.get? b with
 |none=>rw[q]at e;cases e
 |some o=>
  rw[q]at e
  have e':(b,o)=p:=Option.some.inj e
  subst e'
  exact⟨hb,q⟩
theorem Inv.pinned {pins:List (Addr×Obj)}{σ:St}{H:Hp}{s:Shared}{fp:List Addr}(I:Inv X pins σ H s) (hf:∀b∈fp,aT X pins H b) (ho:∀b∈fp,∃o,s.heap.get? b=some o∧∀v,o.data≠.cell v):Inv X (pins++ee fp s.heap) σ H s:=
 I.wZ fun p hp=> (List.mem_append.mp hp).elim (fun z=>I.pin p (List.mem_append_right _ z)) fun z=>by
  obtain⟨hb,e⟩:=Yg z
  obtain⟨f0,f1,f2,_⟩:=hf p.1 hb
  obtain⟨o,e',d⟩:=ho p.1 hb
  rw[e]at e';cases e'
  exact⟨e,f0,f1,f2,d⟩
theorem Inv.dI {pins pl:List (Addr×Obj)}{σ:St}{H:Hp}{s:Shared}(I:Inv X (pins++pl) σ H s):Inv X pins σ H s:=I.wZ fun p hp=>I.pin p (List.mem_append_right _ (List.mem_append_left _ hp))
theorem Wo {iter:Expr}{body:List Stmt}{wi:TI}{g:TG}{tb:TS}{pos:Pos}(hp:PassesOwn (model X.prog X.w) X.A X.env X.xe) (hc:X.calm=true) (hi:PI X tg iter wi) (hg:PG X tg g) (hb:cK X body tb)
  (hs:∀x,foldedSetIterable iter X.env x=pure x:=by intro _;rfl):PS X (.For tg iter body [] pos) (AR wi g tb):=by
 intro pins s σ H D I h
 refine wpAny_For (ao (hi pins s σ H _ I h) fun v s1 h1=>ao h1 fun gX s2 h2=> ?_) hs
 obtain⟨it,fp,tn,J,H2,e,I2,T,bH,f2,W,⟨m0,w0⟩,turn⟩:=h2
 subst e
 have stat:∀{H':Hp},(∀b∈fp,H' b=none)→∀b∈fp,aT X pins H' b:=fun hn b hb=> ⟨hn b hb,(f2 b hb).2⟩
 refine codeAny_forLoop_any (fun n s'=> ∃i af H',Inv X pins af H' s'∧tn i s'.heap∧(∀b∈fp,H' b=none)∧W i n af H') ?_ m0 ⟨0,σ,H2,I2,bH,fun b hb=> (f2 b hb).1,w0⟩
 rintro n s3 ⟨i,cZ,H3,I3,cu,iK,w3⟩
 rcases turn i n cZ H3 w3 with ⟨stop,qn⟩ |⟨go,N,hN,step⟩
 ·refine wpAny_passesOwn hp (ao (T.done X rfl rfl rfl hc i pins s3 cZ H3 X.xe I3 (stat iK) cu stop) fun r s4 ⟨hr,I4⟩=> ?_)
  subst hr
  exact wpAny_execs_nil ⟨cZ,H3,I4,qn⟩
 ·refine wpAny_passesOwn hp (ao (T.item X rfl rfl rfl hc i pins s3 cZ H3 X.xe I3 (stat iK) cu go) fun r s4 ⟨u,hr,h4⟩=> ?_)
  subst hr
  refine wpAny_passesOwn hp (ao h4 fun _ s5 ⟨x,H5,I5,r5,y5,fQ,mn⟩=> ?_)
  have ng:=I5.pinned (stat mn) (T.obj _ _ fQ)
  refine wpAny_passesOwn hp (ao (hg _ s5 cZ H5 x u _ ng r5 (step x H5 y5)) fun _ s6 ⟨gI,H6,I6,q6⟩=> ?_)
  refine wpAny_passesOwn hp (ao (hb _ s6 gI H6 _ I6 q6) fun f s7 q7=> ?_)
  have again:∀{bQ:St}{H7:Hp},Inv X (pins++ee fp s5.heap) bQ H7 s7→N bQ H7→∃m,m<n∧∃i af H',Inv X pins af H' s7∧tn i s7.heap∧(∀b∈fp,H' b=none)∧W i m af H':=fun {bQ H7} I7 n7=>by
   obtain⟨m',hm,w7⟩:=hN bQ H7 n7
   refine⟨m',hm,i+1,bQ,H7,I7.dI,T.keep _ _ _ fQ fun b hb o e=> (I7.pin (b,o) (List.mem_append_right _ (List.mem_append_right _ (ZC hb e)))).1,fun b hb=> ?_,w7⟩
   obtain⟨o,e,d⟩:=T.obj _ _ fQ b hb
   exact(I7.pin (b,o) (List.mem_append_right _ (List.mem_append_right _ (ZC hb e)))).2.1
  cases f with
  |next=>obtain⟨bQ,H7,I7,n7⟩:=q7;exact again I7 n7
  |cont=>obtain⟨bQ,H7,I7,n7⟩:=q7;exact again I7 n7
  |brk=>obtain⟨bQ,H7,I7,q7⟩:=q7;exact⟨bQ,H7,I7.dI,q7⟩
  |ret v=>obtain⟨x7,bQ,H7,I7,r7,q7⟩:=q7;exact⟨x7,bQ,H7,I7.dI,r7,q7⟩
end
theorem HN {K:PySem.W.Frag}{a:Addr}{xs:List V}{g:TG}{tb:TS}{D:Ends}{σ:St}{H:Hp}(Pv:Nat→St→Hp→Prop) (h0:Pv 0 σ H) (hl:∀i σ H,i≤xs.length→Pv i σ H→ak K H a xs)
  (hs:∀i x σ H,xs[i]? =some x→Pv i σ H→g x σ H fun bf H2=>tb {D with nx:=Pv (i+1),ct:=Pv (i+1),bk:=D.nx} bf H2) (hd:∀σ H,Pv xs.length σ H→D.nx σ H):
  ∃W:Nat→Nat→St→Hp→Prop,(∃m,W 0 m σ H)∧∀i m σ H,W i m σ H→
   ((iQ K a).stop i H∧D.nx σ H)∨((iQ K a).go i H∧∃N:St→Hp→Prop,(∀af H',N af H'→∃m',m'<m∧W (i+1) m' af H')∧∀x H',(iQ K a).jL i H x H'→g x σ H' fun bf H2=>tb {D with nx:=N,ct:=N,bk:=D.nx} bf H2):=by
 refine⟨fun i m σ H=>m=xs.length - i∧i≤xs.length∧Pv i σ H,⟨xs.length,by simp,Nat.zero_le _,h0⟩,?_⟩
 rintro i m σ H ⟨rfl,hi,p⟩
 have q:=hl i σ H hi p
 by_cases aJ:i<xs.length
 ·refine .inr ⟨⟨xs,xs[i],q,by simp[aJ]⟩,Pv (i+1),fun af H' p'=> ⟨xs.length - (i+1),by omega,rfl,aJ,p'⟩,fun x H' y=> ?_⟩
  obtain⟨e,y⟩:=y
  subst e
  exact hs i x σ _ (y xs q) p
 ·have e:i=xs.length:=by omega
  subst e
  exact .inl ⟨⟨xs,q,Nat.le_refl _⟩,hd σ H p⟩
theorem ID {K:PySem.W.Frag}{a:Addr}{xs:List V}{g:TG}{tb:TS}{D:Ends}{σ:St}{H:Hp}(Pv:Nat→St→Hp→Prop) (h0:Pv 0 σ H) (hl:∀i σ H,i≤xs.length→Pv i σ H→au K H a xs)
  (hs:∀i x σ H,xs[i]? =some x→Pv i σ H→g x σ H fun bf H2=>tb {D with nx:=Pv (i+1),ct:=Pv (i+1),bk:=D.nx} bf H2) (hd:∀σ H,Pv xs.length σ H→D.nx σ H):
  ∃W:Nat→Nat→St→Hp→Prop,(∃m,W 0 m σ H)∧∀i m σ H,W i m σ H→
   ((kB K a).stop i H∧D.nx σ H)∨((kB K a).go i H∧∃N:St→Hp→Prop,(∀af H',N af H'→∃m',m'<m∧W (i+1) m' af H')∧∀x H',(kB K a).jL i H x H'→g x σ H' fun bf H2=>tb {D with nx:=N,ct:=N,bk:=D.nx} bf H2):=by
 refine⟨fun i m σ H=>m=xs.length - i∧i≤xs.length∧Pv i σ H,⟨xs.length,by simp,Nat.zero_le _,h0⟩,?_⟩
 rintro i m σ H ⟨rfl,hi,p⟩
 have q:=hl i σ H hi p
 by_cases aJ:i<xs.length
 ·refine .inr ⟨⟨xs,xs[i],q,by simp[aJ]⟩,Pv (i+1),fun af H' p'=> ⟨xs.length - (i+1),by omega,rfl,aJ,p'⟩,fun x H' y=> ?_⟩
  obtain⟨e,y⟩:=y
  subst e
  exact hs i x σ _ (y xs q) p
 ·have e:i=xs.length:=by omega
  subst e
  exact .inl ⟨⟨xs,q,Nat.le_refl _⟩,hd σ H p⟩
theorem J5 {lo:Int}{n:Nat}{g:TG}{tb:TS}{D:Ends}{σ:St}{H:Hp}(Pv:Nat→St→Hp→Prop) (h0:Pv 0 σ H)
  (hs:∀i σ H,i<n→Pv i σ H→g (.int (lo+i)) σ H fun bf H2=>tb {D with nx:=Pv (i+1),ct:=Pv (i+1),bk:=D.nx} bf H2) (hd:∀σ H,Pv n σ H→D.nx σ H):
  ∃W:Nat→Nat→St→Hp→Prop,(∃m,W 0 m σ H)∧∀i m σ H,W i m σ H→
   ((jF lo n).stop i H∧D.nx σ H)∨((jF lo n).go i H∧∃N:St→Hp→Prop,(∀af H',N af H'→∃m',m'<m∧W (i+1) m' af H')∧∀x H',(jF lo n).jL i H x H'→g x σ H' fun bf H2=>tb {D with nx:=N,ct:=N,bk:=D.nx} bf H2):=by
 refine⟨fun i m σ H=>m=n - i∧i≤n∧Pv i σ H,⟨n,by simp,Nat.zero_le _,h0⟩,?_⟩
 rintro i m σ H ⟨rfl,hi,p⟩
 by_cases aJ:i<n
 ·refine .inr ⟨aJ,Pv (i+1),fun af H' p'=> ⟨n - (i+1),by omega,rfl,aJ,p'⟩,fun x H' y=> ?_⟩
  obtain⟨e,y⟩:=y
  subst e y
  exact hs i σ _ aJ p
 ·have e:i=n:=by omega
  subst e
  exact .inl ⟨Nat.le_refl _,hd σ H p⟩
abbrev R2:=V→V→Hp→VK→Prop
def aZ (X:Cx) (f:Value→Value→Sem Value) (r:R2):Prop:=
 ∀(pins:List (Addr×Obj)) (s:Shared) (σ:St) (H:Hp) (x y:V) (v u:Value) (Q:VK),Inv X pins σ H s→RelV x v→RelV y u→r x y H Q→
  wpAny (model X.prog X.w) X.A (f v u) (EP X pins σ Q) X.xe s
def vk (X:Cx) (f:Value→Sem Value) (r:V→Hp→VK→Prop):Prop:=
 ∀(pins:List (Addr×Obj)) (s:Shared) (σ:St) (H:Hp) (x:V) (v:Value) (Q:VK),Inv X pins σ H s→RelV x v→r x H Q→
  wpAny (model X.prog X.w) X.A (f v) (EP X pins σ Q) X.xe s
def eI (X:Cx) (f:Value) (r:List V→Hp→VK→Prop):Prop:=
 ∀(pins:List (Addr×Obj)) (s:Shared) (σ:St) (H:Hp) (xs:List V) (us:List Value) (Q:VK),Inv X pins σ H s→Vals xs us→r xs H Q→
  wpAny (model X.prog X.w) X.A (call f us) (EP X pins σ Q) X.xe s
def jN (r:R2) (ta tb:TE):TE:=fun σ H Q=>ta σ H fun x H1=>tb σ H1 fun y H2=>r x y H2 Q
def Aq (r:V→Hp→VK→Prop) (ta:TE):TE:=fun σ H Q=>ta σ H fun x H1=>r x H1 Q
def rI (C:Int→Int→Prop) (g:Int→Int→V):R2:=fun x y H Q=> ∃i j,x=.int i∧y=.int j∧C i j∧Q (g i j) H
def il (g:Int→Int→V):R2:=fun x y H Q=> ∃i j,x=.int i∧y=.int j∧Q (g i j) H
def rU (g:Int→V):V→Hp→VK→Prop:=fun x H Q=> ∃i,x=.int i∧Q (g i) H
section
variable {X:Cx}{a b c:Expr}{ta tb tc:TE}{pos:Pos}
theorem uW (ha:PE X a ta) (hb:PE X b tb) {pins:List (Addr×Obj)}{s:Shared}{σ:St}{H:Hp}{R:V→V→Hp→Prop}(I:Inv X pins σ H s)
  (h:ta σ H fun x H1=>tb σ H1 fun y H2=>R x y H2) {Q:Value→Shared→Prop}{f:Value→Value→Sem Value}
  (hf:∀v u s2 x y H2,Inv X pins σ H2 s2→RelV x v→RelV y u→R x y H2→wpAny (model X.prog X.w) X.A (f v u) Q X.xe s2):
  wpAny (model X.prog X.w) X.A (eval a X.env) (fun v av=>wpAny (model X.prog X.w) X.A (eval b X.env) (fun u cq=>wpAny (model X.prog X.w) X.A (f v u) Q X.xe cq) X.xe av) X.xe s:=by
 refine ao (ha pins s σ H _ I h) fun v s1 ⟨x,H1,I1,r1,q1⟩=> ?_
 refine ao (hb pins s1 σ H1 _ I1 q1) fun u s2 ⟨y,H2,I2,r2,q2⟩=> ?_
 exact hf v u s2 x y H2 I2 r1 r2 q2
theorem Zm {op:Operator}{r:R2}(ho:aZ X (binaryOp op) r) (ha:PE X a ta) (hb:PE X b tb):PE X (.BinOp a op b pos) (jN r ta tb):=by
 intro pins s σ H Q I h
 exact wpAny_BinOp (uW ha hb I h fun v u s2 x y H2 I2 rx ry q=>ho pins s2 σ H2 x y v u Q I2 rx ry q)
theorem u9 {op:UnaryOp}{r:V→Hp→VK→Prop}(ho:vk X (unaryOp op) r) (ha:PE X a ta):PE X (.UnaryOp op a pos) (Aq r ta):=by
 intro pins s σ H Q I h
 exact UnaryOp_ (ao (ha pins s σ H _ I h) fun v s1 ⟨x,H1,I1,r1,q1⟩=>ho pins s1 σ H1 x v Q I1 r1 q1)
theorem oB {f:Value→Value→Sem Value}{C:Int→Int→Prop}{g:Int→Int→Int}
  (rule:∀(i j:Int) (t u:Tok) (s:Shared) (Q:Value→Shared→Prop) (E:Value→Shared→Prop),C i j→Q (.int (g i j) s.toks) {s with toks:=s.toks+1}→wpAny (model X.prog X.w) X.A (f (.int i t) (.int j u)) Q E s):
  aZ X f (rI C fun i j=> .int (g i j)):=by
 intro pins s σ H x y v u Q I rx ry h
 obtain⟨i,j,rfl,rfl,hc,q⟩:=h
 obtain⟨t,rfl⟩:=rx
 obtain⟨t',rfl⟩:=ry
 exact rule i j t t' s _ _ hc ⟨.int (g i j),H,I.tok _,⟨_,rfl⟩,q⟩
theorem w6 {f:Value→Value→Sem Value}{g:Int→Int→Int}
  (rule:∀(i j:Int) (t u:Tok) (s:Shared) (Q:Value→Shared→Prop) (E:Value→Shared→Prop),Q (.int (g i j) s.toks) {s with toks:=s.toks+1}→wpAny (model X.prog X.w) X.A (f (.int i t) (.int j u)) Q E s):
  aZ X f (il fun i j=> .int (g i j)):=by
 intro pins s σ H x y v u Q I rx ry h
 obtain⟨i,j,rfl,rfl,q⟩:=h
 obtain⟨t,rfl⟩:=rx
 obtain⟨t',rfl⟩:=ry
 exact rule i j t t' s _ _ ⟨.int (g i j),H,I.tok _,⟨_,rfl⟩,q⟩
theorem oC {f:Value→Value→Sem Value}{g:Int→Int→Bool}
  (rule:∀(i j:Int) (t u:Tok) (s:Shared) (Q:Value→Shared→Prop) (E:Value→Shared→Prop),Q (.bool (g i j)) s→wpAny (model X.prog X.w) X.A (f (.int i t) (.int j u)) Q E s):
  aZ X f (il fun i j=> .bl (g i j)):=by
 intro pins s σ H x y v u Q I rx ry h
 obtain⟨i,j,rfl,rfl,q⟩:=h
 obtain⟨t,rfl⟩:=rx
 obtain⟨t',rfl⟩:=ry
 exact rule i j t t' s _ _ ⟨.bl (g i j),H,I,rfl,q⟩
def Lg (i j:Int):Prop:=0<j∧j<1073741824
def Lf (i j:Int):Prop:=0≤j∧j≤1000000∧i.natAbs<2^64
def vL (i j:Int):Prop:=(-(2^64)<i∧i<2^64)∨(-(2^64)<j∧j<2^64)
theorem vL.ok {i j:Int}(h:vL i j):IntMulOk i j:=by
 rcases h with ⟨h1,h2⟩ |⟨h1,h2⟩
 ·exact .of_left (intBits_le_64 h1 h2)
 ·exact .of_right (intBits_le_64 h1 h2)
theorem Yd:aZ X (binaryOp .Add) (il fun i j=> .int (i+j)):=w6 fun _ _ _ _ _ _ _ q=>add_int q
theorem Yr:aZ X (binaryOp .Sub) (il fun i j=> .int (i - j)):=w6 fun _ _ _ _ _ _ _ q=>sub_int q
theorem Ju:aZ X (binaryOp .Mult) (rI vL fun i j=> .int (i*j)):=oB fun _ _ _ _ _ _ _ hc q=>mul_int q hc.ok
theorem UT:aZ X (binaryOp .FloorDiv) (rI Lg fun i j=> .int (i/j)):=oB fun i j _ _ _ _ _ hc q=>by
 have h1:(0:Int)<j:=hc.1
 have h2:j<1073741824:=hc.2
 exact floordiv_int (by omega) (by rw[Int.fdiv_eq_ediv_of_nonneg i (by omega)];exact q) (.inl (PyProof.noPylong_small (by omega)))
theorem Yt:aZ X (binaryOp .Mod) (rI (fun _ j=>0<j) fun i j=> .int (i%j)):=oB fun i j _ _ _ _ _ hc q=>by
 have h1:(0:Int)<j:=hc
 exact mod_int' (by omega) (by rw[Int.fmod_eq_emod_of_nonneg i (by omega)];exact q)
theorem zq:aZ X (binaryOp .Pow) (rI Lf fun i j=> .int (i^j.toNat)):=oB fun _ _ _ _ _ _ _ hc q=>pow_int_small hc.1 hc.2.1 hc.2.2 q
theorem Ai {f:Value→Sem Value}{g:Int→Int}
  (rule:∀(i:Int) (t:Tok) (s:Shared) (Q:Value→Shared→Prop) (E:Value→Shared→Prop),Q (.int (g i) s.toks) {s with toks:=s.toks+1}→wpAny (model X.prog X.w) X.A (f (.int i t)) Q E s):
  vk X f (rU fun i=> .int (g i)):=by
 intro pins s σ H x v Q I rx h
 obtain⟨i,rfl,q⟩:=h
 obtain⟨t,rfl⟩:=rx
 exact rule i t s _ _ ⟨.int (g i),H,I.tok _,⟨_,rfl⟩,q⟩
theorem Ug:vk X (unaryOp .USub) (rU fun i=> .int (-i)):=Ai fun _ _ _ _ _ q=>neg_int q
end
def qW:V→V→Bool
 | .ae,.ae=>true | .ae,.int _=>true | .int _,.ae=>true | .ae,.bl _=>true | .bl _,.ae=>true | .ae,.str _=>true | .str _,.ae=>true
 | .int _,.int _=>true | .bl _,.bl _=>true | .str _,.str _=>true | .fi _,.fi _=>true
 | .int _,.str _=>true | .str _,.int _=>true | .bl _,.str _=>true | .str _,.bl _=>true
 |_,_=>false
def BW:R2:=fun x y H Q=>qW x y=true∧Q (.bl (decide (x=y))) H
def wM:R2:=fun x y H Q=>qW x y=true∧Q (.bl (!decide (x=y))) H
theorem U4 {i j:Int} :decide (V.int i=V.int j)=(i==j):=by
 rw[Bool.eq_iff_iff]
 simp
theorem zg {i j:Bool} :decide (V.bl i=V.bl j)=(i==j):=by
 rw[Bool.eq_iff_iff]
 simp
theorem U3 {i j:Str} :decide (V.str i=V.str j)=(i==j):=by
 rw[Bool.eq_iff_iff]
 simp
theorem U5 {i j:Array UInt8} :decide (V.fi i=V.fi j)=(i.toList==j.toList):=by
 rw[Bool.eq_iff_iff]
 cases i
 cases j
 simp
section
variable {X:Cx}{a b c:Expr}{ta tb tc:TE}{pos:Pos}
theorem ZB {pins:List (Addr×Obj)}{σ:St}{H:Hp}{s:Shared}{Q:VK}{k k':Bool}(I:Inv X pins σ H s) (q:Q (.bl k) H) (e:k=k'):EP X pins σ Q (.bool k') s:=by
 subst e
 exact⟨.bl k,H,I,rfl,q⟩
theorem WN:aZ X (compareOp .Eq) BW:=by
 intro pins s σ H x y v u Q I rx ry h
 obtain⟨hs,q⟩:=h
 cases x with
 |ae=>
  cases rx
  cases y with
  |ae=>cases ry;exact PySem.EqNone.eq_none_none (ZB I q (by simp))
  |bl j=>cases ry;exact PySem.EqNone.eq_none_bool (ZB I q (by simp))
  |int j=>obtain⟨t',rfl⟩:=ry;exact PySem.EqNone.eq_none_int (ZB I q (by simp))
  |str j=>obtain⟨t',rfl⟩:=ry;exact PySem.EqNone.eq_none_str (ZB I q (by simp))
  |_=>exact absurd (show false=true from hs) Bool.false_ne_true
 |bl i=>
  cases rx
  cases y with
  |ae=>cases ry;exact PySem.EqNone.eq_bool_none (ZB I q (by simp))
  |bl j=>cases ry;exact eq_bool (ZB I q zg)
  |str j=>obtain⟨t',rfl⟩:=ry;exact PySem.EqMixed.eq_bool_str (ZB I q (by simp))
  |_=>exact absurd (show false=true from hs) Bool.false_ne_true
 |int i=>
  obtain⟨t,rfl⟩:=rx
  cases y with
  |ae=>cases ry;exact PySem.EqNone.eq_int_none (ZB I q (by simp))
  |int j=>obtain⟨t',rfl⟩:=ry;exact eq_int (ZB I q U4)
  |str j=>obtain⟨t',rfl⟩:=ry;exact PySem.EqMixed.eq_int_str (ZB I q (by simp))
  |_=>exact absurd (show false=true from hs) Bool.false_ne_true
 |str i=>
  obtain⟨t,rfl⟩:=rx
  cases y with
  |ae=>cases ry;exact PySem.EqNone.eq_str_none (ZB I q (by simp))
  |bl j=>cases ry;exact PySem.EqMixed.eq_str_bool (ZB I q (by simp))
  |int j=>obtain⟨t',rfl⟩:=ry;exact PySem.EqMixed.eq_str_int (ZB I q (by simp))
  |str j=>obtain⟨t',rfl⟩:=ry;exact eq_str (ZB I q U3)
  |_=>exact absurd (show false=true from hs) Bool.false_ne_true
 |fi i=>
  obtain⟨t,rfl⟩:=rx
  cases y with
  |fi j=>obtain⟨t',rfl⟩:=ry;exact PySem.W.eq_bytes (ZB I q U5)
  |_=>exact absurd (show false=true from hs) Bool.false_ne_true
 |_=>cases y<;>exact absurd (show false=true from hs) Bool.false_ne_true
theorem WL:aZ X (compareOp .NotEq) wM:=by
 intro pins s σ H x y v u Q I rx ry h
 obtain⟨hs,q⟩:=h
 cases x with
 |ae=>
  cases rx
  cases y with
  |ae=>cases ry;exact PySem.EqNone.ne_none_none (ZB I q (by simp))
  |bl j=>cases ry;exact PySem.EqNone.ne_none_bool (ZB I q (by simp))
  |int j=>obtain⟨t',rfl⟩:=ry;exact PySem.EqNone.ne_none_int (ZB I q (by simp))
  |str j=>obtain⟨t',rfl⟩:=ry;exact PySem.EqNone.ne_none_str (ZB I q (by simp))
  |_=>exact absurd (show false=true from hs) Bool.false_ne_true
 |bl i=>
  cases rx
  cases y with
  |ae=>cases ry;exact PySem.EqNone.ne_bool_none (ZB I q (by simp))
  |bl j=>cases ry;exact ne_bool (ZB I q (congrArg not zg))
  |str j=>obtain⟨t',rfl⟩:=ry;exact PySem.EqMixed.ne_bool_str (ZB I q (by simp))
  |_=>exact absurd (show false=true from hs) Bool.false_ne_true
 |int i=>
  obtain⟨t,rfl⟩:=rx
  cases y with
  |ae=>cases ry;exact PySem.EqNone.ne_int_none (ZB I q (by simp))
  |int j=>obtain⟨t',rfl⟩:=ry;exact ne_int (ZB I q (congrArg not U4))
  |str j=>obtain⟨t',rfl⟩:=ry;exact PySem.EqMixed.ne_int_str (ZB I q (by simp))
  |_=>exact absurd (show false=true from hs) Bool.false_ne_true
 |str i=>
  obtain⟨t,rfl⟩:=rx
  cases y with
  |ae=>cases ry;exact PySem.EqNone.ne_str_none (ZB I q (by simp))
  |bl j=>cases ry;exact PySem.EqMixed.ne_str_bool (ZB I q (by simp))
  |int j=>obtain⟨t',rfl⟩:=ry;exact PySem.EqMixed.ne_str_int (ZB I q (by simp))
  |str j=>obtain⟨t',rfl⟩:=ry;exact ne_str (ZB I q (congrArg not U3))
  |_=>exact absurd (show false=true from hs) Bool.false_ne_true
 |fi i=>
  obtain⟨t,rfl⟩:=rx
  cases y with
  |fi j=>obtain⟨t',rfl⟩:=ry;exact PySem.W.ne_bytes (ZB I q (congrArg not U5))
  |_=>exact absurd (show false=true from hs) Bool.false_ne_true
 |_=>cases y<;>exact absurd (show false=true from hs) Bool.false_ne_true
theorem GV:aZ X (compareOp .Lt) (il fun i j=> .bl (decide (i<j))):=oC fun _ _ _ _ _ _ _ q=>lt_int q
theorem zm:aZ X (compareOp .LtE) (il fun i j=> .bl (decide (i≤j))):=oC fun _ _ _ _ _ _ _ q=>le_int q
theorem WM:aZ X (compareOp .Gt) (il fun i j=> .bl (decide (j<i))):=oC fun _ _ _ _ _ _ _ q=>gt_int q
theorem GU:aZ X (compareOp .GtE) (il fun i j=> .bl (decide (j≤i))):=oC fun _ _ _ _ _ _ _ q=>ge_int q
theorem aZ.or {f:Value→Value→Sem Value}{r r':R2}(h:aZ X f r) (h':aZ X f r'):aZ X f (fun x y H Q=>r x y H Q∨r' x y H Q):=by
 intro pins s σ H x y v u Q I rx ry q
 rcases q with q |q
 ·exact h pins s σ H x y v u Q I rx ry q
 ·exact h' pins s σ H x y v u Q I rx ry q
theorem bw (b:Expr) {op:CmpOp}(h:op≠.In:=by decide) (h2:op≠.NotIn:=by decide):behindInMarks op b=false:=by
 have e1:(op==CmpOp.In)=false:=by cases op<;>first |rfl |exact absurd rfl h
 have e2:(op==CmpOp.NotIn)=false:=by cases op<;>first |rfl |exact absurd rfl h2
 cases b<;>simp[behindInMarks,e1,e2]
theorem Je {op:CmpOp}{r:R2}(ho:aZ X (compareOp op) r) (ha:PE X a ta) (hb:PE X b tb) (hm:behindInMarks op b=false):PE X (.Compare a [op] [b] pos) (jN r ta tb):=by
 intro pins s σ H Q I h
 exact wpAny_Compare1 (uW ha hb I h fun v u s2 x y H2 I2 rx ry q=>ho pins s2 σ H2 x y v u Q I2 rx ry q) hm
def vY (t:TE):TT:=fun σ H Q=>t σ H fun x H'=> ∃k,x=.bl k∧Q k H'
theorem Zw {op:CmpOp}{r:R2}(ho:aZ X (compareOp op) r) (ha:PE X a ta) (hb:PE X b tb) (hm:behindInMarks op b=false):PT X (.Compare a [op] [b] pos) (vY (jN r ta tb)):=by
 intro pins s σ H Q I h
 refine wpAny_isTrue_Compare1 (ao (ha pins s σ H _ I h) fun v s1 ⟨x,H1,I1,r1,q1⟩=>ao (hb pins s1 σ H1 _ I1 q1) fun u s2 ⟨y,H2,I2,r2,q2⟩=>
  ao (ho pins s2 σ H2 x y v u _ I2 r1 r2 q2) fun c s3 ⟨z,H3,I3,r3,k,e,q3⟩=> ?_) hm
 subst e
 cases r3
 exact wpAny_truthy_bool ⟨H3,I3,q3⟩
def AZ (r r':R2) (ta tb tc:TE):TE:=fun σ H Q=>ta σ H fun x H1=>tb σ H1 fun y H2=>r x y H2 fun z H3=> ∃k,z=.bl k∧
 (if k=true then tc σ H3 fun w' H4=>r' y w' H4 Q else Q (.bl false) H3)
theorem Ko {op sM:CmpOp}{r r':R2}(ho:aZ X (compareOp op) r) (bA:aZ X (compareOp sM) r') (ha:PE X a ta) (hb:PE X b tb) (hc:PE X c tc)
  (hm:lastMarks [op,sM] [b,c]=false:=by with_unfolding_all rfl):PE X (.Compare a [op,sM] [b,c] pos) (AZ r r' ta tb tc):=by
 intro pins s σ H Q I h
 refine Compare_chain (ao (ha pins s σ H _ I h) fun v s1 ⟨x,H1,I1,r1,q1⟩=>chain_link (ao (hb pins s1 σ H1 _ I1 q1) fun u s2 ⟨y,H2,I2,r2,q2⟩=>
  ao (ho pins s2 σ H2 x y v u _ I2 r1 r2 q2) fun d s3 ⟨z,H3,I3,r3,k,e,q3⟩=> ?_)) hm
 subst e
 cases r3
 refine wpAny_truthy_bool ?_
 cases k with
 |false=>exact ite_ff ⟨.bl false,H3,I3,rfl,q3⟩
 |true=>exact ite_tt (chain_last (ao (hc pins s3 σ H3 _ I3 q3) fun w' s4 ⟨z',H4,I4,r4,q4⟩=>bA pins s4 σ H4 y z' u w' Q I4 r2 r4 q4))
theorem oH:(sizeLine:Nat)<2^63:=by rw[sizeLine_eq];decide
theorem vals1 {x:V}{us:List Value}(r:Vals [x] us):∃u,us=[u]∧RelV x u:=by
 cases r with
 |cons r1 r2=>cases r2;exact⟨_,rfl,r1⟩
theorem vals2 {x y:V}{us:List Value}(r:Vals [x,y] us):∃u w',us=[u,w']∧RelV x u∧RelV y w':=by
 cases r with
 |cons r1 r2=>
  cases r2 with
  |cons r3 r4=>cases r4;exact⟨_,_,rfl,r1,r3⟩
theorem J9 (hc:X.A.handled=none):eI X (.builtin "max") (fun xs H Q=> ∃i j,xs=[.int i,.int j]∧Q (.int (if j>i then j else i)) H):=by
 intro pins s σ H xs us Q I r h
 obtain⟨i,j,rfl,q⟩:=h
 obtain⟨u,w',rfl,⟨t,rfl⟩,⟨t',rfl⟩⟩:=vals2 r
 refine max_two_ints hc fun h' tk k=> ⟨_,H,I.kept k,?_,q⟩
 by_cases hj:j>i
 ·rw[if_pos hj,if_pos hj];exact⟨_,rfl⟩
 ·rw[if_neg hj,if_neg hj];exact⟨_,rfl⟩
theorem IH (hc:X.A.handled=none):eI X (.builtin "min") (fun xs H Q=> ∃i j,xs=[.int i,.int j]∧Q (.int (if j<i then j else i)) H):=by
 intro pins s σ H xs us Q I r h
 obtain⟨i,j,rfl,q⟩:=h
 obtain⟨u,w',rfl,⟨t,rfl⟩,⟨t',rfl⟩⟩:=vals2 r
 refine min_two_ints hc fun h' tk k=> ⟨_,H,I.kept k,?_,q⟩
 by_cases hj:j<i
 ·rw[if_pos hj,if_pos hj];exact⟨_,rfl⟩
 ·rw[if_neg hj,if_neg hj];exact⟨_,rfl⟩
theorem Zp:eI X (.type "str") (fun xs H Q=> ∃i,xs=[.int i]∧i.natAbs.log2<1920∧Q (.str (toString i)) H):=by
 intro pins s σ H xs us Q I r h
 obtain⟨i,rfl,hz,q⟩:=h
 obtain⟨u,rfl,t,rfl⟩:=vals1 r
 exact PySem.P.str_of_int hz ⟨.str _,H,I.tok _,⟨_,rfl⟩,q⟩
end
structure jB (h:Heap) (x dx C:Addr) (mA:Str→Option Value):Prop where
 obj:h.get? x=some (PySem.W.instObj C dx)
 ns:h.Ns1 dx mA
 ne:dx≠x
theorem IU {h:Heap}{dx:Addr}{mA:Str→Option Value}(n:h.Ns1 dx mA):∃od,h.get? dx=some od∧∀name,PySem.W.lookIn name od=some (mA name):=by
 obtain⟨o,es,ep,ho,hd,hk,_,hm⟩:=n
 refine⟨o,ho,fun name=> ?_⟩
 have e:=hm name
 unfold nsFind findBy at e
 rw[←Array.find?_toList]at e
 unfold PySem.W.lookIn
 rw[hd]
 dsimp only
 split
 ·rename_i y q
  rw[q]at e
  exact congrArg some e
 ·rename_i q
  rw[q]at e
  have a:es.toList.any (·.refKey)=false:=by
   rw[List.any_eq_false]
   intro y hy
   obtain⟨z,t,DG⟩:=hk y (Array.mem_toList_iff.mp hy)
   simp[DictEntry.refKey,DG]
  have a':¬es.toList.any (·.refKey)=true:=by rw[a];exact Bool.false_ne_true
  rw[if_neg a']
  exact congrArg some e
theorem jB.look {h:Heap}{x dx C:Addr}{mA:Str→Option Value}(I:jB h x dx C mA):∃od,PySem.W.InstAt h x (PySem.W.instObj C dx) C (some od)∧∀name,PySem.W.lookIn name od=some (mA name):=
 let ⟨od,ho,hl⟩:=IU I.ns
 ⟨od,⟨I.obj,rfl,rfl,ho⟩,hl⟩
section
variable {prog:Program}{w:World}{A:Around}{E:Value→Shared→Prop}{s:Shared}{K:PySem.W.Frag}{x dx C f:Addr}{mA:Str→Option Value}{name:Str}{v:Value}
theorem HR {expr:Bool}{Q:Value→Shared→Prop}(X:K.In s.heap) (I:jB s.heap x dx C mA) (hg:PySem.W.plainGet K C name=true) (hh:PySem.W.hasDictIn K C=true)
  (ha:PySem.W.findIn K (.ref C) name=some none) (hv:mA name=some v) (lQ:PySem.W.handedIn v=true) (h:Q v {s with toks:=s.toks+1}):
  wpAny (model prog w) A (getAttr (.ref x) name expr) Q E s:=by
 obtain⟨od,J,hl⟩:=I.look
 exact PySem.W.get_value X J (PySem.W.plainGet_of hg).1 (PySem.W.findObj_own hh ha rfl (by rw[hl,hv])) lQ h
theorem HP {pl:Sem Bool}{Q:Value×List Value→Shared→Prop}(X:K.In s.heap) (I:jB s.heap x dx C mA) (hg:PySem.W.plainGet K C name=true)
  (hf:PySem.W.findIn K (.ref C) name=some (some (.ref f))) (ht:PySem.W.isFn K (.ref f)=true) (hv:mA name=none) (h:Q (.ref f,[.ref x]) s):
  wpAny (model prog w) A (getMethod (.ref x) name pl) Q E s:=by
 obtain⟨od,J,hl⟩:=I.look
 exact PySem.W.method_fn X J (PySem.W.plainGet_of hg).1 (PySem.W.plainGet_of hg).2 hf (beq_iff_eq.mp ht) (by show(PySem.W.lookIn name od).map (·.isSome)=some false;rw[hl,hv];rfl) h
theorem HB {ns:List Str}{Q:Unit→Shared→Prop}(X:K.In s.heap) (I:jB s.heap x dx C mA)
  (hs:PySem.W.findIn K (.ref C) "__setattr__" =some (some (.builtin "object.__setattr__"))) (hp:PySem.W.plainOver K C=true) (ht:PySem.W.takerIn K C name=some none) (hh:PySem.W.hasDictIn K C=true)
  (hw:PySem.Within mA ns) (hsz:ns.length≤sizeLine)
  (h:∀h',jB h' x dx C (fun y=>if y=name then some v else mA y)→Heap.SameBut dx s.heap h'→Q () {s with heap:=h',toks:=s.toks+2}):
  wpAny (model prog w) A (setAttr (.ref x) name v) Q E s:=by
 obtain⟨od,J,hl⟩:=I.look
 refine PySem.W.set_plain X J hs (PySem.W.osa_open (s:= {s with toks:=s.toks+1}) (r:=none) X J hp ht fun b=> ?_)
 obtain⟨cd,hc,tY⟩:=PySem.W.any_some hh
 have hx:s.heap.get? x=some ⟨.ref C,some dx,.plain, #[]⟩:=I.obj
 refine wpAny_bind (wpAny_pure (wpAny_bind (wpAny_bind (wpAny_loadPart hx (wpAny_bind (PySem.W.Looks.here (s:= {s with toks:=s.toks+1}) (PySem.W.looks_clsIn X hc) ?_))))))
 rw[tY]
 refine wpAny_pure (a:=some dx) (wpAny_bind (wpAny_pure (wpAny_bind ?_)))
 refine wpAny_nsSet1 (s:= {s with toks:=s.toks+1}) I.ns fun h' o9 tD=> ?_
 obtain⟨oD,LZ,L0,hoD,Eb,Ee⟩:=o9.count (PySem.Within.cons name v hw)
 refine wpAny_bind (wpAny_lookBehind hoD (by rw[Eb];exact pastItsLine_dict (Nat.le_trans Ee (by rw[List.length_cons];omega))) ?_)
 exact wpAny_pure (h _ ⟨(tD.2 _ (Ne.symm I.ne)).trans I.obj,o9,I.ne⟩ tD)
theorem KJ {R:Result→Shared→Prop}{vs:List Value}{kw:List (Str×Value)}(X:K.In s.heap) (hm:PySem.W.makesIn K C=true)
    (hi:PySem.W.findIn K (.ref C) "__init__" =some (some (.ref f))) (hf:PySem.W.typeIn K (.ref f)=some (.type "function"))
    (h:codeAny (model prog w) (A.under (.builtin "type.__call__" ⟨.ref C::vs,kw⟩)) (.call (.ref f) ⟨.ref (s.heap.objs.size+1)::vs,kw⟩) (PySem.W.InitBack (s.heap.objs.size+1) R)
      {s with heap:=(s.heap.push PySem.W.emptyDict).push (PySem.W.instObj C s.heap.objs.size)}):
    codeAny (model prog w) A (.call (.ref C) ⟨vs,kw⟩) R s:=by
  obtain⟨hh,g,d,t,os⟩:=s
  exact PySem.W.make_core (PySem.W.makes_of X hm) (PySem.W.looks_findIn X hi) (fun self=>PySem.W.bind_fn X self hf) (.inl rfl) h
end
def df (f:Str) (v:V):List (Str×V)→List (Str×V)
 | []=> [(f,v)]
 |(g,x)::r=>if g=f then (g,v)::r else (g,x)::df f v r
theorem Y7 (f g:Str) (v:V):∀fs:List (Str×V),(df f v fs).lookup g=if g=f then some v else fs.lookup g
 | []=>by
  show List.lookup g [(f,v)]=_
  by_cases h:g=f
  ·have hb:(g==f)=true:=beq_iff_eq.mpr h
   simp only[List.lookup,hb,if_pos h]
  ·have hb:(g==f)=false:=beq_eq_false_iff_ne.mpr h
   simp only[List.lookup,hb,if_neg h]
 |(k,x)::r=>by
  have ih:=Y7 f g v r
  rw[show df f v ((k,x)::r)=(if k=f then (k,v)::r else (k,x)::df f v r) from rfl]
  by_cases hk:k=f
  ·rw[if_pos hk]
   by_cases h:g=k
   ·have hb:(g==k)=true:=beq_iff_eq.mpr h
    simp only[List.lookup,hb,if_pos (h.trans hk)]
   ·have hb:(g==k)=false:=beq_eq_false_iff_ne.mpr h
    simp only[List.lookup,hb,if_neg (fun e:g=f=>h (e.trans hk.symm))]
  ·rw[if_neg hk]
   by_cases h:g=k
   ·have hb:(g==k)=true:=beq_iff_eq.mpr h
    simp only[List.lookup,hb,if_neg (fun e:g=f=>hk (h.symm.trans e))]
   ·have hb:(g==k)=false:=beq_eq_false_iff_ne.mpr h
    simp only[List.lookup,hb]
    exact ih
theorem Y1 (f:Str) (v:V):∀fs:List (Str×V),f∈(df f v fs).map (·.1)∧∀g,g∈fs.map (·.1)→g∈(df f v fs).map (·.1)
 | []=> ⟨by simp[df],fun g h=>by simp at h⟩
 |(k,x)::r=>by
  obtain⟨i1,i2⟩:=Y1 f v r
  rw[show df f v ((k,x)::r)=(if k=f then (k,v)::r else (k,x)::df f v r) from rfl]
  by_cases hk:k=f
  ·rw[if_pos hk]
   subst hk
   exact⟨by simp,fun g h=>by simpa using h⟩
  ·rw[if_neg hk]
   refine⟨?_,fun g h=> ?_⟩
   ·rw[List.map_cons]
    exact List.mem_cons_of_mem _ i1
   ·rw[List.map_cons]at h ⊢
    rcases List.mem_cons.mp h with e |e
    ·exact List.mem_cons.mpr (.inl e)
    ·exact List.mem_cons_of_mem _ (i2 g e)
theorem Y8 (f:Str) (v:V):∀fs:List (Str×V),(df f v fs).length≤fs.length+1
 | []=>by simp[df]
 |(k,x)::r=>by
  have ih:=Y8 f v r
  rw[show df f v ((k,x)::r)=(if k=f then (k,v)::r else (k,x)::df f v r) from rfl]
  by_cases hk:k=f
  ·rw[if_pos hk,List.length_cons,List.length_cons];omega
  ·rw[if_neg hk,List.length_cons,List.length_cons];omega
theorem dm.some_of {v:V}{o:Option Value}(r:dm (some v) o):∃u,o=some u∧RelV v u:=by
 cases o with
 |none=>exact(show False from r).elim
 |some u=>exact⟨u,rfl,r⟩
theorem dm.none_of {o:Option Value}(r:dm none o):o=none:=by
 cases o with
 |none=>rfl
 |some u=>exact(show False from r).elim
theorem IJ {v:V}{u:Value}(r:RelV v u):PySem.W.handedIn u=true:=by
 cases v with
 |ae=>cases (show u=Value.none from r);rfl
 |bl b=>cases (show u=Value.bool b from r);rfl
 |int i=>obtain⟨t,e⟩:=(show ∃t,u=Value.int i t from r);cases e;rfl
 |str x=>obtain⟨t,e⟩:=(show ∃t,u=Value.str x t from r);cases e;rfl
 |fi b=>obtain⟨t,e⟩:=(show ∃t,u=Value.bytes b t from r);cases e;rfl
 |gC b=>obtain⟨t,e⟩:=(show ∃t,u=Value.float b t from r);cases e;rfl
 |ref a=>cases (show u=Value.ref a from r);rfl
 |ty n=>cases (show u=Value.type n from r);rfl
section
variable {P:Program}{w:World}{H H':Hp}{h h':Heap}{a C dx:Addr}{fs EV:List (Str×V)}
theorem Jg (ah:bc P w H h) (e:H a=some (.ins C dx fs)):∃mA,jB h a dx C mA∧(∀f,dm (fs.lookup f) (mA f))∧PySem.Within mA (fs.map (·.1))∧fs.length≤1000∧H dx=some (.own a):=by
 obtain⟨d,z,ne,ob,mA,n,r,q⟩:=(show bq P w H h a (.ins C dx fs) from ah a _ e)
 exact⟨mA,⟨ob,n,ne⟩,r,q,z,d⟩
end
structure fk (K:PySem.W.Frag) (C:Addr):Prop where
 pg:PySem.W.plainGet K C Str.empty=true
 hd:PySem.W.hasDictIn K C=true
 po:PySem.W.plainOver K C=true
 sa:PySem.W.findIn K (.ref C) "__setattr__" =some (some (.builtin "object.__setattr__"))
theorem fk.get {K:PySem.W.Frag}{C:Addr}(c:fk K C) (f:Str):PySem.W.plainGet K C f=true:=c.pg
def iP (K:PySem.W.Frag) (C:Addr) (f:Str):Prop:=PySem.W.findIn K (.ref C) f=some none
theorem iP.Am {K:PySem.W.Frag}{C:Addr}{f:Str}(n:iP K C f):PySem.W.takerIn K C f=some none:=by
 unfold PySem.W.takerIn
 rw[show PySem.W.findIn K (.ref C) f=some none from n]
 rfl
structure Mi (K:PySem.W.Frag) (C:Addr) (f:Str) (v:V) (u:Value):Prop where
 at_:PySem.W.findIn K (.ref C) f=some (some u)
 rel:RelV v u
 get:PySem.W.specialIn K u "__get__" =some none
 cp:PySem.W.copiedNames.contains f=false
structure Meth (K:PySem.W.Frag) (C:Addr) (m:Str) (f:Addr):Prop where
 at_:PySem.W.findIn K (.ref C) m=some (some (.ref f))
 fn:PySem.W.isFn K (.ref f)=true
 kp:PySem.W.keepIn K (.ref f)=true
section
variable {X:Cx}{pins:List (Addr×Obj)}{σ:St}{H:Hp}{s:Shared}{a C dx:Addr}{fs:List (Str×V)}{f:Str}{v:V}{A:Around}{E:Value→Shared→Prop}
theorem UG {b:Bool}{Q:Value→Shared→Prop}(I:Inv X pins σ H s) (e:H a=some (.ins C dx fs)) (c:fk X.K C) (n:iP X.K C f) (l:fs.lookup f=some v)
  (h:∀u s',Inv X pins σ H s'→RelV v u→Q u s'):wpAny (model X.prog X.w) A (getAttr (.ref a) f b) Q E s:=by
 obtain⟨mA,O,r,_,_,_⟩:=Jg I.ah e
 obtain⟨u,hu,ru⟩:=dm.some_of (v:=v) (o:=mA f) (by rw[←l];exact r f)
 exact HR I.aW O (c.get f) c.hd n hu (IJ ru) (h u _ (I.tok _) ru)
theorem YD {m:Str}{g:Addr}{pl:Sem Bool}{Q:Value×List Value→Shared→Prop}(I:Inv X pins σ H s) (e:H a=some (.ins C dx fs)) (c:fk X.K C) (k:Meth X.K C m g) (l:fs.lookup m=none)
  (h:Q (.ref g,[.ref a]) s):wpAny (model X.prog X.w) A (getMethod (.ref a) m pl) Q E s:=by
 obtain⟨mA,O,r,_,_,_⟩:=Jg I.ah e
 have hn:mA m=none:=dm.none_of (by rw[←l];exact r m)
 exact HP I.aW O (c.get m) k.at_ k.fn hn h
theorem Um {y:V}{u:Value}{Q:Unit→Shared→Prop}(I:Inv X pins σ H s) (e:H a=some (.ins C dx fs)) (c:fk X.K C) (n:iP X.K C f) (hl:fs.length<1000) (ry:RelV y u)
  (h:∀s',Inv X pins σ (upd H a (.ins C dx (df f y fs))) s'→Q () s'):wpAny (model X.prog X.w) A (setAttr (.ref a) f u) Q E s:=by
 obtain⟨mA,O,r,wi,_,ho⟩:=Jg I.ah e
 have hz:(fs.map (·.1)).length≤sizeLine:=by rw[List.length_map,sizeLine_eq];omega
 refine HB I.aW O c.sa c.po n.Am c.hd wi hz fun h' O' sb=>h _ ?_
 have hd:∃o,h'.get? dx=some o:=let ⟨o,_,_,e',_⟩:=O'.ns;⟨o,e'⟩
 refine I.write (x:=a) (e:=dx) (by rw[e];exact True.intro) (.inr ho) (fun b q hb z=> (sb.2 b hb).trans z) hd ?_
 refine⟨by rw[Zh O.ne];exact ho,?_,O.ne,O'.obj,_,O'.ns,fun g=> ?_,fun g hg=> ?_⟩
 ·have:=Y8 f y fs;omega
 ·show dm ((df f y fs).lookup g) (if g=f then some u else mA g)
  rw[Y7]
  by_cases q:g=f
  ·rw[if_pos q,if_pos q];exact ry
  ·rw[if_neg q,if_neg q];exact r g
 ·by_cases q:g=f
  ·rw[q];exact(Y1 f y fs).1
  ·refine(Y1 f y fs).2 g (wi g fun z=>hg ?_)
   show(if g=f then some u else mA g)=none
   rw[if_neg q];exact z
theorem Inv.made (I:Inv X pins σ H s):Inv X pins σ (upd (upd H s.heap.objs.size (.own (s.heap.objs.size+1))) (s.heap.objs.size+1) (.ins C s.heap.objs.size []))
  {s with heap:=(s.heap.push PySem.W.emptyDict).push (PySem.W.instObj C s.heap.objs.size)} :=by
 have e1:(s.heap.push PySem.W.emptyDict).get? s.heap.objs.size=some PySem.W.emptyDict:=Heap.get?_push_size s.heap rfl
 have e2:((s.heap.push PySem.W.emptyDict).push (PySem.W.instObj C s.heap.objs.size)).get? (s.heap.objs.size+1)=some (PySem.W.instObj C s.heap.objs.size):=by
  have:=Heap.get?_push_size (s.heap.push PySem.W.emptyDict) (o:=PySem.W.instObj C s.heap.objs.size) rfl
  rwa [Heap.size_push]at this
 have e3:(s.heap.push PySem.W.emptyDict).Ns s.heap.objs.size (fun _=>none):=⟨PySem.W.emptyDict, #[],_,e1,rfl,(fun e he=>absurd he (by simp)),fun _=>rfl⟩
 have I1:=I.laid (a:=s.heap.objs.size) (o:=.own (s.heap.objs.size+1)) (h':=s.heap.push PySem.W.emptyDict) (t':=s.toks) (fun b u q=>Heap.get?_push_of_some _ q) (Nat.le_refl _) ⟨_,e1⟩
 refine I1.laid (a:=s.heap.objs.size+1) (o:=.ins C s.heap.objs.size []) (t':=s.toks) (fun b u q=>Heap.get?_push_of_some _ q) (Nat.le_of_eq (Heap.size_push _ _)) ?_
 have ne:s.heap.objs.size≠s.heap.objs.size+1:=Nat.ne_of_lt (Nat.lt_succ_self _)
 refine⟨by rw[Zh ne,Zc],Nat.zero_le _,ne,e2,fun _=>none,(Heap.Ns1.of_empty e3).at fun o q=>Heap.get?_push_of_some _ q,fun _=>True.intro,fun y hy=>absurd rfl hy⟩
theorem Iz {prog:Program}{w:World}{env:Env}{e:Expr}{f:Str}{pos:Pos}{s:Shared}{Q:Value→Shared→Prop}(hb:attributeBase e f env (eval e env)=eval e env)
  (h:wpAny (model prog w) A (eval e env) (fun o av=>wpAny (model prog w) A (getAttr o f true) Q E av) E s):wpAny (model prog w) A (eval (.Attribute e f pos) env) Q E s:=
 Attribute_any_ h (by rw[arm_eval_Attribute,hb])
end
def AS (K:PySem.W.Frag) (ta:TE) (f:Str):TE:=fun σ H Q=>ta σ H fun x H1=> ∃a C dx fs v,x=.ref a∧H1 a=some (.ins C dx fs)∧fk K C∧iP K C f∧fs.lookup f=some v∧Q v H1
def BB (K:PySem.W.Frag) (ta tv:TE) (f:Str):TS:=fun D σ H=>tv σ H fun y H1=>ta σ H1 fun x H2=> ∃a C dx fs,x=.ref a∧H2 a=some (.ins C dx fs)∧fk K C∧iP K C f∧fs.length<1000∧
 D.nx σ (upd H2 a (.ins C dx (df f y fs)))
section
variable {X:Cx}{o e value:Expr}{f:Str}{pos pos' Lj:Pos}{ta tv:TE}
theorem Wp (he:PE X e ta) (hb:attributeBase e f X.env (eval e X.env)=eval e X.env):PE X (.Attribute e f pos) (AS X.K ta f):=by
 intro pins s σ H Q I h
 refine Iz hb (ao (he pins s σ H _ I h) fun u s1 ⟨x,H1,I1,rx,a,C,dx,fs,v,ex,ea,c,n,l,q⟩=> ?_)
 subst ex
 obtain rfl:u=Value.ref a:=rx
 exact UG I1 ea c n l fun u' s2 I2 ru=> ⟨v,H1,I2,ru,q⟩
theorem GJ (ha:PE X o ta) (hv:PE X value tv) (hs:swapsWith value (some (.Attribute o f pos')) pos.line X.env=pure false):PS X (.Assign [.Attribute o f pos'] value pos) (BB X.K ta tv f):=by
 intro pins s σ H D I h
 refine plainObj_wpAny_Assign_Attribute (ao (hv pins s σ H _ I h) fun u s1 ⟨y,H1,I1,ry,q⟩=>ao (ha pins s1 σ H1 _ I1 q) fun ov s2 ⟨x,H2,I2,rx,a,C,dx,fs,ex,ea,c,n,l,q2⟩=> ?_) hs
 subst ex
 obtain rfl:ov=Value.ref a:=rx
 exact Um I2 ea c n l ry fun s3 I3=> ⟨σ,_,I3,q2⟩
end
section
variable {X:Cx}{pins:List (Addr×Obj)}{σ:St}{H:Hp}{s:Shared}{A:Around}{E:Value→Shared→Prop}{Q:Value→Shared→Prop}{c:Value}{b:Bool}
inductive cJ (K:PySem.W.Frag) (H:Hp):V→Value→Prop where
 |ae:cJ K H .ae (.type "NoneType")
 |bl (x:Bool):cJ K H (.bl x) (.type "bool")
 |int (i:Int):cJ K H (.int i) (.type "int")
 |str (x:Str):cJ K H (.str x) (.type "str")
 |gC (x:UInt64):cJ K H (.gC x) (.type "float")
 |lst {a:Addr}{xs:List V} (e:H a=some (.lst xs)):cJ K H (.ref a) (.type "list")
 |bZ {a:Addr}{o:Obj}{xs:List V} (e:H a=some (.bZ o (.lst xs))):cJ K H (.ref a) (.type "list")
 |tup {a:Addr}{xs:List V} (e:H a=some (.tup xs)):cJ K H (.ref a) (.type "tuple")
 |dK {a:Addr}{ag:List (Key×V)} (e:H a=some (.dK ag)):cJ K H (.ref a) (.type "dict")
 |dT {a:Addr}{ag:List (List Key×V)} (e:H a=some (.dT ag)):cJ K H (.ref a) (.type "dict")
 |ins {a C dx:Addr}{fs:List (Str×V)} (e:H a=some (.ins C dx fs)) (cl:fk K C) (ha:PySem.W.findIn K (.ref C) "__class__" =some (some (.builtin "object.__class__")))
  (hn:PySem.W.specialIn K (.builtin "object.__class__") "__get__" =some (some (.builtin "getset_descriptor.__get__"))) (xE:PySem.W.takesIn K (.builtin "object.__class__")=some true)
  (hm:PySem.W.mroIn K C (.type "object")=some true):cJ K H (.ref a) (.ref C)
theorem IL {x:V}{u t:Value}(I:Inv X pins σ H s) (rx:RelV x u) (ty:cJ X.K H x t) (e:PySem.W.kitOne X.K t c=some b) (h:∀tk,Q (.bool b) {s with toks:=tk}):
  wpAny (model X.prog X.w) A (call (.builtin "isinstance") [u,c]) Q E s:=by
 cases ty with
 |ae=>cases (show u=Value.none from rx);exact PySem.W.kia_one PySem.W.kitx_none I.aW True.intro e (fun z=>nomatch z) h
 |bl y=>cases (show u=Value.bool y from rx);exact PySem.W.kia_one PySem.W.kitx_bool I.aW True.intro e (fun z=>nomatch z) h
 |int i=>obtain⟨t,q⟩:=(show ∃t,u=Value.int i t from rx);cases q;exact PySem.W.kia_one PySem.W.kitx_int I.aW True.intro e (fun z=>nomatch z) h
 |str y=>obtain⟨t,q⟩:=(show ∃t,u=Value.str y t from rx);cases q;exact PySem.W.kia_one PySem.W.kitx_str I.aW True.intro e (fun z=>nomatch z) h
 |gC y=>obtain⟨t,q⟩:=(show ∃t,u=Value.float y t from rx);cases q;exact PySem.W.kia_one PySem.W.kitx_float I.aW True.intro e (fun z=>nomatch z) h
 | @lst a xs ea=>
  cases (show u=Value.ref a from rx)
  obtain⟨_,_,n,_,h1⟩:=(show bq X.prog X.w H s.heap a (.lst xs) from I.ah a _ ea)
  exact PySem.W.kia_one PySem.W.kitx_list I.aW ⟨_,h1,rfl⟩ e (fun z=>nomatch z) h
 | @bZ a ob xs ea=>
  cases (show u=Value.ref a from rx)
  obtain⟨_,_,_,n,_,h1⟩:=(show bq X.prog X.w H s.heap a (.bZ ob (.lst xs)) from I.ah a _ ea)
  exact PySem.W.kia_one PySem.W.kitx_list I.aW ⟨_,h1,rfl⟩ e (fun z=>nomatch z) h
 | @tup a xs ea=>
  cases (show u=Value.ref a from rx)
  obtain⟨_,_,_,p,_⟩:=(show bq X.prog X.w H s.heap a (.tup xs) from I.ah a _ ea)
  obtain⟨o,h1,h2,_⟩:=p
  exact PySem.W.kia_one PySem.W.kitx_tuple I.aW ⟨o,h1,h2⟩ e (fun z=>nomatch z) h
 | @dK a ag ea=>
  cases (show u=Value.ref a from rx)
  obtain⟨_,_,vs,_,p⟩:=(show bq X.prog X.w H s.heap a (.dK ag) from I.ah a _ ea)
  obtain⟨o,es,ep,h1,h2,_⟩:=p
  exact PySem.W.kia_one PySem.W.kitx_dict I.aW ⟨o,h1,h2.1⟩ e (fun z=>nomatch z) h
 | @dT a ag ea=>
  cases (show u=Value.ref a from rx)
  obtain⟨_,_,xs,_,o,es,ep,h1,h2,_⟩:=(show bq X.prog X.w H s.heap a (.dT ag) from I.ah a _ ea)
  exact PySem.W.kia_one PySem.W.kitx_dict I.aW ⟨o,h1,h2.1⟩ e (fun z=>nomatch z) h
 | @ins a C dx fs ea cl ha hn xE hm=>
  cases (show u=Value.ref a from rx)
  obtain⟨mA,O,_⟩:=Jg I.ah ea
  obtain⟨od,J,_⟩:=O.look
  exact PySem.W.kia_one (PySem.W.kitx_own (cl.get _) cl.hd ha hn xE hm) I.aW J e (fun z=>nomatch z) h
end
structure aK (k:Nat) (A:Around):Prop where
 hd:100≤k→A.handled=none
 dp:A.depth+3*k+5<recursionLimit
 un:A.units+16*k+200<cLine
 gd:A.guards=some []
theorem aK.mono {j k:Nat}{A:Around}(r:aK k A) (h:j≤k):aK j A:=⟨fun z=>r.hd (Nat.le_trans z h),by have:=r.dp;omega,by have:=r.un;omega,r.gd⟩
theorem aK.deeper {k:Nat}{A:Around}(r:aK (k+1) A) (env:Env):aK k (A.deeper env):=
 ⟨fun z=>r.hd (Nat.le_succ_of_le z),by have:=r.dp;show A.depth+1+3*k+5<_;omega,by have:=r.un;show A.units+3+16*k+200<_;omega,r.gd⟩
theorem UC {A:Around}{C:Addr}{us:List Value}{kw:List (Str×Value)} :(A.under (.builtin "type.__call__" ⟨.ref C::us,kw⟩)).depth=A.depth+1:=by
 first |rfl |simp[Around.under,Code.weight,Code.isCreation,Code.isGuard,Code.isCaller,Code.frames,Code.isFrame,guardIds]
theorem UB {A:Around}{C:Addr}{us:List Value}{kw:List (Str×Value)} :(A.under (.builtin "type.__call__" ⟨.ref C::us,kw⟩)).units=A.units+1:=by
 first |rfl |simp[Around.under,Code.cUnits,Code.frames,Code.isFrame]
theorem WR {A:Around}{C:Addr}{us:List Value}{kw:List (Str×Value)} :(A.under (.builtin "type.__call__" ⟨.ref C::us,kw⟩)).guards=A.guards:=by
 first |rfl |simp[Around.under,Code.guards,Code.isGuard,pushGuards,guardIds]
theorem aK.make {k:Nat}{A:Around}(r:aK (k+1) A) (C:Addr) (us:List Value) (kw:List (Str×Value)):aK k (A.under (.builtin "type.__call__" ⟨.ref C::us,kw⟩)):=
 ⟨fun z=>r.hd (Nat.le_succ_of_le z),by have:=r.dp;rw[UC];omega,by have:=r.un;rw[UB];omega,by rw[WR];exact r.gd⟩
theorem aK.depth {k:Nat}{A:Around}(r:aK k A):A.depth<recursionLimit:=by have:=r.dp;omega
theorem aK.units {k:Nat}{A:Around}(r:aK k A):A.units+64<cLine:=by have:=r.un;omega
theorem aK.Ag {k:Nat}{A:Around}(r:aK k A):A.units<cLine:=by have:=r.un;omega
def dZ:TA:=fun _ H Q=>Q [] H
def cg (ta:TE) (tr:TA):TA:=fun σ H Q=>ta σ H fun x H1=>tr σ H1 fun xs H2=>Q (x::xs) H2
section
variable {X:Cx}{e:Expr}{es:List Expr}{te:TE}{t:TA}{pos:Pos}
theorem Zb:PA X [] dZ:=fun _ _ _ _ H Q I h=>Calls.spliced_nil ⟨[],H,I,.nil,h⟩
theorem Za (ha:PE X e te) (hr:PA X es t) (hs:starEach (e::es) X.env=(false,eval e X.env)::starEach es X.env:=by rfl):PA X (e::es) (cg te t):=by
 intro pos pins s σ H Q I h
 rw[hs]
 show wpAny _ _ (spliced ((false,eval e X.env)::backTo pos (starEach es X.env))) _ _ s
 refine Calls.spliced_cons (ao (ha pins s σ H _ I h) fun u s1 ⟨x,H1,I1,r1,q1⟩=> ?_)
 exact ao (hr pos pins s1 σ H1 _ I1 q1) fun us s2 ⟨xs,H2,I2,r2,q2⟩=> ⟨x::xs,H2,I2,.cons r1 r2,q2⟩
def Ar (t:TA):TE:=fun σ H Q=>t σ H fun xs H1=>xs.length≤sizeLine∧∀p,H1 p=none→Q (.ref p) (upd H1 p (.tup xs))
def kI (t:TA):TE:=fun σ H Q=>t σ H fun xs H1=>xs.length≤sizeLine∧∀p,H1 p=none→Q (.ref p) (upd H1 p (.lst xs))
theorem ZY {x1} (h:PA X es t):PE X (.Tuple es x1 pos) (Ar t):=by
 intro pins s σ H Q I hq
 refine wpAny_Tuple_spliced (ao (h pos pins s σ H _ I hq) fun us s1 ⟨xs,H1,I1,r,z,q⟩=> ⟨by rw[←r.length];exact z,?_⟩)
 have hf:H1 s1.heap.objs.size=none:=I1.ah.fresh (Nat.le_refl _)
 refine⟨.ref s1.heap.objs.size,upd H1 s1.heap.objs.size (.tup xs),I1.laid (t':=s1.toks) (fun b u e=>Heap.get?_push_of_some _ e) (Nat.le_refl _) ?_,rfl,q _ hf⟩
 exact⟨z,us,r,⟨_,Heap.get?_push_size _ rfl,rfl,_,rfl⟩,_,Heap.get?_push_size _ rfl,rfl⟩
theorem Zq (h:PA X es t):PE X (.List es pos) (kI t):=by
 intro pins s σ H Q I hq
 refine wpAny_List_spliced (ao (h pos pins s σ H _ I hq) fun us s1 ⟨xs,H1,I1,r,z,q⟩=> ⟨by rw[←r.length];exact z,?_⟩)
 have hf:H1 s1.heap.objs.size=none:=I1.ah.fresh (Nat.le_refl _)
 refine⟨.ref s1.heap.objs.size,upd H1 s1.heap.objs.size (.lst xs),I1.laid (t':=s1.toks) (fun b u e=>Heap.get?_push_of_some _ e) (Nat.le_refl _) ?_,rfl,q _ hf⟩
 exact⟨z,us,0,r,Heap.get?_push_size _ rfl⟩
end
abbrev Sp:=List V→Hp→VK→XK→Prop
abbrev dH:=Option Value→List Env→Hp→Shared→XK→Value→Shared→Prop
structure iS (P:Program) (w:World) (K:PySem.W.Frag) (mg:Str→Option Value) (base:Heap) (A:Around) (outer:List Env) (s:Shared) (H:Hp):Prop where
 frames:A.frames=some outer
 mod:Mod K mg base
 bs:∀b o,base.get? b=some o→s.heap.get? b=some o∧H b=none
 fj:base.objs.size≤s.heap.objs.size
 bY:s.heap.FunFrames base outer
 dU:∀b∈aA outer,H b=none
 ah:bc P w H s.heap
 bare:AllBare s.gens
 hd:bb base A.handled
def CE (outer:List Env) (P:Program) (w:World) (H:Hp) (s:Shared) (Q:VK) (u:Value) (s':Shared):Prop:=
 ∃v H',s'.os=s.os∧AllBare s'.gens∧Un (aA outer) [] H H' s.heap s'.heap∧bc P w H' s'.heap∧RelV v u∧Q v H'
def CR (CX:dH) (hd:Option Value) (outer:List Env) (P:Program) (w:World) (H:Hp) (s:Shared) (Q:VK) (E:XK) (r:Result) (s':Shared):Prop:=
 match r with
 | .ok (.ret u)=>CE outer P w H s Q u s'
 | .ok _=>False
 | .error e=>CX hd outer H s E e s'
structure ar (P:Program) (w:World) (K:PySem.W.Frag) (mg:Str→Option Value) (base:Heap) (CX:dH) (k:Nat) (f:Addr) (fd:FuncData) (ps:List Str) (sp:Sp):Prop where
 len:∀vs H Q E,sp vs H Q E→vs.length=ps.length
 run:∀(A:Around) (outer:List Env) (s:Shared) (H:Hp) (args:Args) (us:List Value) (vs:List V) (Q:VK) (E:XK),aK k A→iS P w K mg base A outer s H→BindsTo s fd args (ps.zip us)→Vals vs us→sp vs H Q E→
  codeAny (model P w) A (.call (.ref f) args) (CR CX A.handled outer P w H s Q E) s
theorem ar.mono {P:Program}{w:World}{K:PySem.W.Frag}{mg:Str→Option Value}{base:Heap}{CX:dH}{j k:Nat}{f:Addr}{fd:FuncData}{ps:List Str}{sp:Sp}(F:ar P w K mg base CX j f fd ps sp) (h:j≤k):
  ar P w K mg base CX k f fd ps sp:=⟨F.len,fun A outer s H args us vs Q E hr=>F.run A outer s H args us vs Q E (hr.mono h)⟩
theorem iS.make {P:Program}{w:World}{K:PySem.W.Frag}{mg:Str→Option Value}{base:Heap}{A:Around}{outer:List Env}{s:Shared}{H:Hp}(e:iS P w K mg base A outer s H) (C:Addr) (us:List Value) (kw:List (Str×Value)):
  iS P w K mg base (A.under (.builtin "type.__call__" ⟨.ref C::us,kw⟩)) outer s H:=⟨by first |exact e.frames |(simpa[Around.under,Code.envs,Code.isFrame,pushEnvs] using e.frames),e.mod,e.bs,e.fj,e.bY,e.dU,e.ah,e.bare,e.hd⟩
section
variable {X:Cx}{pins:List (Addr×Obj)}{σ:St}{H:Hp}{s s':Shared}
theorem Inv.pO (I:Inv X pins σ H s) (hc:X.calm=true):iS X.prog X.w X.K X.mg X.base X.A X.stack s H:=
 ⟨I.ok.frames,I.ok.mod,I.bs,Nat.le_trans I.ok.fj I.sz,I.stack,I.jO,I.ah,I.bare,I.ok.hd hc⟩
theorem Inv.after {Q:VK}{u:Value}(I:Inv X pins σ H s) (h:CE X.stack X.prog X.w H s Q u s'):EP X pins σ Q u s':=by
 obtain⟨v,H',os,bare,un,ah,r,q⟩:=h
 obtain⟨hh,g,d,t,sL⟩:=s'
 obtain rfl:sL=s.os:=os
 exact⟨v,H',I.call (h':=hh) (g':=g) (d':=d) (t':=t) (ch:=[]) un ah bare (fun b z=>absurd z (by simp)),r,q⟩
end
def gp (sp:Sp) (bN:List V) (E:XK) (t:TA):TE:=fun σ H Q=>t σ H fun vs H1=>sp (vs++bN) H1 Q E
def wa (C:Addr) (m:Str) (sp:Sp) (bN:List V) (E:XK) (ta:TE) (t:TA):TE:=fun σ H Q=>ta σ H fun x H1=> ∃a dx fs,x=.ref a∧H1 a=some (.ins C dx fs)∧fs.lookup m=none∧
 t σ H1 fun vs H2=>sp (x::(vs++bN)) H2 Q E
def AJ (C:Addr) (sp:Sp) (bN:List V) (E:XK) (t:TA):TE:=fun σ H Q=>t σ H fun vs H1=> ∀x dx,H1 x=none→H1 dx=none→dx≠x→
 sp (.ref x::(vs++bN)) (upd (upd H1 dx (.own x)) x (.ins C dx [])) (fun v H2=>v=.ae∧Q (.ref x) H2) E
def Binds (K:PySem.W.Frag) (fd:FuncData) (ps:List Str) (ds:List Value):Prop:=
 ∀(s:Shared) (us:List Value),K.In s.heap→(us++ds).length=ps.length→BindsTo s fd ⟨us,[]⟩ (ps.zip (us++ds))
theorem Binds.all {K:PySem.W.Frag}{fd:FuncData}{ps:List Str}(h:∀us:List Value,us.length=ps.length→bindArgs fd ⟨us,[]⟩=pure (ps.zip us)):Binds K fd ps []:=fun s us _ hl=>by
 rw[List.append_nil]at hl ⊢
 exact .of_eq (h us hl)
def Passes (CX:dH) (X:Cx) (E:XK):Prop:=∀(pins:List (Addr×Obj)) (σ:St) (H:Hp) (s:Shared) (e:Value) (s':Shared),Inv X pins σ H s→CX X.A.handled X.stack H s E e s'→X.xe e s'
section
variable {X:Cx}{CX:dH}{k:Nat}{f C:Addr}{fd:FuncData}{ps:List Str}{sp:Sp}{bN:List V}{ds:List Value}{E:XK}{x m:Str}{p pos apos:Pos}{e o:Expr}{es:List Expr}{ta:TE}{t:TA}
theorem Wj {pins:List (Addr×Obj)}{σ:St}{H:Hp}{s:Shared}{Q:VK}{us:List Value}{vs:List V}(F:ar X.prog X.w X.K X.mg X.base CX k f fd ps sp) (hr:aK k X.A) (hb:Binds X.K fd ps ds) (hd:Vals bN ds) (hx:Passes CX X E)
  (I:Inv X pins σ H s) (r:Vals vs us) (h:sp (vs++bN) H Q E) (hc:X.calm=true):wpAny (model X.prog X.w) X.A (call (.ref f) us) (EP X pins σ Q) X.xe s:=by
 have r2:Vals (vs++bN) (us++ds):=r.append hd
 have hl:(us++ds).length=ps.length:=by rw[←r2.length];exact F.len _ _ _ _ h
 refine wpAny_call (codeAny_mono (F.run X.A X.stack s H ⟨us,[]⟩ (us++ds) (vs++bN) Q E hr (I.pO hc) (hb s us I.aW hl) r2 h) fun r s' hq=> ?_)
 cases r with
 |error e=>exact hx pins σ H s e s' I hq
 |ok fl=>
  cases fl with
  |ret u=>exact I.after hq
  |next=>exact False.elim hq
  |brk=>exact False.elim hq
  |cont=>exact False.elim hq
theorem US (F:ar X.prog X.w X.K X.mg X.base CX k f fd ps sp) (hr:aK k X.A) (hg:Gl X x) (hm:X.mg x=some (.ref f)) (hk:PySem.W.keepIn X.K (.ref f)=true) (hb:Binds X.K fd ps ds) (hd:Vals bN ds) (hx:Passes CX X E)
  (ha:PA X (e::es) t) (gg:(x==("__debug__" :Str))=false:=by decide) (he:starEach (e::es) X.env=(false,eval e X.env)::starEach es X.env:=by rfl) (bz:(backTo pos (starEach es X.env)).any (·.1)=false:=by rfl) (hc:X.calm=true:=by rfl):
  PE X (.Call (.Name x p) (e::es) [] pos) (gp sp bN E t):=by
 intro pins s σ H Q I h
 refine wpAny_Call_Name_kw (Yo I hg hm ?_ gg)
 refine PySem.W.callWith_K (h₀:=X.base) I.ok.mod.gU hk (ao (ha pos pins s σ H _ I h) fun us s1 ⟨vs,H1,I1,r,q⟩=> ⟨I1.aW,?_⟩) he bz
 exact Wj F hr hb hd hx I1 r q hc
theorem Im {pl:Sem Bool}(he:PE X o ta) (c:fk X.K C) (hm:Meth X.K C m f) (F:ar X.prog X.w X.K X.mg X.base CX k f fd ps sp) (hr:aK k X.A) (hb:Binds X.K fd ps ds) (hd:Vals bN ds) (hx:Passes CX X E) (ha:PA X (e::es) t)
    (dA:starEach (e::es) X.env=(false,eval e X.env)::starEach es X.env:=by rfl) (bz:(backTo pos (starEach es X.env)).any (·.1)=false:=by rfl)
    (ht:eval (.Call (.Attribute o m apos) (e::es) [] pos) X.env=(do
      let ov ←eval o X.env
      standAt apos.atName
      let (f,first) ←holding [ov] (getMethod ov m pl)
      callWith pos f first (backTo pos (starEach (e::es) X.env)) (backToKw pos (keywordEach [] X.env))):=by rfl) (hc:X.calm=true:=by rfl):
    PE X (.Call (.Attribute o m apos) (e::es) [] pos) (wa C m sp bN E ta t):=by
  intro pins s σ H Q I h
  refine PySem.W.methodCall_KW (pl:=pl) (ao (he pins s σ H _ I h) fun u s1 ⟨x,H1,I1,rx,a,dx,fs,ex,ea,l,q⟩=> ?_) ht
  subst ex
  obtain rfl:u=Value.ref a:=rx
  refine YD I1 ea c hm l ?_
  refine PySem.W.callWith_K (first:=[.ref a]) (h₀:=X.base) I.ok.mod.gU hm.kp (ao (ha pos pins s1 σ H1 _ I1 q) fun us s2 ⟨vs,H2,I2,r,q2⟩=> ⟨I2.aW,?_⟩) dA bz
  exact Wj (us:=.ref a::us) (vs:=.ref a::vs) F hr hb hd hx I2 (.cons rfl r) q2 hc
theorem Ks {pl:Sem Bool}(he:PE X o ta) (c:fk X.K C) (hm:Meth X.K C m f) (F:ar X.prog X.w X.K X.mg X.base CX k f fd ps sp) (hr:aK k X.A) (hb:Binds X.K fd ps ds) (hd:Vals bN ds) (hx:Passes CX X E)
    (ht:eval (.Call (.Attribute o m apos) [] [] pos) X.env=(do
      let ov ←eval o X.env
      standAt apos.atName
      let (f,first) ←holding [ov] (getMethod ov m pl)
      callWith pos f first (backTo pos (starEach [] X.env)) (backToKw pos (keywordEach [] X.env))):=by rfl) (hc:X.calm=true:=by rfl):
    PE X (.Call (.Attribute o m apos) [] [] pos) (wa C m sp bN E ta dZ):=by
  intro pins s σ H Q I h
  refine PySem.W.methodCall_KW (pl:=pl) (ao (he pins s σ H _ I h) fun u s1 ⟨x,H1,I1,rx,a,dx,fs,ex,ea,l,q⟩=> ?_) ht
  subst ex
  obtain rfl:u=Value.ref a:=rx
  refine YD I1 ea c hm l ?_
  exact PySem.W.callWith_K0 (first:=[.ref a]) I1.aW hm.kp (Wj (us:=[.ref a]) (vs:=[.ref a]) F hr hb hd hx I1 (.cons rfl .nil) q hc)
structure Mk (K:PySem.W.Frag) (C f:Addr):Prop where
 makes:PySem.W.makesIn K C=true
 init:PySem.W.findIn K (.ref C) "__init__" =some (some (.ref f))
 fn:PySem.W.isFn K (.ref f)=true
 kp:PySem.W.keepIn K (.ref C)=true
theorem Kx {pins:List (Addr×Obj)}{σ:St}{H:Hp}{s:Shared}{Q:VK}{us:List Value}{vs:List V}(M:Mk X.K C f) (F:ar X.prog X.w X.K X.mg X.base CX k f fd ps sp) (hr:aK (k+1) X.A) (hb:Binds X.K fd ps ds) (hd:Vals bN ds)
  (hx:Passes CX X E) (I:Inv X pins σ H s) (r:Vals vs us)
  (h:∀x dx,H x=none→H dx=none→dx≠x→sp (.ref x::(vs++bN)) (upd (upd H dx (.own x)) x (.ins C dx [])) (fun v H2=>v=.ae∧Q (.ref x) H2) E) (hc:X.calm=true):
  wpAny (model X.prog X.w) X.A (call (.ref C) us) (EP X pins σ Q) X.xe s:=by
 have hq:=h (s.heap.objs.size+1) s.heap.objs.size (I.ah.fresh (Nat.le_succ _)) (I.ah.fresh (Nat.le_refl _)) (Nat.ne_of_lt (Nat.lt_succ_self _))
 have I2:=Inv.made (C:=C) I
 have r2:Vals (V.ref (s.heap.objs.size+1)::(vs++bN)) (Value.ref (s.heap.objs.size+1)::(us++ds)):=.cons rfl (r.append hd)
 have hl:(Value.ref (s.heap.objs.size+1)::us++ds).length=ps.length:=by
  have e:=r2.length
  rw[F.len _ _ _ _ hq]at e
  exact e.symm
 refine wpAny_call (KJ (f:=f) I.aW M.makes M.init (beq_iff_eq.mp M.fn) (codeAny_mono (F.run _ X.stack _ _ ⟨Value.ref (s.heap.objs.size+1)::us,[]⟩ (Value.ref (s.heap.objs.size+1)::(us++ds)) _ _ E (hr.make C us [])
  ((I2.pO hc).make C us []) (hb _ (Value.ref (s.heap.objs.size+1)::us) I2.aW hl) r2 hq) fun r s' l5=> ?_))
 cases r with
 |error e=>exact hx pins σ _ _ e s' I2 l5
 |ok fl=>
  cases fl with
  |ret u=>
   obtain⟨v,H',I3,rv,ev,q3⟩:=I2.after l5
   subst ev
   exact⟨rv,⟨V.ref (s.heap.objs.size+1),H',I3,rfl,q3⟩⟩
  |next=>exact False.elim l5
  |brk=>exact False.elim l5
  |cont=>exact False.elim l5
theorem Kr (M:Mk X.K C f) (F:ar X.prog X.w X.K X.mg X.base CX k f fd ps sp) (hr:aK (k+1) X.A) (hg:Gl X x) (hm:X.mg x=some (.ref C)) (hb:Binds X.K fd ps ds) (hd:Vals bN ds) (hx:Passes CX X E)
  (gg:(x==("__debug__" :Str))=false:=by decide) (hc:X.calm=true:=by rfl):PE X (.Call (.Name x p) [] [] pos) (AJ C sp bN E dZ):=by
 intro pins s σ H Q I h
 refine wpAny_Call_Name_kw (Yo I hg hm ?_ gg)
 exact PySem.W.callWith_K0 I.aW M.kp (Kx (us:=[]) M F hr hb hd hx I .nil h hc)
end
section
variable {X:Cx}{CX:dH}{k:Nat}{f C:Addr}{fd:FuncData}{ps ks:List Str}{sp:Sp}{E:XK}{x m:Str}{p pos apos xw:Pos}{e o:Expr}{es:List Expr}{Lx:List Keyword}{te ta:TE}{t tk:TA}{nm:Option Str}
structure L5 (K:PySem.W.Frag) (fd:FuncData) (ps ks:List Str) (g:List Value→List Value→List Value) (gV:List V→List V→List V):Prop where
 to:∀(s:Shared) (us ws:List Value),K.In s.heap→(g us ws).length=ps.length→BindsTo s fd ⟨us,ks.zip ws⟩ (ps.zip (g us ws))
 rel:∀{vs:List V}{us:List Value}{zs:List V}{ws:List Value},Vals vs us→Vals zs ws→Vals (gV vs zs) (g us ws)
variable {g:List Value→List Value→List Value}{gV:List V→List V→List V}
end
structure aF (N P:List Str) (sc:Scope):Prop where
 kind:sc.kind=.function
 co:sc.isCoroutine=false
 gen:sc.isGenerator=false
 nd:N.Nodup
 pre:N.take P.length=P
 par:∀x∈P,sc.names.lookup x=some .local∨sc.names.lookup x=some .cell
 Ce:∀y∈sc.names,y.2≠.free
theorem Wa {kindOf:Str→Option NameKind}{x:Str} :∀{binds:List (Str×Value)}{m:Str→Option Value},(∀v,(x,v)∉binds)→bindL kindOf binds m x=m x
 | [],_,_=>rfl
 |(n,v)::r,m,h=>by
  unfold bindL
  rw[Wa fun w hw=>h w (List.mem_cons_of_mem _ hw)]
  split
  ·have:x≠n:=by rintro rfl;exact h v List.mem_cons_self
   simp[this]
  ·rfl
theorem We {kindOf:Str→Option NameKind}{x:Str} :∀{binds:List (Str×Value)}{m:Str→Option Value},(∀v,(x,v)∉binds)→bindC kindOf binds m x=m x
 | [],_,_=>rfl
 |(n,v)::r,m,h=>by
  unfold bindC
  rw[We fun w hw=>h w (List.mem_cons_of_mem _ hw)]
  split
  ·rfl
  ·have:x≠n:=by rintro rfl;exact h v List.mem_cons_self
   simp[this]
theorem Wc {kindOf:Str→Option NameKind}{x:Str}{v:Value} :∀{P:List Str}{vs:List Value}{i:Nat}{m:Str→Option Value},P.Nodup→P[i]? =some x→vs[i]? =some v→kindOf x=some .local→
  bindL kindOf (P.zip vs) m x=some v
 | [],_,_,_,_,h,_,_=>by simp at h
 |_::_,[],_,_,_,_,h,_=>by simp at h
 |p::P,w::vs,0,m,nd,h1,h2,hk=>by
  simp at h1 h2;subst h1;subst h2
  show bindL kindOf ((p,w)::P.zip vs) m p=_
  unfold bindL
  rw[Wa fun v hv=> (List.nodup_cons.mp nd).1 (List.of_mem_zip hv).1,if_pos hk]
  simp
 |p::P,w::vs,i+1,m,nd,h1,h2,hk=>by
  show bindL kindOf ((p,w)::P.zip vs) m x=_
  unfold bindL
  exact Wc (i:=i) (List.nodup_cons.mp nd).2 (by simpa using h1) (by simpa using h2) hk
theorem Wf {kindOf:Str→Option NameKind}{x:Str}{v:Value} :∀{P:List Str}{vs:List Value}{i:Nat}{m:Str→Option Value},P.Nodup→P[i]? =some x→vs[i]? =some v→kindOf x≠some .local→
  bindC kindOf (P.zip vs) m x=some v
 | [],_,_,_,_,h,_,_=>by simp at h
 |_::_,[],_,_,_,_,h,_=>by simp at h
 |p::P,w::vs,0,m,nd,h1,h2,hk=>by
  simp at h1 h2;subst h1;subst h2
  show bindC kindOf ((p,w)::P.zip vs) m p=_
  unfold bindC
  rw[We fun v hv=> (List.nodup_cons.mp nd).1 (List.of_mem_zip hv).1,if_neg hk]
  simp
 |p::P,w::vs,i+1,m,nd,h1,h2,hk=>by
  show bindC kindOf ((p,w)::P.zip vs) m x=_
  unfold bindC
  exact Wf (i:=i) (List.nodup_cons.mp nd).2 (by simpa using h1) (by simpa using h2) hk
def start (N:List Str) (vs:List V):St:=vs.map some++List.replicate (N.length - vs.length) none
def bB (CX:dH) (P:Program) (w:World) (K:PySem.W.Frag) (mg:Str→Option Value) (base:Heap) (N:List Str) (qual:Str) (scope:Scope) (f:Addr) (cd:Value) (A:Around) (outer:List Env) (s:Shared) (H:Hp) (E:XK):Cx where
 prog:=P
 w:=w
 K:=K
 mg:=mg
 base:=base
 A:=A.deeper (envOfC qual scope s.heap.objs.size f cd)
 N:=N
 bC:=s
 hX:=H
 env:=envOfC qual scope s.heap.objs.size f cd
 outer:=outer
 stack:=envOfC qual scope s.heap.objs.size f cd::outer
 ex:=[]
 calm:=true
 fn:=fun _=>true
 pn:=[]
 xe:=fun e s'=>wpAny (model P w) (A.deeper (envOfC qual scope s.heap.objs.size f cd)) (leaving (envOfC qual scope s.heap.objs.size f cd) e) (fun _ dc=>CX A.handled outer H s E e dc) (fun e' dc=>CX A.handled outer H s E e' dc) s'
theorem Ua {sc:Scope}{n:Nat}{x:Str}(h:sc.names.lookup x=some .cell):∃c,(cellsFrom n sc.names []).lookup x=some c:=by
 have q:=PySem.W.cellsFrom_some sc.names n [] (.inl h)
 exact Option.isSome_iff_exists.mp q
theorem IK {CX:dH}{P:Program}{w:World}{K:PySem.W.Frag}{mg:Str→Option Value}{base:Heap}{N ps:List Str}{qual:Str}{scope:Scope}{f:Addr}{cd:Value}{A:Around}{outer:List Env}{s s1:Shared}{H:Hp}{E:XK}{us:List Value}{vs:List V}
  (S:aF N ps scope) (hd:bb base A.handled) (e0:iS P w K mg base A outer s H) (hl:vs.length=ps.length) (r:Vals vs us)
  (x:InCallC s s.heap.objs.size (bindL (envOfC qual scope s.heap.objs.size f cd).kindOf (ps.zip us) fun _=>none) (cellsFrom (s.heap.objs.size+1) scope.names []) (bindC (envOfC qual scope s.heap.objs.size f cd).kindOf (ps.zip us) fun _=>none) s1):
  Inv (bB CX P w K mg base N qual scope f cd A outer s H E) [] (start N vs) H s1:=by
 have bz:ps.length≤N.length:=by have:=congrArg List.length S.pre;rw[List.length_take]at this;omega
 obtain⟨h1,tk,rfl,hk⟩:=x.done
 have iu:∀b:Addr,b∉(bB CX P w K mg base N qual scope f cd A outer s H E).ex:=fun b z=>absurd (show b∈([]:List Addr) from z) (by simp)
 refine⟨⟨e0.mod,S.kind,rfl,rfl,Nat.le_refl _,fun y z c h1 h2=> ?_,fun y hy=> ?_,fun y c _ h=> ?_,fun _=>hd,Around.frames_deeper e0.frames,.inr ⟨rfl,rfl⟩,fun b z=>absurd z (iu b),e0.bs,e0.fj,fun b _ _=>iu b,fun b z=>absurd z (iu b),e0.bY,e0.dU⟩,
  rfl,e0.bare,Un.kept hk,⟨_,x.toInCall.ns,fun i y v h1 h2 h3=> ?_⟩,fun y c h=> ⟨_,x.cell y c h⟩,e0.ah.fresh (Nat.le_refl _),fun y c h=> ?_,fun p hp=>absurd (show p∈([]:List (Addr×Obj)) from hp) (by simp),e0.ah.kept hk,?_⟩
 ·exact name_of_addr x.apart (PySem.mem_of_lookup h1) (PySem.mem_of_lookup h2)
 ·have hy:scope.names.lookup y=some .cell∨scope.names.lookup y=some .free:=hy
  rcases hy with hy |hy
  ·exact Ua hy
  ·exact absurd rfl (S.Ce _ (PySem.mem_of_lookup hy))
 ·exact Nat.le_of_lt (x.above y c (PySem.mem_of_lookup h))
 ·have hi:i<vs.length:=by
   unfold start at h2
   by_cases hi:i<vs.length
   ·exact hi
   ·rw[List.getElem?_append_right (by simpa using hi)]at h2
    rw[List.getElem?_replicate]at h2
    split at h2<;>cases h2
  have ha:vs[i]? =some v:=by
   unfold start at h2
   rw[List.getElem?_append_left (by simpa using hi),List.getElem?_map]at h2
   cases e:vs[i]? with
   |none=>rw[e]at h2;cases h2
   |some a=>rw[e]at h2;cases h2;rfl
  obtain⟨u,hu,rv⟩:=r.get ha
  have hp:ps[i]? =some y:=by
   rw[←S.pre,List.getElem?_take_of_lt (by omega)];exact h1
  have xl:ps.Nodup:=by rw[←S.pre];exact S.nd.sublist (List.take_sublist _ _)
  refine⟨u,rv,?_⟩
  rcases S.par y (List.mem_of_getElem? hp) with k |k
  ·exact .inl ⟨k,Wc xl hp hu k⟩
  ·obtain⟨c,e⟩:=Ua (n:=s.heap.objs.size+1) k
   refine .inr ⟨.inl k,c,e,?_⟩
   have q:=x.cell y c e
   rw[Wf xl hp hu (by show scope.names.lookup y≠_;rw[k];decide)]at q
   exact q
 ·exact e0.ah.fresh (Nat.le_of_lt (x.above y c (PySem.mem_of_lookup h)))
 ·unfold start
  show _=N.length
  rw[List.length_append,List.length_map,List.length_replicate]
  omega
theorem U2 {CX:dH}{P:Program}{w:World}{K:PySem.W.Frag}{mg:Str→Option Value}{base:Heap}{k:Nat}{f:Addr}{name qual:Str}{params:Arguments}{body:List Stmt}{scope:Scope}{dV kV doc pm ai ct oc:Value}{an od:Option Addr}
    {ck:Array (Option Value)}{N ps:List Str}{sp:Sp} (lk:K.lookup f=some ⟨oc,od,.func (PySem.W.fnOf name qual params body scope dV kV doc pm an ai ct),ck⟩) (bJ:PySem.W.codeIn K ai qual=true) (S:aF N ps scope)
    (len:∀vs H Q E,sp vs H Q E→vs.length=ps.length)
    (t9:∀(A:Around) (outer:List Env) (s:Shared) (H:Hp) (vs:List V) (Q:VK) (E:XK),aK k (A.deeper (envOfC qual scope s.heap.objs.size f ai))→sp vs H Q E→
      ∃t,cK (bB CX P w K mg base N qual scope f ai A outer s H E) body t∧t {nx:=fun _ H'=>Q .ae H',rt:=Q} (start N vs) H):
    ar P w K mg base CX (k+1) f (PySem.W.fnOf name qual params body scope dV kV doc pm an ai ct) ps sp:=by
  refine⟨len,fun A outer s H args us vs Q E hr e0 hb r bX=> ?_⟩
  have hl:=len _ _ _ _ bX
  have KX:K.In s.heap:=e0.mod.gU.keeps fun b o e=> (e0.bs b o e).1
  have lim:s.heap.NoLimit:=e0.mod.nolimit.keeps fun b o e=> (e0.bs b o e).1
  have DF:∀y∈ps.zip us,scope.names.lookup y.1=some .local∨(scope.names.lookup y.1=some .cell∧((cellsFrom (s.heap.objs.size+1) scope.names []).lookup y.1).isSome=true):=fun⟨n,v⟩ hy=>by
    rcases S.par n (List.of_mem_zip hy).1 with q |q
    · exact .inl q
    · exact .inr ⟨q,PySem.W.cellsFrom_some _ _ _ (.inl q)⟩
  refine codeAny_call_function hr.depth (KX _ _ lk) rfl S.co S.gen rfl (PySem.W.codeRec_of KX bJ) (hb _ _ _ _ ?_)
  refine wpAny_newFunctionEnv_cells S.kind DF fun env he s1 x=> ?_
  subst he
  refine⟨lim.keeps x.toInCall.keep,codeAny_func ?_⟩
  obtain⟨t,ht,hq⟩:=t9 A outer s H vs Q E (hr.deeper _) bX
  have I:Inv (bB CX P w K mg base N qual scope f ai A outer s H E) [] (start N vs) H s1:=IK S e0.hd e0 hl r x
  refine wpAny_mono (ht [] s1 (start N vs) H _ I hq) (fun fl s' hs=> ?_) fun e s' hs=>hs
  have fin:∀{af:St}{H':Hp}{v:V}{u:Value},Inv (bB CX P w K mg base N qual scope f ai A outer s H E) [] af H' s'→RelV v u→Q v H'→CE outer P w H s Q u s':=
    fun {af H' v u} J rv q=> ⟨v,H',J.os,J.bare,J.base,J.ah,rv,q⟩
  cases fl with
  |ret u=>
   obtain⟨v,af,H',J,rv,q⟩:=hs
   exact fin J rv q
  |next=>
   obtain⟨af,H',J,q⟩:=hs
   exact fin (v:=V.ae) (u:=Value.none) J rfl q
  |brk=>
   obtain⟨_,_,_,q⟩:=hs
   exact False.elim q
  |cont=>
   obtain⟨_,_,_,q⟩:=hs
   exact False.elim q
section
variable {X:Cx}{x:Str}{p pos:Pos}{e:Expr}{es:List Expr}{t:TA}{id T:String}{r:List V→Hp→VK→Prop}
def wc (r:List V→Hp→VK→Prop) (t:TA):TE:=fun σ H Q=>t σ H fun vs H1=>r vs H1 Q
theorem Zn (hc:eI X (.builtin id) r) (hg:Gl X x) (hm:X.mg x=none) (hv:bootBuiltins x=some (.builtin id)) (ha:PA X (e::es) t) (hn:x≠ "__name__" :=by decide) (gg:(x==("__debug__" :Str))=false:=by decide)
  (he:starEach (e::es) X.env=(false,eval e X.env)::starEach es X.env:=by rfl) (bz:(backTo pos (starEach es X.env)).any (·.1)=false:=by rfl):PE X (.Call (.Name x p) (e::es) [] pos) (wc r t):=by
 intro pins s σ H Q I h
 refine wpAny_Call_Name_kw (JA I hg hm hv ?_ hn gg)
 exact PyProof.Rows.callWith_builtin1 (ao (ha pos pins s σ H _ I h) fun us s1 ⟨vs,H1,I1,r1,q1⟩=>hc pins s1 σ H1 vs us Q I1 r1 q1) he bz
theorem Zr (hc:eI X (.type T) r) (hg:Gl X x) (hm:X.mg x=none) (hv:bootBuiltins x=some (.type T)) (ha:PA X (e::es) t) (hn:x≠ "__name__" :=by decide) (gg:(x==("__debug__" :Str))=false:=by decide)
  (he:starEach (e::es) X.env=(false,eval e X.env)::starEach es X.env:=by rfl) (bz:(backTo pos (starEach es X.env)).any (·.1)=false:=by rfl):PE X (.Call (.Name x p) (e::es) [] pos) (wc r t):=by
 intro pins s σ H Q I h
 refine wpAny_Call_Name_kw (JA I hg hm hv ?_ hn gg)
 exact PyProof.Rows.callWith_type1 (ao (ha pos pins s σ H _ I h) fun us s1 ⟨vs,H1,I1,r1,q1⟩=>hc pins s1 σ H1 vs us Q I1 r1 q1) he bz
end
end L2
namespace HT
open PySem PyProof.Rows
section
open PySem.SeqAt
open PySem.AutoSeq1 (wpAny_loadPart')
open PySem.MeetsSeq PySem.MeetsSeq2 PySem.MeetsSeq3
end
section
variable {prog:Program}{w:World}{A:Around}{E:Value→Shared→Prop}{s:Shared}
theorem FU {t b:Addr}{vs ws:List Value}{Q:Value→Shared→Prop}(ht:IsTup s.heap t vs.toArray) (hb:IsTup s.heap b ws.toArray) (hv:vs≠[])
  (h1:ws=[]→Q (.ref t) s) (h2:ws≠[]→Q (.ref s.heap.objs.size) {s with heap:=s.heap.push {cls:=.type "tuple",data:=.seq (vs++ws).toArray} })
  (hsz:vs.length+ws.length≤sizeLine):wpAny (model prog w) A (binaryOp .Add (.ref t) (.ref b)) Q E s:=by
 obtain⟨⟨cls,dd,data,sl⟩,ho,hc,n,hd⟩:=id ht
 obtain⟨⟨FT,pR,data2,cQ⟩,gY,dR,n2,hd2⟩:=id hb
 simp only at hc hd dR hd2
 subst hc hd dR hd2
 have e:vs.toArray++ws.toArray=(vs++ws).toArray:=by simp
 by_cases hw:ws=[]
 ·exact concat_meets ⟨_,ho,rfl⟩ ⟨_,gY,rfl⟩ noFill_tuple_add seq_tuple_add PySem.F.slot_tuple_add PySem.F.entry_tuple_add (PySem.F.args_tuple_add_2 _ _)
   (tuple_addW1 t b vs.toArray ws.toArray n n2 dd pR sl cQ (by simpa using hv) (by simp[hw])) ⟨ho,gY,h1 hw⟩
 ·refine concat_meets ⟨_,ho,rfl⟩ ⟨_,gY,rfl⟩ noFill_tuple_add seq_tuple_add PySem.F.slot_tuple_add PySem.F.entry_tuple_add (PySem.F.args_tuple_add_2 _ _)
   (tuple_addW2 t b vs.toArray ws.toArray n n2 dd pR sl cQ (by simpa using hv) (by simpa using hw) (by rw[List.size_toArray,List.size_toArray];exact hsz)) ⟨ho,gY,?_⟩
  rw[e]
  exact h2 hw
def aE (n d:Nat):Option Int→Nat
 |none=>d
 |some v=>if v<0 then (v+(n:Int)).toNat else min v.toNat n
theorem wG (n d:Nat):aE n d none=d:=rfl
theorem oh (n d k:Nat):aE n d (some (k:Int))=min k n:=by
 show(if (k:Int)<0 then ((k:Int)+(n:Int)).toNat else min (k:Int).toNat n)=min k n
 rw[if_neg (by omega),Int.toNat_natCast]
theorem GQ (n d:Nat) (hd:d≤n) (o:Option Int):aE n d o≤n:=by
 cases o with
 |none=>exact hd
 |some v=>
  show(if v<0 then (v+(n:Int)).toNat else min v.toNat n)≤n
  by_cases hv:v<0
  ·rw[if_pos hv];omega
  ·rw[if_neg hv];exact Nat.min_le_right _ _
theorem U6 (v:Int) (n d:Nat):(if v<0 then max (v+(n:Int)) 0 else min v (n:Int))=((aE n d (some v):Nat):Int):=by
 show(if v<0 then max (v+(n:Int)) 0 else min v (n:Int))=(((if v<0 then (v+(n:Int)).toNat else min v.toNat n):Nat):Int)
 by_cases hv:v<0
 ·simp only[if_pos hv];omega
 ·simp only[if_neg hv];omega
theorem UL (lo hi:Option Int) (n:Nat):Builtin.Slice.sliceAdjust lo hi 1 (n:Int)=(((aE n 0 lo:Nat):Int),((aE n n hi:Nat):Int)):=by
 have h1:¬((1:Int)<0):=by omega
 unfold Builtin.Slice.sliceAdjust
 simp only[h1,if_false]
 refine Prod.ext ?_ ?_
 ·cases lo with
  |none=>rfl
  |some v=>exact U6 v n 0
 ·cases hi with
  |none=>rfl
  |some v=>exact U6 v n n
theorem Us (i j:Nat):Builtin.Slice.slicePlaces (i:Int) (j:Int) 1=j - i:=by
 unfold Builtin.Slice.slicePlaces
 have h1:(1:Int)>0:=by omega
 simp only[h1,if_true,Int.ediv_one]
 split<;>omega
theorem Jk {v:Value}{o:Option Int}{Q:Option Int→Shared→Prop}(p:IsPart v o) (h:Q o s):wpAny (model prog w) A (Builtin.Slice.slicePartIndex v) Q E s:=by
 cases p with
 |none=>exact slicePart_none h
 |int i t=>exact slicePart_int h
theorem wx {sl:Addr}{vl vu:Value}{lo hi:Option Int}{n:Nat}{Q:Int×Int×Nat→Shared→Prop}(hs:s.heap.IsSliceOf sl vl vu .none) (pl:IsPart vl lo) (pu:IsPart vu hi)
  (h:Q (((aE n 0 lo:Nat):Int),1,aE n n hi - aE n 0 lo) s):wpAny (model prog w) A (Builtin.Slice.sliceApplied (.ref sl) (pure (n:Int))) Q E s:=by
 obtain⟨os,jg,pC,md⟩:=id hs
 unfold Builtin.Slice.sliceApplied Builtin.Slice.sliceFields
 refine wpAny_bind (wpAny_bind (wpAny_field jg md (x:=vl) rfl (wpAny_bind (wpAny_field jg md (x:=vu) rfl (wpAny_bind (wpAny_field jg md (x:=.none) rfl (wpAny_pure ?_)))))))
 refine wpAny_bind (slicePart_none ?_)
 show wpAny _ _ (if ((1:Int)==0)=true then _ else _) _ _ s
 rw[if_neg (by decide)]
 refine wpAny_bind (Jk pl (wpAny_bind (Jk pu (wpAny_bind (wpAny_pure ?_)))))
 show wpAny _ _ (match Builtin.Slice.sliceAdjust lo hi 1 (n:Int) with |(lo,hi)=>pure (lo,(1:Int),Builtin.Slice.slicePlaces lo hi 1)) _ _ s
 rw[UL lo hi n]
 show wpAny _ _ (pure (((aE n 0 lo:Nat):Int),(1:Int),Builtin.Slice.slicePlaces ((aE n 0 lo:Nat):Int) ((aE n n hi:Nat):Int) 1)) _ _ s
 rw[Us]
 exact wpAny_pure h
theorem Kt (xs:Array Value) (i k:Nat):((List.range k).filterMap fun(m:Nat)=>xs[((i:Int)+(m:Int)*1).toNat]?).toArray=((xs.toList.drop i).take k).toArray:=by
 have e:(fun(m:Nat)=>xs[((i:Int)+(m:Int)*1).toNat]?)=fun m=>xs[i+m]? :=by
  funext m
  have:((i:Int)+(m:Int)*1).toNat=i+m:=by omega
  rw[this]
 rw[e]
 have:=pick_run xs i k
 rw[List.filterMap_map]at this
 have e2:((fun x=>xs[x]?)∘fun x=>i+x)=fun m=>xs[i+m]? :=rfl
 rw[e2]at this
 rw[this]
theorem EL {t sl:Addr}{items:Array Value}{vl vu:Value}{lo hi:Option Int}{Q:Value→Shared→Prop}(ht:IsTup s.heap t items) (hs:s.heap.IsSliceOf sl vl vu .none) (pl:IsPart vl lo) (pu:IsPart vu hi)
  (hw:¬(aE items.size 0 lo=0∧aE items.size items.size hi=items.size))
  (h:Q (.ref s.heap.objs.size) {s with heap:=s.heap.push {cls:=.type "tuple",data:=.seq ((items.toList.drop (aE items.size 0 lo)).take (aE items.size items.size hi - aE items.size 0 lo)).toArray} })
  (hsz:items.size≤sizeLine):wpAny (model prog w) A (getItem (.ref t) (.ref sl)) Q E s:=by
 have oW:sizeOk (.seq ((items.toList.drop (aE items.size 0 lo)).take (aE items.size items.size hi - aE items.size 0 lo)).toArray):=by
  show((items.toList.drop (aE items.size 0 lo)).take (aE items.size items.size hi - aE items.size 0 lo)).toArray.size≤sizeLine
  rw[List.size_toArray,List.length_take,List.length_drop,Array.length_toList]
  omega
 have hj:aE items.size items.size hi≤items.size:=GQ _ _ (Nat.le_refl _) hi
 obtain⟨os,jg,pC,md⟩:=id hs
 have pD:s.TypeIs (.ref sl) "slice" :=⟨os,jg,pC⟩
 unfold getItem
 try with_reducible refine wpAny_holding ?_
 first |refine wpAny_bind (wpAny_pure ?_) |skip
 refine wpAny_bind (wpAny_sequenceKey ht.typeIs (by decide) ?_)
 refine wpAny_bind (wpAny_callSpecial?_slot (name:=Str.ofString "__getitem__") ht.typeIs PyProof.Rows.slot_tuple_getitem
  (wpAny_call_entry PyProof.Rows.slot_tuple_getitem ht.typeIs entry_tuple_getitem ?_ (args_tuple_getitem _ _)))
 show wpAny _ _ (Builtin.Tuple.tupleItemsOf (.ref t) >>=_) _ _ s
 refine wpAny_bind (tupleItemsOf_ ht ?_)
 refine wpAny_bind (wpAny_typeOf pD ?_)
 rw[if_pos (by decide)]
 refine wpAny_bind (wx hs pl pu ?_)
 have Dr:¬((((aE items.size 0 lo:Nat):Int)==0&&(1:Int)==1&&(aE items.size items.size hi - aE items.size 0 lo)==items.size)=true):=by
  intro q
  rw[Bool.and_eq_true,Bool.and_eq_true]at q
  have q1:((aE items.size 0 lo:Nat):Int)=0:=eq_of_beq q.1.1
  have q2:aE items.size items.size hi - aE items.size 0 lo=items.size:=eq_of_beq q.2
  exact hw ⟨by omega,by omega⟩
 show wpAny _ _ (if (((aE items.size 0 lo:Nat):Int)==0&&(1:Int)==1&&(aE items.size items.size hi - aE items.size 0 lo)==items.size)=true then _ else _) _ _ s
 rw[if_neg Dr,Kt]
 first
  |exact wpAny_bind (m:=Builtin.Tuple.tupleExact _) (wpAny_newObj_type (wpAny_pure ⟨_,rfl,wpAny_pure h⟩) oW)
  |exact wpAny_bind (m:=Builtin.Tuple.tupleExact _) (wpAny_newObj_type (wpAny_bind (wpAny_pure (wpAny_pure ⟨_,rfl,wpAny_pure h⟩))) oW)
  |exact wpAny_bind (wpAny_bind (m:=Builtin.Tuple.tupleExact _) (wpAny_newObj_type (wpAny_pure (wpAny_pure ⟨_,rfl,wpAny_pure h⟩)) oW))
  |exact wpAny_bind (wpAny_bind (m:=Builtin.Tuple.tupleExact _) (wpAny_newObj_type (wpAny_pure ⟨_,rfl,wpAny_pure h⟩) oW))
end
end HT
namespace L2
open PySem PySem.Spec PyProof.Rows
abbrev TO:=St→Hp→(Option Int→Hp→Prop)→Prop
def PO (X:Cx) (e:Option Expr) (t:TO):Prop:=
 ∀(pins:List (Addr×Obj)) (s:Shared) (σ:St) (H:Hp) (Q:Option Int→Hp→Prop),Inv X pins σ H s→t σ H Q→
  wpAny (model X.prog X.w) X.A (evalPart e X.env) (fun u s'=> ∃o H',Inv X pins σ H' s'∧IsPart u o∧Q o H') X.xe s
def AH:TO:=fun _ H Q=>Q none H
def Ay (t:TE):TO:=fun σ H Q=>t σ H fun x H1=> ∃i,x=.int i∧Q (some i) H1
theorem UF {ns:List Int} :∀{us:List Value},Vals (ns.map V.int) us→IntsAre us ns:=by
 induction ns with
 |nil=>intro us r;rw[List.map_nil]at r;cases r;exact .nil
 |cons n ns ih=>
  intro us r
  rw[List.map_cons]at r
  cases r with
  |cons r1 r2=>
   obtain⟨t,e⟩:=r1
   subst e
   exact .cons n t (ih r2)
section
variable {X:Cx}{e:Expr}{te:TE}{lo hi:Option Expr}{tl th:TO}{pos p2:Pos}
theorem Jd:PO X none AH:=by
 intro pins s σ H Q I h
 rw[evalPart_none]
 exact wpAny_pure ⟨none,H,I,.none,h⟩
theorem Jc (h:PE X e te):PO X (some e) (Ay te):=by
 intro pins s σ H Q I hw
 rw[evalPart_some]
 refine ao (h pins s σ H _ I hw) fun u s1 ⟨x,H1,I1,r1,q1⟩=> ?_
 obtain⟨i,rfl,q⟩:=q1
 obtain⟨t,rfl⟩:=r1
 exact⟨some i,H1,I1,.int i t,q⟩
def vo (X:Cx) (r:V→Option Int→Option Int→Hp→VK→Prop):Prop:=
 ∀(pins:List (Addr×Obj)) (s:Shared) (σ:St) (H:Hp) (x:V) (v vl vu:Value) (lo hi:Option Int) (sl:Addr) (Q:VK),Inv X pins σ H s→RelV x v→s.heap.IsSliceOf sl vl vu .none→IsPart vl lo→IsPart vu hi→r x lo hi H Q→
  ∃T id,typeLookup (.type T) "__getitem__" =pure (some (.builtin id))∧s.TypeIs v T∧wpAny (model X.prog X.w) X.A (getItem v (.ref sl)) (EP X pins σ Q) X.xe s
def Av (r:V→Option Int→Option Int→Hp→VK→Prop) (te:TE) (tl th:TO):TE:=fun σ H Q=>te σ H fun x H1=>tl σ H1 fun l H2=>th σ H2 fun u H3=>r x l u H3 Q
theorem YK {r:V→Option Int→Option Int→Hp→VK→Prop}(hr:vo X r) (he:PE X e te) (hl:PO X lo tl) (hu:PO X hi th):PE X (.Subscript e (.Slice lo hi none p2) pos) (Av r te tl th):=by
 intro pins s σ H Q I h
 refine Subscript_ (ao (he pins s σ H _ I h) fun v s1 ⟨x,H1,I1,r1,q1⟩=> ?_)
 refine wpAny_Slice (ao (hl pins s1 σ H1 _ I1 q1) fun vl s2 ⟨l,H2,I2,pl,q2⟩=>ao (hu pins s2 σ H2 _ I2 q2) fun vu s3 ⟨u,H3,I3,pu,q3⟩=> ?_)
 rw[evalPart_none]
 refine wpAny_pure ?_
 have I4:Inv X pins σ H3 {s3 with heap:=s3.heap.push {cls:=.type "slice",data:=.fields #[vl,vu,.none]} } :=I3.kept (t':=s3.toks) fun b ob q=>Heap.get?_push_of_some _ q
 obtain⟨T,id,hT,ht,hg⟩:=hr pins {s3 with heap:=s3.heap.push {cls:=.type "slice",data:=.fields #[vl,vu,.none]} } σ H3 x v vl vu l u s3.heap.objs.size Q I4 r1 (Heap.IsSliceOf.new ..) pl pu q3
 show wpAny (model X.prog X.w) X.A (subscriptTail e (.Slice lo hi none p2) v (.ref s3.heap.objs.size)) (EP X pins σ Q) X.xe {s3 with heap:=s3.heap.push {cls:=.type "slice",data:=.fields #[vl,vu,.none]} }
 exact tail_any (ops:=[.ref s3.heap.objs.size,v]) ht hT hg (by with_unfolding_all rfl)
def cW (xs:List V) (lo hi:Option Int):List V:=(xs.drop (HT.aE xs.length 0 lo)).take (HT.aE xs.length xs.length hi - HT.aE xs.length 0 lo)
theorem W6 (xs:List V) (lo hi:Option Int):(cW xs lo hi).length≤xs.length:=by
 unfold cW
 rw[List.length_take,List.length_drop]
 omega
def BK (K:PySem.W.Frag):V→Option Int→Option Int→Hp→VK→Prop:=fun x lo hi H Q=> ∃a xs,x=.ref a∧au K H a xs∧
 ¬(HT.aE xs.length 0 lo=0∧HT.aE xs.length xs.length hi=xs.length)∧∀p,H p=none→Q (.ref p) (upd H p (.tup (cW xs lo hi)))
theorem Ul:vo X (BK X.K):=by
 intro pins s σ H x v vl vu lo hi sl Q I rx hs pl pu h
 obtain⟨a,xs,rfl,hx,hw,q⟩:=h
 cases rx
 obtain⟨aa,r,ht,hz⟩:=I.tuple hx
 have hlen:aa.toArray.size=xs.length:=by rw[List.size_toArray];exact r.length.symm
 refine⟨"tuple",_,PyProof.Rows.slot_tuple_getitem.lookup,ht.typeIs,?_⟩
 refine HT.EL ht hs pl pu (by rw[hlen];exact hw) ?_ (by rw[hlen];exact hz)
 rw[hlen]
 refine⟨.ref s.heap.objs.size,_,I.laid (t':=s.toks) (o:=.tup (cW xs lo hi)) (fun b ob q=>Heap.get?_push_of_some _ q) (Nat.le_refl _) ?_,rfl,q _ (I.ah.fresh (Nat.le_refl _))⟩
 exact⟨Nat.le_trans (W6 xs lo hi) hz,_,(r.drop (HT.aE xs.length 0 lo)).take (HT.aE xs.length xs.length hi - HT.aE xs.length 0 lo),IsTup.new _ _,_,Heap.get?_push_size _ rfl,rfl⟩
def wO (K:PySem.W.Frag):R2:=fun x y H Q=> ∃a b xs ys,x=.ref a∧y=.ref b∧au K H a xs∧au K H b ys∧xs≠[]∧xs.length+ys.length≤sizeLine∧
 (ys=[]→Q (.ref a) H)∧(ys≠[]→∀p,H p=none→Q (.ref p) (upd H p (.tup (xs++ys))))
theorem Vals.sP {xs:List V}{us:List Value}(r:Vals xs us):us=[]↔xs=[]:=by
 cases r with
 |nil=>simp
 |cons _ _=>simp
theorem Ij:aZ X (binaryOp .Add) (wO X.K):=by
 intro pins s σ H x y v u Q I rx ry h
 obtain⟨a,b,xs,ys,rfl,rfl,ha,hb,hx,hz,q1,q2⟩:=h
 cases rx
 cases ry
 obtain⟨aa,r1,p1,_⟩:=I.tuple ha
 obtain⟨jb,r2,p2,_⟩:=I.tuple hb
 refine HT.FU p1 p2 (fun z=>hx (r1.sP.mp z)) (fun z=> ⟨.ref a,H,I,rfl,q1 (r2.sP.mp z)⟩) (fun z=> ?_) (by rw[←r1.length,←r2.length];exact hz)
 refine⟨.ref s.heap.objs.size,_,I.laid (t':=s.toks) (o:=.tup (xs++ys)) (fun b ob q=>Heap.get?_push_of_some _ q) (Nat.le_refl _) ?_,rfl,q2 (fun w=>z (r2.sP.mpr w)) _ (I.ah.fresh (Nat.le_refl _))⟩
 exact⟨by rw[List.length_append];exact hz,_,r1.append r2,IsTup.new _ _,_,Heap.get?_push_size _ rfl,rfl⟩
end
def fY (n:Nat) (i:Int):Option Nat:=if 0≤i then (if i<n then some i.toNat else none) else if -(n:Int)≤i then some (i+n).toNat else none
def dW {α:Type} (xs:List α) (i:Int):Option α:=(fY xs.length i).bind fun j=>xs[j]?
theorem Ww {n:Nat}{i:Int}{j:Nat}(h:fY n i=some j):seqIndex? i n=some j∧j<n∧ -(n:Int)≤i∧i<n:=by
 unfold fY at h
 by_cases h0:0≤i
 ·rw[if_pos h0]at h
  by_cases h1:i<n
  ·rw[if_pos h1]at h
   have e:i.toNat=j:=Option.some.inj h
   exact⟨by rw[seqIndex_of h0 h1,e],by omega,by omega,h1⟩
  ·rw[if_neg h1]at h;cases h
 ·rw[if_neg h0]at h
  by_cases h1: -(n:Int)≤i
  ·rw[if_pos h1]at h
   have e:(i+n).toNat=j:=Option.some.inj h
   exact⟨by rw[seqIndex_neg (by omega) h1,e],by omega,h1,by omega⟩
  ·rw[if_neg h1]at h;cases h
theorem U8 {α:Type}{xs:List α}{i:Int}{v:α}(h:dW xs i=some v):∃j,seqIndex? i xs.length=some j∧xs[j]? =some v∧j<xs.length∧ -(xs.length:Int)≤i∧i<xs.length:=by
 unfold dW at h
 cases e:fY xs.length i with
 |none=>rw[e]at h;cases h
 |some j=>
  rw[e]at h
  obtain⟨h1,h2,h3,h4⟩:=Ww e
  exact⟨j,h1,h,h2,h3,h4⟩
theorem YT {α:Type}{xs:List α}{j:Nat}{v:α}(h:xs[j]? =some v):dW xs (j:Int)=some v:=by
 have hj:j<xs.length:=(List.getElem?_eq_some_iff.mp h).1
 have e:fY xs.length (j:Int)=some j:=by
  unfold fY
  rw[if_pos (by omega),if_pos (by omega)];simp
 unfold dW;rw[e];exact h
theorem Ue {α:Type}(xs:List α) (v:α):dW (xs++[v]) (-1)=some v:=by
 have hl:(xs++[v]).length=xs.length+1:=by simp
 have e:fY (xs++[v]).length (-1)=some xs.length:=by
  unfold fY
  rw[hl,if_neg (by decide),if_pos (by omega)]
  congr 1
  omega
 unfold dW
 rw[e]
 show(xs++[v])[xs.length]? =some v
 simp
def KZ (b:Expr):Prop:=∀o i,subscripted b false o i=operate [o,i] (getItem o i)
def jE (X:Cx) (r:R2):Prop:=
 ∀(value slice:Expr) (pins:List (Addr×Obj)) (s:Shared) (σ:St) (H:Hp) (x y:V) (v u:Value) (Q:VK),Inv X pins σ H s→RelV x v→RelV y u→r x y H Q→
  subscripted slice false v u=operate [v,u] (getItem v u)→wpAny (model X.prog X.w) X.A (subscriptTail value slice v u) (EP X pins σ Q) X.xe s
def zL (X:Cx) (id:String) (r:V→List V→Hp→VK→Prop):Prop:=
 ∀(pins:List (Addr×Obj)) (s:Shared) (σ:St) (H:Hp) (x:V) (xs:List V) (v:Value) (us:List Value) (Q:VK),Inv X pins σ H s→RelV x v→Vals xs us→r x xs H Q→
  wpAny (model X.prog X.w) X.A (call (.builtin id) (v::us)) (EP X pins σ Q) X.xe s
section
variable {X:Cx}{a b:Expr}{ta tb:TE}{pos:Pos}
theorem Zz {r:R2}(hr:jE X r) (ha:PE X a ta) (hb:PE X b tb) (hs:KZ b):PE X (.Subscript a b pos) (jN r ta tb):=by
 intro pins s σ H Q I h
 exact Subscript_ (uW ha hb I h fun v u s2 x y H2 I2 rx ry q=>hr a b pins s2 σ H2 x y v u Q I2 rx ry q (hs _ _))
def wN (K:PySem.W.Frag):R2:=fun x y H Q=> ∃p xs i v,x=.ref p∧y=.int i∧ak K H p xs∧dW xs i=some v∧Q v H
def oz (K:PySem.W.Frag):R2:=fun x y H Q=> ∃p xs i v,x=.ref p∧y=.int i∧au K H p xs∧dW xs i=some v∧Q v H
theorem ZM:jE X (wN X.K):=by
 intro value slice pins s σ H x y v u Q I rx ry h hs
 obtain⟨p,xs,i,z,rfl,rfl,hq,he,q⟩:=h
 cases rx
 obtain⟨t,rfl⟩:=ry
 obtain⟨aa,r,pl,hz⟩:=I.list hq
 obtain⟨j,h1,h2,h3,h4,h5⟩:=U8 he
 obtain⟨w,ew,eO⟩:=r.get h2
 have hl:=r.length
 have hn:=oH
 have fin:EP X pins σ Q w s:=⟨z,H,I,eO,q⟩
 by_cases h0:0≤i
 ·have hj:i.toNat=j:=by
   rw[seqIndex_of h0 h5]at h1
   exact Option.some.inj h1
  exact item_listR pl.isList h0 (by omega) (by rw[hj];simpa using ew) fin hs
 ·have hj:(i+(aa.toArray.size:Int)).toNat=j:=by
   rw[seqIndex_neg (by omega) h4]at h1
   rw[List.size_toArray,←hl]
   exact Option.some.inj h1
  exact subscriptTail_builtinR (x:=w) pl.isList.typeIs slot_list_getitem.lookup
   (wpAny_getItem_list_neg (Q:=fun r s'=>r=w∧EP X pins σ Q r s') pl.isList (by omega) (by rw[List.size_toArray]<;>omega) (by omega) (by rw[hj];simpa using ew) ⟨rfl,fin⟩) hs
theorem ZI:jE X (oz X.K):=by
 intro value slice pins s σ H x y v u Q I rx ry h hs
 obtain⟨p,xs,i,z,rfl,rfl,hq,he,q⟩:=h
 cases rx
 obtain⟨t,rfl⟩:=ry
 obtain⟨aa,r,pl,hz⟩:=I.tuple hq
 obtain⟨j,h1,h2,h3,h4,h5⟩:=U8 he
 obtain⟨w,ew,eO⟩:=r.get h2
 have hl:=r.length
 have hn:=oH
 have fin:EP X pins σ Q w s:=⟨z,H,I,eO,q⟩
 exact subscriptTail_builtinR (x:=w) pl.typeIs slot_tuple_getitem.lookup
  (getItem_tuple (j:=j) (Q:=fun r s'=>r=w∧EP X pins σ Q r s') pl (by omega) (by omega) (by rw[List.size_toArray,←hl];exact h1) (by simpa using ew) ⟨rfl,fin⟩) hs
theorem Uz (aa:List Value) (n j:Nat) (u:Value):Obj.mapSeq (·.setIfInBounds j u) {cls:=.type "list",data:=.seq aa.toArray n} = {cls:=.type "list",data:=.seq (aa.set j u).toArray n} :=by
 simp[Obj.mapSeq]
theorem Inv.lst {pins:List (Addr×Obj)}{σ:St}{H:Hp}{s:Shared}{p:Addr}{xs:List V}(I:Inv X pins σ H s) (h:H p=some (.lst xs)):
  ∃(aa:List Value) (n:Nat),Vals xs aa∧s.heap.get? p=some {cls:=.type "list",data:=.seq aa.toArray n}∧xs.length≤sizeLine:=by
 obtain⟨z,aa,n,r,e⟩:=I.ah p _ h
 exact⟨aa,n,r,e,z⟩
theorem Inv.Cz {pins:List (Addr×Obj)}{σ:St}{H:Hp}{s:Shared}{p:Addr}{xs ys:List V}{aa its':List Value}{n n':Nat}{f:Obj→Obj}(I:Inv X pins σ H s) (h:H p=some (.lst xs))
  (ho:s.heap.get? p=some {cls:=.type "list",data:=.seq aa.toArray n}) (hf:f {cls:=.type "list",data:=.seq aa.toArray n} = {cls:=.type "list",data:=.seq its'.toArray n'}) (r:Vals ys its') (hz:ys.length≤sizeLine) (t:Nat):
  Inv X pins σ (upd H p (.lst ys)) {s with heap:=s.heap.update p f,toks:=t} :=by
 have e:(s.heap.update p f).get? p=some {cls:=.type "list",data:=.seq its'.toArray n'} :=by
  rw[Heap.get?_update_self f ho (by rw[hf]<;>rfl),hf]
 refine I.write (x:=p) (e:=p) (by rw[h];trivial) (.inl rfl) (fun b u hb q=> (Heap.get?_update_other _ _ (Ne.symm hb)).trans q) ⟨_,e⟩ ?_
 exact⟨hz,its',n',r,e⟩
def BN:V→V→V→Hp→(Hp→Prop)→Prop:=fun o i v H Q=> ∃p xs k j,o=.ref p∧i=.int k∧H p=some (.lst xs)∧fY xs.length k=some j∧Q (upd H p (.lst (xs.set j v)))
theorem WD:zI X BN:=by
 intro pins s σ H o i v ov iv u Q I ro ri rv h
 obtain⟨p,xs,k,j,rfl,rfl,hp,hj,q⟩:=h
 cases ro
 obtain⟨t,rfl⟩:=ri
 obtain⟨aa,n,r,ho,hz⟩:=I.lst hp
 obtain⟨h1,h2,h3,h4⟩:=Ww hj
 have hl:=r.length
 have hn:=oH
 have I':Inv X pins σ (upd H p (.lst (xs.set j v))) {s with heap:=s.heap.update p (Obj.mapSeq (·.setIfInBounds j u))} :=
  I.Cz hp ho (Uz aa n j u) (r.set rv j) (by rw[List.length_set];exact hz) s.toks
 by_cases h0:0≤k
 ·have hk:k.toNat=j:=by
   rw[seqIndex_of h0 h4]at h1
   exact Option.some.inj h1
  exact PySem.W.ki_setAt ho h0 (by omega) (by rw[List.size_toArray,←hl];exact h4) (by rw[hk];exact⟨_,I',q⟩)
 ·have hk:(k+(aa.toArray.size:Int)).toNat=j:=by
   rw[seqIndex_neg (by omega) h3]at h1
   rw[List.size_toArray,←hl]
   exact Option.some.inj h1
  exact PySem.W.ki_setBack ho (by omega) (by rw[List.size_toArray,←hl];exact h3) (by omega) (by rw[hk];exact⟨_,I',q⟩)
def gE:V→Bool
 | .ae=>true
 | .bl _=>true
 | .int _=>true
 | .str _=>true
 |_=>false
def gj:V→V→Bool
 | .ae,.ae=>true
 | .bl a,.bl b=>a==b
 | .bl a,.int b=> (if a then 1 else 0)==b
 | .int a,.bl b=>a==(if b then 1 else 0)
 | .int a,.int b=>a==b
 | .str a,.str b=>a==b
 |_,_=>false
theorem G7 {A:Around}{s:Shared}{y x:V}{u v:Value}(ry:RelV y u) (rx:RelV x v) (fy:gE y=true) (fx:gE x=true):SeqAt.EqAt A s u v (gj y x):=by
 cases y with
 |ae=>
  cases ry
  cases x with
  |ae=>cases rx;exact SeqAt.EqAt.same _
  |bl b=>cases rx;exact SeqAt.EqAt.none_bool b
  |int b=>obtain⟨t,rfl⟩:=rx;exact SeqAt.EqAt.none_int b t
  |str b=>obtain⟨t,rfl⟩:=rx;exact SeqAt.EqAt.none_str b t
  |_=>exact absurd (show false=true from fx) Bool.false_ne_true
 |bl a=>
  cases ry
  cases x with
  |ae=>cases rx;exact SeqAt.EqAt.bool_none a
  |bl b=>cases rx;exact SeqAt.EqAt.bool_bool a b
  |int b=>obtain⟨t,rfl⟩:=rx;exact SeqAt.EqAt.bool_int a b t
  |str b=>obtain⟨t,rfl⟩:=rx;exact SeqAt.EqAt.bool_str a b t
  |_=>exact absurd (show false=true from fx) Bool.false_ne_true
 |int a=>
  obtain⟨t',rfl⟩:=ry
  cases x with
  |ae=>cases rx;exact SeqAt.EqAt.int_none a t'
  |bl b=>cases rx;exact SeqAt.EqAt.int_bool a t' b
  |int b=>obtain⟨t,rfl⟩:=rx;exact SeqAt.EqAt.int_int a t' b t
  |str b=>obtain⟨t,rfl⟩:=rx;exact SeqAt.EqAt.int_str a t' b t
  |_=>exact absurd (show false=true from fx) Bool.false_ne_true
 |str a=>
  obtain⟨t',rfl⟩:=ry
  cases x with
  |ae=>cases rx;exact SeqAt.EqAt.str_none a t'
  |bl b=>cases rx;exact SeqAt.EqAt.str_bool a t' b
  |int b=>obtain⟨t,rfl⟩:=rx;exact SeqAt.EqAt.str_int a t' b t
  |str b=>obtain⟨t,rfl⟩:=rx;exact SeqAt.EqAt.str_str a t' b t
  |_=>exact absurd (show false=true from fx) Bool.false_ne_true
 |_=>exact absurd (show false=true from fy) Bool.false_ne_true
def hG (x:V) (u:Value):Bool:=match u with
 | .none=>gj .ae x
 | .bool b=>gj (.bl b) x
 | .int i _=>gj (.int i) x
 | .str z _=>gj (.str z) x
 |_=>false
theorem zh {x y:V}{u:Value}(r:RelV y u) (f:gE y=true):hG x u=gj y x:=by
 cases y with
 |ae=>cases r;rfl
 |bl b=>cases r;rfl
 |int i=>obtain⟨t,rfl⟩:=r;rfl
 |str z=>obtain⟨t,rfl⟩:=r;rfl
 |_=>exact absurd (show false=true from f) Bool.false_ne_true
theorem Wz {x:V} :∀{xs:List V}{us:List Value},Vals xs us→xs.all gE=true→us.any (hG x)=xs.any fun y=>gj y x
 |_,_,.nil,_=>rfl
 |y::xs,u::us,.cons r t,f=>by
  rw[List.all_cons,Bool.and_eq_true]at f
  rw[List.any_cons,List.any_cons,zh r f.1,Wz t f.2]
theorem Jy {A:Around}{s:Shared}{x:V}{v:Value}(rx:RelV x v) (fx:gE x=true):∀{xs:List V}{us:List Value},Vals xs us→xs.all gE=true→∀u∈us,SeqAt.EqAt A s u v (hG x u)
 |_,_,.nil,_=>fun u hu=>by cases hu
 |y::xs,u::us,.cons r t,f=>fun u' hu=>by
  rw[List.all_cons,Bool.and_eq_true]at f
  rcases List.mem_cons.mp hu with rfl |hu
  ·rw[zh r f.1];exact G7 r rx f.1 fx
  ·exact Jy rx fx t f.2 u' hu
def dy (x:V) (xs:List V):Bool:=xs.any fun y=>gj y x
def BV (K:PySem.W.Frag) (neg:Bool):R2:=fun x y H Q=> ∃p xs,y=.ref p∧(ak K H p xs∨au K H p xs)∧gE x=true∧xs.all gE=true∧Q (.bl (if neg then !dy x xs else dy x xs)) H
theorem JV:aZ X (compareOp .In) (BV X.K false):=by
 intro pins s σ H x y v u Q I rx ry h
 obtain⟨p,xs,rfl,hq,fx,fs,q⟩:=h
 cases ry
 rcases hq with hq |hq
 ·obtain⟨aa,r,pl,hz⟩:=I.list hq
  refine SeqAt.in_listAt (hG x) pl.isList (fun w hw=>Jy rx fx r fs w (by simpa using hw)) ⟨.bl _,H,I,rfl,?_⟩
  rw[show aa.toArray.any (hG x)=aa.any (hG x) by simp,Wz r fs]
  exact q
 ·obtain⟨aa,r,pl,hz⟩:=I.tuple hq
  refine SeqAt.in_tupleAt (hG x) pl (fun w hw=>Jy rx fx r fs w (by simpa using hw)) ⟨.bl _,H,I,rfl,?_⟩
  rw[show aa.toArray.any (hG x)=aa.any (hG x) by simp,Wz r fs]
  exact q
theorem ZD:eI X (.builtin "len") (fun xs H Q=> ∃p ys,xs=[.ref p]∧(ak X.K H p ys∨au X.K H p ys)∧Q (.int ys.length) H):=by
 intro pins s σ H xs us Q I r h
 obtain⟨p,ys,rfl,hq,q⟩:=h
 obtain⟨u,rfl,rx⟩:=vals1 r
 cases rx
 have hn:=oH
 rcases hq with hq |hq
 ·obtain⟨aa,r',pl,hz⟩:=I.list hq
  have hlen:=r'.length
  exact Calls.call_len_list pl.isList (by simp only[List.size_toArray]<;>omega) ⟨.int ys.length,H,I.tok _,⟨s.toks+1,by rw[List.size_toArray,hlen]⟩,q⟩
 ·obtain⟨aa,r',pl,hz⟩:=I.tuple hq
  have hlen:=r'.length
  exact len_tuple pl (by simp only[List.size_toArray]<;>omega) ⟨.int ys.length,H,I.tok _,⟨s.toks+1,by rw[List.size_toArray,hlen]⟩,q⟩
theorem Yx:eI X (.type "tuple") (fun xs H Q=> ∃p ys,xs=[.ref p]∧((ak X.K H p ys∧∀l,H l=none→Q (.ref l) (upd H l (.tup ys)))∨(au X.K H p ys∧Q (.ref p) H))):=by
 intro pins s σ H xs us Q I r h
 obtain⟨p,ys,rfl,h⟩:=h
 obtain⟨u,rfl,rx⟩:=vals1 r
 cases rx
 rcases h with ⟨hq,q⟩ |⟨hq,q⟩
 ·obtain⟨aa,r',pl,hz⟩:=I.list hq
  have hlen:=r'.length
  refine call_tuple_list pl.isList (fun h' kp=> ?_) (by simp only[List.size_toArray]<;>omega)
  have I1:Inv X pins σ H {s with heap:=h'} :=I.kept (t':=s.toks) kp
  have I2:Inv X pins σ (upd H h'.objs.size (.tup ys)) {s with heap:=h'.push {cls:=.type "tuple",data:=.seq aa.toArray} } :=
   I1.laid (t':=s.toks) (fun b o e=>Heap.get?_push_of_some _ e) (Nat.le_refl _) (show bq X.prog X.w _ _ _ (.tup ys) from ⟨hz,aa,r',IsTup.new _ _,_,Heap.get?_push_size _ rfl,rfl⟩)
  exact⟨.ref h'.objs.size,_,I2,rfl,q _ (I1.ah.fresh (Nat.le_refl _))⟩
 ·obtain⟨aa,r',pl,hz⟩:=I.tuple hq
  exact call_tuple_same pl ⟨.ref p,H,I,rfl,q⟩
def qr (K:PySem.W.Frag) (T:String) (x:V) (H:Hp):Prop:=match x with
 | .str _=>T= "str"
 | .int _=>T= "int"
 | .ref p=> (T= "list" ∧∃xs,ak K H p xs)∨(T= "tuple" ∧((∃o,K.lookup p=some o∧o.cls=.type "tuple" ∧o.dict=none)∨∃xs,H p=some (.tup xs)))∨
   (T= "dict" ∧((∃ag,H p=some (.dK ag))∨∃ag,H p=some (.dT ag)))∨(T= "set" ∧∃S n,H p=some (.set S n))
 |_=>False
theorem zw {pins:List (Addr×Obj)}{σ:St}{H:Hp}{s:Shared}{T:String}{x:V}{v:Value}(I:Inv X pins σ H s) (r:RelV x v) (ty:qr X.K T x H):
  s.TypeIs v T∧∀a,v=.ref a→∃ob,s.heap.get? a=some ob∧ob.dict=none:=by
 cases x with
 |str z=>
  obtain⟨t,rfl⟩:=r
  cases (show T= "str" from ty)
  exact⟨typeIs_str s z t,fun _ e=>nomatch e⟩
 |int i=>
  obtain⟨t,rfl⟩:=r
  cases (show T= "int" from ty)
  exact⟨typeIs_int s i t,fun _ e=>nomatch e⟩
 |ref p=>
  cases r
  rcases ty with ⟨rfl,xs,hq⟩ |⟨rfl,⟨o,hk,hc,hd⟩ |⟨xs,hx⟩⟩ |⟨rfl,hk⟩ |⟨rfl,S,n,hk⟩
  ·obtain⟨aa,_,pl,_⟩:=I.list hq
   refine⟨pl.isList.typeIs,fun a e=> ?_⟩
   cases e
   obtain⟨o,n,e,c,hd,_⟩:=pl
   exact⟨o,e,hd⟩
  ·refine⟨⟨o,I.aW p o hk,hc⟩,fun a e=> ?_⟩
   cases e
   exact⟨o,I.aW _ o hk,hd⟩
  ·obtain⟨_,_,_,⟨o,e,c,_⟩,o2,e2,hd⟩:=(show bq X.prog X.w H s.heap p (.tup xs) from I.ah p _ hx)
   refine⟨⟨o,e,c⟩,fun a e3=> ?_⟩
   cases e3
   exact⟨o2,e2,hd⟩
  ·have z:∃o,s.heap.get? p=some o∧o.ExactDict:=by
    rcases hk with ⟨ag,hk⟩ |⟨ag,hk⟩
    ·obtain⟨_,_,_,_,o,_,_,e,ex,_⟩:=I.ah p _ hk
     exact⟨o,e,ex⟩
    ·obtain⟨_,_,_,_,o,_,_,e,ex,_⟩:=I.ah p _ hk
     exact⟨o,e,ex⟩
   obtain⟨o,e,ex⟩:=z
   refine⟨⟨o,e,ex.1⟩,fun a e2=> ?_⟩
   cases e2
   exact⟨o,e,ex.2.1⟩
  ·obtain⟨o,_,_,_,e,ex,_⟩:=I.ah p _ hk
   refine⟨⟨o,e,ex.1⟩,fun a e2=> ?_⟩
   cases e2
   exact⟨o,e,ex.2.1⟩
 |_=>exact False.elim ty
def A1 (K:PySem.W.Frag) (T:String) (r:V→List V→Hp→VK→Prop) (to:TE):TE:=fun σ H Q=>to σ H fun x H1=>qr K T x H1∧r x [] H1 Q
def we (K:PySem.W.Frag) (T:String) (r:V→List V→Hp→VK→Prop) (to:TE) (t:TA):TE:=fun σ H Q=>to σ H fun x H1=>qr K T x H1∧t σ H1 fun xs H2=>r x xs H2 Q
variable {o e:Expr}{es:List Expr}{to:TE}{t:TA}{name:Str}{apos aY:Pos}{T id:String}{r:V→List V→Hp→VK→Prop}
theorem GF (pa:PlainAttrs T) (slot:Slot T name id) (tm:typeOf (.builtin id)=pure (.type "method_descriptor")) (hm:zL X id r) (ho:PE X o to)
  (iF:attributeBase o name X.env (eval o X.env)=eval o X.env:=by rfl) (tN:(apos.endLine==aY.line)=true:=by rfl):PE X (.Call (.Attribute o name apos) [] [] aY) (A1 X.K T r to):=by
 intro pins s σ H Q I h
 refine wpAny_Call_method0_late iF tN (ao (ho pins s σ H _ I h) fun v s1 ⟨x,H1,I1,r1,ty,q1⟩=> ?_)
 obtain⟨h1,h2⟩:=zw I1 r1 ty
 exact⟨T,id,pa,slot,tm,h1,h2,Calls.callWith_builtin rfl (PySem.evalArgs_none (hm pins s1 σ H1 x [] v [] Q I1 r1 .nil q1))⟩
theorem JS (pa:PlainAttrs T) (slot:Slot T name id) (tm:typeOf (.builtin id)=pure (.type "method_descriptor")) (hm:zL X id r) (ho:PE X o to) (ha:PA X (e::es) t)
    (iF:attributeBase o name X.env (eval o X.env)=eval o X.env:=by rfl)
    (DT:((backTo aY (starEach (e::es) X.env)).all (fun x=> !x.1)&&(backToKw aY (keywordEach [] X.env)).all (fun x=>x.1.isSome)
      &&decide ((e::es).length+([]:List Keyword).length+(if ([]:List Keyword).isEmpty then 0 else 1)<30))=true:=by rfl)
    (tN:(apos.endLine==aY.line)=true:=by rfl) (hs:starEach (e::es) X.env=(false,eval e X.env)::starEach es X.env:=by rfl) (tG:(backTo aY (starEach es X.env)).any (·.1)=false:=by rfl):
    PE X (.Call (.Attribute o name apos) (e::es) [] aY) (we X.K T r to t):=by
  intro pins s σ H Q I h
  refine wpAny_Call_method_late iF DT tN rfl (ao (ho pins s σ H _ I h) fun v s1 ⟨x,H1,I1,r1,ty,q1⟩=> ?_)
  obtain⟨h1,h2⟩:=zw I1 r1 ty
  refine⟨T,id,pa,slot,tm,h1,h2,?_⟩
  have hA:=ha aY pins s1 σ H1 _ I1 q1
  rw[hs]at hA ⊢
  refine Calls.callWith_builtin (by show(false||(backTo aY (starEach es X.env)).any (·.1))=false;rw[tG]<;>rfl) (Calls.evalArgs_plain ?_)
  exact ao hA fun us s2 ⟨vs,H2,I2,r2,q2⟩=>hm pins s2 σ H2 x vs v us Q I2 r1 r2 q2
end
def mV (X:Cx) (id:String) (r:V→List V→Hp→VK→Prop):Prop:=
 ∀(pins:List (Addr×Obj)) (s:Shared) (σ:St) (H:Hp) (x:V) (xs:List V) (v:Value) (us:List Value) (Q:VK),Inv X pins σ H s→RelV x v→Vals xs us→r x xs H Q→
  wpAny (model X.prog X.w) X.A (call (.builtin id) (v::us)) (EP X pins σ Q) X.xe s
theorem Vals.one:∀{x:V}{us:List Value},Vals [x] us→∃u,us=[u]∧RelV x u
 |_,_,.cons r .nil=> ⟨_,rfl,r⟩
theorem Vals.zero:∀{us:List Value},Vals [] us→us=[]
 |_,.nil=>rfl
theorem Vals.dropLast {xs:List V}{us:List Value}(h:Vals xs us):Vals xs.dropLast us.dropLast:=by
 induction h with
 |nil=>exact .nil
 |cons r t ih=>
  cases t with
  |nil=>exact .nil
  |cons q t'=>exact .cons r ih
theorem Vals.eraseIdx:∀{xs:List V}{us:List Value}(i:Nat),Vals xs us→Vals (xs.eraseIdx i) (us.eraseIdx i)
 |_,_,_,.nil=> .nil
 |_,_,0,.cons _ t=>t
 |_,_,i+1,.cons r t=> .cons r (Vals.eraseIdx i t)
theorem Vals.rep {xs:List V}{us:List Value}(h:Vals xs us):∀k:Nat,Vals (List.replicate k xs).flatten (List.replicate k us).flatten
 |0=> .nil
 |k+1=>by
  rw[List.replicate_succ,List.replicate_succ,List.flatten_cons,List.flatten_cons]
  exact Vals.append h (Vals.rep h k)
theorem UI {α:Type}(l:List α):l.eraseIdx (l.length - 1)=l.dropLast:=by
 induction l with
 |nil=>rfl
 |cons a r ih=>
  cases r with
  |nil=>rfl
  |cons b r=>
   have e:(a::b::r).length - 1=((b::r).length - 1)+1:=by
    have h1:(a::b::r).length=r.length+2:=rfl
    have h2:(b::r).length=r.length+1:=rfl
    omega
   rw[e,List.eraseIdx_cons_succ,ih]
   all_goals rfl
theorem JY {α:Type} :∀(l:List α) (i:Nat),(l.eraseIdx i).length≤l.length
 | [],_=>Nat.le_refl _
 |_::_,0=>Nat.le_succ _
 |_::r,i+1=>Nat.succ_le_succ (JY r i)
theorem Y2 (aa:List Value):∀(k:Nat) (acc:List Value),
  List.foldl (fun x1 x2=>x1++x2) acc.toArray (List.replicate k aa.toArray)=(acc++(List.replicate k aa).flatten).toArray
 |0,acc=>by simp
 |k+1,acc=>by
  have e:acc.toArray++aa.toArray=(acc++aa).toArray:=by simp
  have e2:(acc++aa)++(List.replicate k aa).flatten=acc++(List.replicate (k+1) aa).flatten:=by
   rw[List.replicate_succ,List.flatten_cons,List.append_assoc]
  rw[←e2,←Y2 aa k (acc++aa),←e,List.replicate_succ,List.foldl_cons]
section
variable {X:Cx}{pins:List (Addr×Obj)}{σ:St}{H:Hp}{s:Shared}{l b:Addr}{xs ys zs:List V}
theorem Inv.sS {aa its':List Value}{n:Nat}{f:Array Value→Array Value}{t':Nat}(I:Inv X pins σ H s) (hH:H l=some (.lst xs))
  (e:s.heap.get? l=some {cls:=.type "list",data:=.seq aa.toArray n}) (hf:f aa.toArray=its'.toArray) (hv:Vals ys its') (hz:ys.length≤sizeLine):
  Inv X pins σ (upd H l (.lst ys)) {s with heap:=s.heap.update l (Obj.mapSeq f),toks:=t'} :=by
 have q:=PySem.IsL.update e f
 rw[hf]at q
 refine I.write (x:=l) (e:=l) (by rw[hH];exact trivial) (.inl rfl) (fun b' u hb hu=> (Heap.get?_update_other s.heap (Obj.mapSeq f) (Ne.symm hb)).trans hu) ⟨_,q⟩ ?_
 exact⟨hz,its',_,hv,q⟩
theorem Inv.xr {aa:List Value}{t':Nat}(I:Inv X pins σ H s) (hv:Vals ys aa) (hz:ys.length≤sizeLine):
  Inv X pins σ (upd H s.heap.objs.size (.lst ys)) {s with heap:=s.heap.push {cls:=.type "list",data:=.seq aa.toArray},toks:=t'} :=
 I.laid (fun _ _ q=>Heap.get?_push_of_some _ q) (Nat.le_refl _) ⟨hz,aa,0,hv,Heap.get?_push_size _ rfl⟩
theorem Inv.fresh (I:Inv X pins σ H s):H s.heap.objs.size=none:=I.ah.fresh (Nat.le_refl _)
theorem Inv.j7 (I:Inv X pins σ H s) (hH:H l=some (.lst xs)):xs.length≤sizeLine∧∃(aa:List Value) (n:Nat),Vals xs aa∧xs.length=aa.length∧s.heap.get? l=some {cls:=.type "list",data:=.seq aa.toArray n} :=by
 obtain⟨z,aa,n,r,e⟩:=I.ah l _ hH
 exact⟨z,aa,n,r,r.length,e⟩
theorem Cb {n:Nat}(h:n≤sizeLine):Builtin.List.listTooLong n=false:=by
 unfold Builtin.List.listTooLong
 exact decide_eq_false (by omega)
end
section
variable {X:Cx}
def wR:V→List V→Hp→VK→Prop:=fun x vs H Q=> ∃l xs y,x=.ref l∧vs=[y]∧H l=some (.lst xs)∧xs.length<sizeLine∧Q .ae (upd H l (.lst (xs++[y])))
theorem Y0:mV X "list.append" wR:=by
 intro pins s σ H x vs v us Q I rx rv h
 obtain⟨l,xs,y,rfl,rfl,hH,hz,q⟩:=h
 cases rx
 obtain⟨u,rfl,ru⟩:=rv.one
 obtain⟨z,aa,n,r,hl,e⟩:=I.j7 hH
 refine call_meets F.slot_list_append ⟨_,e,rfl⟩ F.entry_list_append (F.args_list_append_2 _ _) (PySem.list_append l aa.toArray n u (by rw[List.size_toArray];omega)) ⟨e,?_⟩
 refine⟨.ae,_,I.sS (its':=aa++[u]) hH e (by simp) (r.append (.cons ru .nil)) ?_,rfl,q⟩
 rw[List.length_append,List.length_singleton]
 omega
def BS:V→List V→Hp→VK→Prop:=fun x vs H Q=> ∃l xs y,x=.ref l∧vs=[]∧H l=some (.lst xs)∧xs[xs.length - 1]? =some y∧Q y (upd H l (.lst xs.dropLast))
theorem Hf:mV X "list.pop" BS:=by
 intro pins s σ H x vs v us Q I rx rv h
 obtain⟨l,xs,y,rfl,rfl,hH,hy,q⟩:=h
 cases rx
 have C4:=rv.zero
 subst C4
 obtain⟨z,aa,n,r,hl,e⟩:=I.j7 hH
 obtain⟨u,hu,ru⟩:=r.get hy
 have CV:aa.toArray[aa.toArray.size - 1]? =some u:=by
  show aa.toArray[aa.length - 1]? =some u
  rw[←Array.getElem?_toList,←hl]
  exact hu
 refine call_meets F.slot_list_pop ⟨_,e,rfl⟩ F.entry_list_pop (F.args_list_pop_1 _) (MeetsSeq.list_pop_last l aa.toArray n u CV (by rw[List.size_toArray];omega)) ⟨e,?_⟩
 refine⟨y,_,I.sS (its':=aa.dropLast) hH e ?_ r.dropLast ?_,ru,q⟩
 ·show aa.toArray.eraseIdxIfInBounds (aa.toArray.size - 1)=aa.dropLast.toArray
  rw[List.size_toArray,List.eraseIdxIfInBounds_toArray,UI]
 ·rw[List.length_dropLast]
  omega
def BR:V→List V→Hp→VK→Prop:=fun x vs H Q=> ∃l xs i k y,x=.ref l∧vs=[.int i]∧H l=some (.lst xs)∧ -(2^63)≤i∧i<2^63∧seqIndex? i xs.length=some k∧xs[k]? =some y∧Q y (upd H l (.lst (xs.eraseIdx k)))
theorem KL:mV X "list.pop" BR:=by
 intro pins s σ H x vs v us Q I rx rv h
 obtain⟨l,xs,i,k,y,rfl,rfl,hH,h1,h2,hk,hy,q⟩:=h
 cases rx
 obtain⟨u,rfl,ru⟩:=rv.one
 obtain⟨t,rfl⟩:=ru
 obtain⟨z,aa,n,r,hl,e⟩:=I.j7 hH
 obtain⟨w,hw,eO⟩:=r.get hy
 refine call_meets F.slot_list_pop ⟨_,e,rfl⟩ F.entry_list_pop (F.args_list_pop_2 _ _)
  (MeetsSeq.list_pop_at l aa.toArray n i t k w (fitsIndex_both h1 h2) (by rw[List.size_toArray,←hl];exact hk) (by rw[←Array.getElem?_toList];exact hw) (by rw[List.size_toArray];omega)) ⟨e,?_⟩
 refine⟨y,_,I.sS (its':=aa.eraseIdx k) hH e ?_ (r.eraseIdx k) ?_,eO,q⟩
 ·show aa.toArray.eraseIdxIfInBounds k=(aa.eraseIdx k).toArray
  rw[List.eraseIdxIfInBounds_toArray]
 ·have:=JY xs k
  omega
def BY:R2:=fun x y H Q=> ∃l b xs zs,x=.ref l∧y=.ref b∧H l=some (.lst xs)∧H b=some (.lst zs)∧xs.length+zs.length≤sizeLine∧∀p,H p=none→Q (.ref p) (upd H p (.lst (xs++zs)))
theorem ZW:aZ X (binaryOp .Add) BY:=by
 intro pins s σ H x y v u Q I rx ry h
 obtain⟨l,b,xs,zs,rfl,rfl,hH,hB,hz,q⟩:=h
 cases rx
 cases ry
 obtain⟨z,aa,n,r,hl,e⟩:=I.j7 hH
 obtain⟨z2,jb,n2,r2,jk,e2⟩:=I.j7 hB
 refine PySem.P.add_list e e2 ?_ (by rw[List.size_toArray,List.size_toArray];omega)
 have ea:aa.toArray++jb.toArray=(aa++jb).toArray:=by simp
 rw[ea]
 exact⟨.ref _,_,I.xr (t':=s.toks) (r.append r2) (by rw[List.length_append];omega),rfl,q _ I.fresh⟩
def BQ:R2:=fun x y H Q=> ∃l k xs,x=.ref l∧y=.int k∧H l=some (.lst xs)∧ -(2^63)≤k∧k<2^63∧xs.length*k.toNat≤sizeLine∧
 ∀p,H p=none→Q (.ref p) (upd H p (.lst (List.replicate k.toNat xs).flatten))
theorem Wt {α:Type}(xs:List α) (k:Nat):(List.replicate k xs).flatten.length=k*xs.length:=by
 induction k with
 |zero=>simp
 |succ k ih=>rw[List.replicate_succ,List.flatten_cons,List.length_append,ih,Nat.succ_mul,Nat.add_comm]
theorem Jt:aZ X (binaryOp .Mult) BQ:=by
  intro pins s σ H x y v u Q I rx ry h
  obtain⟨l,k,xs,rfl,rfl,hH,h1,h2,hz,q⟩:=h
  cases rx
  obtain⟨t,rfl⟩:=ry
  obtain⟨z,aa,n,r,hl,e⟩:=I.j7 hH
  have hlen:aa.toArray.size*k.toNat≤sizeLine:=by rw[List.size_toArray,←hl];exact hz
  have Ed:¬aa.toArray.size*k.toNat> (2^63 - 1)/8:=by
    have:(sizeLine:Nat)≤(2^63 - 1)/8:=by decide
    omega
  have DS:¬(!Builtin.List.listFitsIndex k)=true:=by
    rw[fitsIndex_both h1 h2]
    exact Bool.false_ne_true
  have Dz:¬Builtin.List.listTooLong (aa.toArray.size*k.toNat)=true:=by
    rw[Cb hlen]
    exact Bool.false_ne_true
  have Dt:List.foldl (fun x1 x2=>x1++x2) #[] (List.replicate (if aa.toArray.isEmpty=true then 0 else k.toNat) aa.toArray)=(List.replicate k.toNat aa).flatten.toArray:=by
    have f0:∀m:Nat,List.foldl (fun x1 x2=>x1++x2) #[] (List.replicate m aa.toArray)=(List.replicate m aa).flatten.toArray:=fun m=>by
      have:=Y2 aa m []
      rw[List.nil_append]at this
      exact this
    rw[f0]
    cases aa with
    |nil=>simp
    |cons a r'=>rw[if_neg (by simp)]
  refine wpAny_binaryOp_repeat_ref (T:= "list") (U:= "int") (by decide) ⟨_,e,rfl⟩ (fun s'=>typeIs_int s' k t) noFill_list_mul F.fills_int_mul F.slot_int_rmul repeat_list F.slot_int_index.lookup
    (call_meets F.slot_int_rmul (typeIs_int s k t) F.entry_int_rmul (F.args_int_rmul_2 _ _) (int___rmul___int_list k t l aa.toArray n)
      ⟨e,rfl,⟨_,e,rfl⟩,call_meets F.slot_list_mul ⟨_,e,rfl⟩ F.entry_list_mul (F.args_list_mul_2 _ _) (AutoListH.list___mul___list_int_3 l aa.toArray n k t DS Ed Dz) ⟨e,?_⟩⟩)
  rw[Dt]
  exact⟨.ref _,_,I.xr (t':=s.toks) (r.rep k.toNat) (by rw[Wt,Nat.mul_comm];exact hz),rfl,q _ I.fresh⟩
end
end L2
namespace Aa
open PySem PySem.W PySem.Calls PyProof.Rows
theorem Ja {P:Params}{h:Heap} :∀(ns:List Int) (vs:List Value),WellAll P h vs (ns.map WData.int)→IntsAre vs ns:=by
 intro ns
 induction ns with
 |nil=>
  intro vs w
  rw[List.map_nil]at w
  cases w
  exact .nil
 |cons n ns ih=>
  intro vs w
  rw[List.map_cons]at w
  cases w with
  |cons a b=>
   cases a
   exact .cons _ _ (ih _ b)
theorem Kd {l:OpenLaw}{n:Nat}(hn:l.most=some n) {P:Params}{h:Heap}{args:List WData}{vals:List Value}
  (oY:l.row.toRowW.claim.pre args=true) (tj:WellAll P h vals args):
  ∃a vs ns,vals=[Value.ref a]∧args=[WData.list (ns.map WData.int)]∧h.get? a=some {cls:=.type "list",data:=.seq vs.toArray}∧IntsAre vs ns∧ns.length≤n:=by
 have De:WShape.hasAll [] args [.list .int]=true:=(pre_splitW oY).1
 have hc:l.pre.holds [] {args:=args} =true:=(pre_splitW oY).2
 obtain⟨d,r,rfl,h1,h2⟩:=hasAllW_cons De
 obtain rfl:=hasAllW_nil h2
 obtain⟨xs,rfl,h3⟩:=hasW_list h1
 obtain⟨ns,rfl⟩:=items_int h3
 have hlen:ns.length≤n:=by
  unfold OpenLaw.pre at hc
  have h4:(WTm.not (.lt (.lit (.int (n:Int))) (.len (.arg 0)))).holds [] {args:=[.list (ns.map .int)]} =true:=by
   have h4:=(holds_andW hc).1
   rw[hn]at h4
   exact h4
  have h5:=condW_of h4 (w_not (w_lt w_lit (w_len_list (w_arg rfl))))
  rw[List.length_map]at h5
  refine Nat.le_of_not_lt fun q=> ?_
  have q':(n:Int)< ((ns.length:Nat):Int):=by omega
  first
   |(rw[decide_eq_true q']at h5;exact absurd h5 (by decide))
   |(simp at h5;omega)
 cases tj with
 |cons w1 w2=>
  cases w2
  cases w1 with
  |list ho jo=>exact⟨_,_,ns,rfl,rfl,ho,Ja ns _ jo,hlen⟩
theorem Kb (l:OpenLaw) (args:List WData):l.row.toRowW.claim.post args (.bool true) args=true:=
 postW_of (r:=l.row.toRowW) (X:=(true==true))
  (show WShape.has [] (.bool true) .bool=true by first |rfl |decide |simp[WShape.has,WShape.arms,WShape.armsAll])
  (show(WTm.eq .res (.lit (.bool true))).value [] {args:=args,res:=some (.bool true),after:=args} =some (.bool (true==true)) from w_eq_bool (w_res rfl) w_lit) rfl
theorem F5 {l:OpenLaw}{n:Nat}{q:Program}{loose:List Str}{XP:(Str→Option Value)→Heap→Prop}{YP:World→Heap→Prop}{d:DefRec}
    (hn:l.most=some n) (tV:d.params.defaults=[])
    (call:∀(w:World) (bC av:Shared) (mg mb:Str→Option Value) (fa:Addr) (o:Obj) (pm cd doc:Value) (a:Addr) (vs:List Value) (ns:List Int),
      Ground q loose [] XP w bC mg mb av.heap→YP w av.heap→
      av.heap.get? fa=some o→o.data=.func (docDef d.name d.params d.body d.scope pm cd doc)→av.heap.CodeRec cd d.name→mg d.name=some (.ref fa)→
      av.heap.get? a=some {cls:=.type "list",data:=.seq vs.toArray}→IntsAre vs ns→ns.length≤n→av.gens= #[]→
      codeAny (model l.prog w) callerA (.call (.ref fa) ⟨[.ref a],[]⟩) (fun r s'=>r=.ok (.ret (.bool true))∧OldK av.heap s'.heap∧s'.os=av.os∧AllBare s'.gens) av):
    WalkO q loose XP YP l.row.toRowW d [] (fun f vs=>PySem.call f vs):=by
  intro w bC av mg mb G Y fa o pm cd doc dV kV ho hd bJ hD hmg hg args vals as oY LK LD tj tM
  obtain rfl:dV=.none:=Dflts.none hD tV
  obtain rfl:kV=.none:=Dflts.noKw hD
  obtain⟨a,vs,ns,rfl,rfl,tI,hints,hlen⟩:=Kd hn oY tj
  refine enter_call (codeAny_mono (call w bC av mg mb fa o pm cd doc a vs ns G Y ho (fd_plain hd) bJ hmg tI hints hlen hg) fun r s' hq=> ?_)
  obtain⟨rfl,h2,h3,h4⟩:=hq
  exact⟨.inl ⟨.bool true,.bool true,[],rfl,fun _=>rfl,.bool true,Kb l _,fun _=> ⟨List.Pairwise.nil,fun _ hm=> (nomatch hm)⟩⟩,h2,h3,h4⟩
end Aa
namespace L2
open PySem PySem.Spec PyProof.Rows
theorem JN:∀{vs:List Value}{ns:List Int},IntsAre vs ns→Vals (ns.map V.int) vs
 |_,_,.nil=> .nil
 |_,_,.cons n t h=> .cons ⟨t,rfl⟩ (JN h)
def inClass (s:Stmt) (j:Nat):Stmt:=match s with
 | .ClassDef _ _ _ body _ _ _ _ _ _ _=>body.getD j (.Pass ⟨0,0,0,0⟩)
 |_=> .Pass ⟨0,0,0,0⟩
def bU (s:Stmt):Arguments:=match s with
 | .FunctionDef _ a _ _ _ _ _ _ _ _=>a
 |_=> {posonlyargs:=[],args:=[],vararg:=none,kwonlyargs:=[],kw_defaults:=[],kwarg:=none,defaults:=[]}
def bp (s:Stmt):List Stmt:=match s with
 | .FunctionDef _ _ b _ _ _ _ _ _ _=>b
 |_=> []
def aq (s:Stmt):Scope:=match s with
 | .FunctionDef _ _ _ _ _ _ sc _ _ _=>sc
 |_=> {kind:=.function,names:=[],isGenerator:=false,isCoroutine:=false}
abbrev aC:dH:=fun _ _ _ _ _ _ _=>False
abbrev E0:XK:=fun _ _ _=>False
theorem w5 {X:Cx} :Passes aC X E0:=fun _ _ _ _ _ _ _ h=>h.elim
structure az (K:PySem.W.Frag) (x qual:Str) (st:Stmt) (f:Addr) (fd:FuncData):Prop where
 ex:∃(oc:Value) (od:Option Addr) (kV doc pm:Value) (an:Option Addr) (ai ct:Value) (ck:Array (Option Value)),
  fd=PySem.W.fnOf x qual (bU st) (bp st) (aq st) .none kV doc pm an ai ct∧K.lookup f=some ⟨oc,od,.func fd,ck⟩∧PySem.W.codeIn K ai qual=true
 kp:PySem.W.keepIn K (.ref f)=true
section
variable {P:Program}{w:World}{K:PySem.W.Frag}{mg:Str→Option Value}{base:Heap}
theorem az.ok {x qual:Str}{st:Stmt}{f:Addr}{fd:FuncData}{N ps:List Str}{k:Nat}{sp:Sp}(F:az K x qual st f fd) (S:aF N ps (aq st)) (len:∀vs H Q E,sp vs H Q E→vs.length=ps.length)
    (t9:∀(ai:Value) (A:Around) (outer:List Env) (s:Shared) (H:Hp) (vs:List V) (Q:VK) (E:XK),aK k (A.deeper (envOfC qual (aq st) s.heap.objs.size f ai))→sp vs H Q E→
      ∃t,cK (bB aC P w K mg base N qual (aq st) f ai A outer s H E).dN (bp st) t∧t {nx:=fun _ H'=>Q .ae H',rt:=Q} (start N vs) H):ar P w K mg base aC (k+1) f fd ps sp:=by
  obtain⟨oc,od,kV,doc,pm,an,ai,ct,ck,rfl,lk,bJ⟩:=F.ex
  refine U2 lk bJ S len fun A outer s H vs Q E hr bX=> ?_
  obtain⟨t,h,q⟩:=t9 ai A outer s H vs Q E hr bX
  exact⟨t,h.dN,q⟩
theorem az.binds {x qual:Str}{st:Stmt}{f:Addr}{fd:FuncData}{ps:List Str}(F:az K x qual st f fd)
  (h:∀(kV doc pm:Value) (an:Option Addr) (ai ct:Value) (us:List Value),us.length=ps.length→bindArgs (PySem.W.fnOf x qual (bU st) (bp st) (aq st) .none kV doc pm an ai ct) ⟨us,[]⟩=pure (ps.zip us)):Binds K fd ps []:=by
 obtain⟨oc,od,kV,doc,pm,an,ai,ct,ck,rfl,lk,bJ⟩:=F.ex
 exact .all (h kV doc pm an ai ct)
theorem Wy {x qual:Str}{st:Stmt}{f:Addr}{oc:Value}{od an:Option Addr}{ck:Array (Option Value)}{kV doc pm ai ct:Value}(l:K.lookup f=some ⟨oc,od,.func (PySem.W.fnOf x qual (bU st) (bp st) (aq st) .none kV doc pm an ai ct),ck⟩)
  (c:PySem.W.codeIn K ai qual=true) (k:PySem.W.keepIn K (.ref f)=true):az K x qual st f (PySem.W.fnOf x qual (bU st) (bp st) (aq st) .none kV doc pm an ai ct):=⟨⟨oc,od,kV,doc,pm,an,ai,ct,ck,rfl,l,c⟩,k⟩
end
theorem UZ {A:Around}{k:Nat}(hr:aK k A):A.units+1<cLine:=Nat.lt_of_le_of_lt (Nat.add_le_add_left (by decide:1≤64) _) hr.units
section
variable {X:Cx}
theorem pv (i:Nat) {x:Str}{pos:Pos}(hN:X.N[i]? =some x:=by rfl) (hv:jy X.env.scope x:=by first |exact Or.inl rfl |exact Or.inr (Or.inl rfl) |exact Or.inr (Or.inr rfl)) (hd:(x==("__debug__" :Str))=false:=by decide)
  (bJ:(x==("__classdict__" :Str))=false:=by decide):PE X (.Name x pos) (fm i):=YW hN hv hd bJ
end
theorem ay {A B:Prop}(h:B):if false=true then A else B:=by
 rw[if_neg Bool.false_ne_true]
 exact h
theorem aH {A B:Prop}(h:A):if true=true then A else B:=by
 rw[if_pos rfl]
 exact h
theorem xA {c A B:Prop} [Decidable c] (h1:c→A) (h2:¬c→B):if c then A else B:=by
 by_cases h:c
 ·rw[if_pos h]
  exact h1 h
 ·rw[if_neg h]
  exact h2 h
def aj (H H':Hp):Prop:=∀b o,H b=some o→H' b=some o
theorem aj.refl (H:Hp):aj H H:=fun _ _ h=>h
theorem aj.trans {H H1 H2:Hp}(a:aj H H1) (b:aj H1 H2):aj H H2:=fun c o h=>b c o (a c o h)
theorem aj.free {H H':Hp}(e:aj H H') {l:Addr}(h:H' l=Option.none):H l=Option.none:=by
 cases q:H l with
 |none=>rfl
 |some o=>
  rw[e l o q]at h
  cases h
section
variable {κ:Type} [DecidableEq κ]
def bh (ag:List (κ×V)) (k:κ):Option V:=(ag.find? fun kv=>decide (kv.1=k)).map (·.2)
def putK (ag:List (κ×V)) (k:κ) (v:V):List (κ×V):=
 if (ag.any fun kv=>decide (kv.1=k))=true then ag.map (fun kv=>if kv.1=k then (kv.1,v) else kv) else ag++[(k,v)]
theorem ZP {p:κ×V}{r:List (κ×V)}{k:κ}(e:p.1=k):bh (p::r) k=some p.2:=by simp[bh,List.find?_cons,e]
theorem ZQ {p:κ×V}{r:List (κ×V)}{k:κ}(e:¬p.1=k):bh (p::r) k=bh r k:=by simp[bh,List.find?_cons,e]
theorem Jh (k:κ):∀ag:List (κ×V),(ag.any fun kv=>decide (kv.1=k))=(bh ag k).isSome
 | []=>rfl
 |p::r=>by
  rw[List.any_cons]
  by_cases e:p.1=k
  ·simp only[ZP e,decide_eq_true e,Bool.true_or,Option.isSome_some]
  ·rw[ZQ e,decide_eq_false e,Bool.false_or];exact Jh k r
theorem WA (k j:κ) (y:V):∀ag:List (κ×V),bh (ag.map fun kv=>if kv.1=k then (kv.1,y) else kv) j=(bh ag j).map fun x=>if j=k then y else x
 | []=>rfl
 |p::r=>by
  have ih:=WA k j y r
  rw[List.map_cons]
  by_cases h:p.1=k
  ·rw[if_pos h]
   by_cases e:p.1=j
   ·rw[ZP (p:=(p.1,y)) e,ZP e,Option.map_some,if_pos (e.symm.trans h)]
   ·rw[ZQ (p:=(p.1,y)) e,ZQ e,ih]
  ·rw[if_neg h]
   by_cases e:p.1=j
   ·rw[ZP (p:=p) e,ZP e,Option.map_some,if_neg (fun z=>h (e.trans z))]
   ·rw[ZQ (p:=p) e,ZQ e,ih]
theorem JO (k j:κ) (y:V):∀ag:List (κ×V),bh ag k=none→bh (ag++[(k,y)]) j=if j=k then some y else bh ag j
 | [],_=>by
  by_cases e:k=j
  ·rw[if_pos e.symm];exact ZP (p:=(k,y)) e
  ·rw[if_neg (fun z=>e z.symm)];exact ZQ (p:=(k,y)) e
 |p::r,hn=>by
  rw[List.cons_append]
  have hk:¬p.1=k:=fun z=>by rw[ZP z]at hn;cases hn
  rw[ZQ hk]at hn
  have ih:=JO k j y r hn
  by_cases e:p.1=j
  ·rw[ZP e,ZP e,if_neg (fun z=>hk (e.trans z))]
  ·rw[ZQ e,ZQ e,ih]
theorem IF (ag:List (κ×V)) (k j:κ) (y:V):bh (putK ag k y) j=if j=k then some y else bh ag j:=by
 unfold putK
 by_cases a:(ag.any fun kv=>decide (kv.1=k))=true
 ·rw[if_pos a,WA]
  rw[Jh]at a
  by_cases e:j=k
  ·obtain⟨x,hx⟩:=Option.isSome_iff_exists.mp a
   rw[if_pos e,e,hx,Option.map_some,if_pos rfl]
  ·rw[if_neg e]
   cases bh ag j with
   |none=>rfl
   |some x=>rw[Option.map_some,if_neg e]
 ·rw[if_neg a]
  refine JO k j y ag ?_
  rw[Jh]at a
  cases q:bh ag k with
  |none=>rfl
  |some x=>rw[q]at a;exact(a rfl).elim
theorem WT (ag:List (κ×V)) (k:κ) (v:V):(putK ag k v).length≤ag.length+1:=by
 unfold putK
 split
 ·rw[List.length_map];omega
 ·rw[List.length_append,List.length_cons,List.length_nil];omega
theorem dm.CM {o:Option V}{u:Option Value}(r:dm o u):o.isSome=u.isSome:=by
 cases o with
 |none=>cases u with
  |none=>rfl
  |some _=>exact(show False from r).elim
 |some _=>cases u with
  |none=>exact(show False from r).elim
  |some _=>rfl
theorem dm.getD {o:Option V}{u:Option Value}{d:V}{d':Value}(r:dm o u) (rd:RelV d d'):RelV (o.getD d) (u.getD d'):=by
 cases o with
 |none=>cases u with
  |none=>exact rd
  |some _=>exact(show False from r).elim
 |some _=>cases u with
  |none=>exact(show False from r).elim
  |some _=>exact r
theorem KV.val {ag:List (κ×V)}{vs:List (κ×Value)}(r:KV ag vs) (k:κ):dm (bh ag k) (valueAt vs k):=by
 unfold KV at r
 induction r with
 |nil=>exact True.intro
 | @cons p q ps qs h t ih=>
  obtain⟨h1,h2⟩:=h
  by_cases e:p.1=k
  ·have e':q.1=k:=h1.symm.trans e
   have b:valueAt (q::qs) k=some q.2:=by simp[valueAt,List.find?_cons,e']
   rw[ZP e,b];exact h2
  ·have e':¬q.1=k:=fun z=>e (h1.trans z)
   have b:valueAt (q::qs) k=valueAt qs k:=by simp[valueAt,List.find?_cons,e']
   rw[ZQ e,b];exact ih
theorem KV.any {ag:List (κ×V)}{vs:List (κ×Value)}(r:KV ag vs) (k:κ):(ag.any fun kv=>decide (kv.1=k))=vs.any fun kv=>decide (kv.1=k):=by
 unfold KV at r
 induction r with
 |nil=>rfl
 |cons h t ih=>rw[List.any_cons,List.any_cons,ih,h.1]
theorem KV.BI {ag:List (κ×V)}{vs:List (κ×Value)}(r:KV ag vs) (k:κ) {y:V}{u:Value}(ry:RelV y u):
  KV (ag.map fun kv=>if kv.1=k then (kv.1,y) else kv) (vs.map fun kv=>if kv.1=k then (kv.1,u) else kv):=by
 unfold KV at r ⊢
 induction r with
 |nil=>exact .nil
 | @cons p q ps qs h t ih=>
  rw[List.map_cons,List.map_cons]
  refine .cons ?_ ih
  obtain⟨h1,h2⟩:=h
  by_cases e:p.1=k
  ·rw[if_pos e,if_pos (h1.symm.trans e)];exact⟨h1,ry⟩
  ·rw[if_neg e,if_neg (fun z=>e (h1.trans z))];exact⟨h1,h2⟩
theorem KV.put {ag:List (κ×V)}{vs:List (κ×Value)}(r:KV ag vs) (k:κ) {y:V}{u:Value}(ry:RelV y u):KV (putK ag k y) (stored vs k u):=by
 unfold putK stored
 rw[r.any k]
 by_cases e:(vs.any fun kv=>decide (kv.1=k))=true
 ·rw[if_pos e,if_pos e];exact r.BI k ry
 ·rw[if_neg e,if_neg e];exact Paired.snoc r ⟨rfl,ry⟩
theorem KV.length {ag:List (κ×V)}{vs:List (κ×Value)}(r:KV ag vs):ag.length=vs.length:=Paired.length r
end
theorem JZ {P:Program}{w:World}{k:Key}{u:Value}(r:RelV (kV k) u):(du P w).is k u=true:=by
 cases k with
 |inl i=>obtain⟨t,e⟩:=(show ∃t,u=Value.int i t from r);subst e;exact WQ P w i t
 |inr x=>obtain⟨t,e⟩:=(show ∃t,u=Value.str x t from r);subst e;exact WP P w x t
theorem J0 {P:Program}{w:World} :∀{ks:List Key}{us:List Value},Vals (ks.map kV) us→ItemsAre (du P w) ks us
 | [],_,r=>by rw[List.map_nil]at r;cases r;exact .nil
 |k::ks,_,r=>by
  rw[List.map_cons]at r
  cases r with
  |cons h t=>exact .cons (JZ h) (J0 t)
abbrev KT (H:Hp):List (List Key×V)→List (List Key×Addr×Value)→Prop:=Paired fun p q=>p.1=q.1∧H q.2.1=some (.tup (p.1.map kV))∧RelV p.2 q.2.2
theorem KT.val {H:Hp}{ag:List (List Key×V)}{xs:List (List Key×Addr×Value)}(r:KT H ag xs) (k:List Key):dm (bh ag k) ((atKey xs k).map (·.2)):=by
 induction r with
 |nil=>exact True.intro
 | @cons p q ps qs h t ih=>
  obtain⟨h1,_,h2⟩:=h
  by_cases e:p.1=k
  ·have e':q.1=k:=h1.symm.trans e
   have b:atKey (q::qs) k=some q.2:=by simp[atKey,List.find?_cons,e']
   rw[ZP e,b];exact h2
  ·have e':¬q.1=k:=fun z=>e (h1.trans z)
   have b:atKey (q::qs) k=atKey qs k:=by simp[atKey,List.find?_cons,e']
   rw[ZQ e,b];exact ih
section
variable {P:Program}{w:World}{H:Hp}{h:Heap}{a:Addr}
theorem zp {u:HO}(ok:bc P w H h) (e:Rd H a u):bq P w H h a u:=e.ok ok
theorem zc {ag:List (Key×V)}(ok:bc P w H h) (e:Rd H a (.dK ag)):ag.length≤sizeLine∧(a==sysModules)=false∧∃vs,KV ag vs∧h.DictOf (du P w) a vs:=
 show bq P w H h a (.dK ag) from zp ok e
theorem zk {ks:List Key}(ok:bc P w H h) (e:H a=some (.tup (ks.map kV))):(tupleKind (du P w)).is h ks a:=by
 obtain⟨_,aa,r,⟨o,h1,h2,n,h3⟩,_⟩:=(show bq P w H h a (.tup (ks.map kV)) from ok a _ e)
 exact⟨o,aa.toArray,n,h1,h2,h3,by simpa using J0 r⟩
theorem zd {ag:List (List Key×V)}(ok:bc P w H h) (e:Rd H a (.dT ag)):ag.length≤sizeLine∧(a==sysModules)=false∧
  ∃xs,KT H ag xs∧h.DictOfH (tupleKind (du P w)) a xs:=by
 obtain⟨z,y,xs,r,o,es,ep,h1,h2,h3,h4,h5⟩:=(show bq P w H h a (.dT ag) from zp ok e)
 refine⟨z,y,xs,r,o,es,ep,h1,h2,h3,h4,fun x hx=> ?_,h5⟩
 have all:∀{l:List (List Key×V)}{m:List (List Key×Addr×Value)},KT H l m→∀x∈m,(tupleKind (du P w)).is h x.1 x.2.1:=by
  intro l m q
  induction q with
  |nil=>intro x hx;exact nomatch hx
  | @cons p q ps qs hq t ih=>
   intro x hx
   rcases List.mem_cons.mp hx with e |hx
   ·subst e
    exact zk ok (by rw[←hq.1];exact hq.2.1)
   ·exact ih x hx
 exact all r x hx
end
def nu (H:Hp) (a:Addr) (y:V) (r:Option V):Prop:=
 (∃ag k,Rd H a (.dK ag)∧y=kV k∧r=bh ag k)∨∃ag k b,Rd H a (.dT ag)∧y=.ref b∧H b=some (.tup (k.map kV))∧r=bh ag k
theorem nu.k {H:Hp}{a:Addr}{ag:List (Key×V)}{k:Key}(e:H a=some (.dK ag)):nu H a (kV k) (bh ag k):=.inl ⟨ag,k,.inl e,rfl,rfl⟩
section
variable {X:Cx}{pins:List (Addr×Obj)}{σ:St}{H:Hp}{s:Shared}{a:Addr}{y v:V}{u r:Value}{o:Option V}{A:Around}{E:Value→Shared→Prop}
theorem Inv.big (I:Inv X pins σ H s):sysModules<s.heap.objs.size:=by
 have h:mainGlobals<s.heap.objs.size:=(I.mod.glob.keeps I.bk).lt
 exact Nat.lt_trans (by decide) h
end
def zK (i:Expr):Prop:=∀ov iv,subscripted i false ov iv=operate [ov,iv] (getItem ov iv)
theorem HD {prog:Program}{w:World}{A:Around}{E:Value→Shared→Prop}{s:Shared}{env:Env}{value slice:Expr}{pos:Pos}{T id:String}{Q:Value→Shared→Prop}
  (hl:typeLookup (.type T) "__getitem__" =pure (some (.builtin id))) (hs:zK slice)
  (h:wpAny (model prog w) A (eval value env) (fun o av=>wpAny (model prog w) A (eval slice env) (fun i cq=>cq.TypeIs o T∧wpAny (model prog w) A (getItem o i) Q E cq) E av) E s):
  wpAny (model prog w) A (eval (.Subscript value slice pos) env) Q E s:=by
 refine Subscript_ (wpAny_mono h (fun o av aO=>wpAny_mono aO (fun i cq eY=> ?_) fun _ _ x=>x) fun _ _ x=>x)
 obtain⟨hT,eY⟩:=eY
 unfold subscriptTail
 refine wpAny_bind ?_
 rw[getitemInPython_of_ne hT.not_modules]
 refine wpAny_bind (wpAny_specialOf hT hl ?_)
 have fin:wpAny (model prog w) A (subscripted slice false o i) (fun r ia=>wpAny (model prog w) A (letTemporaryGo value o r >>=fun _=>pure r) Q E ia) E cq:=by
  rw[hs o i]
  exact wpAny_operating (wpAny_mono eY (fun r ia lN=>wpAny_bind (wpAny_letTemporaryGo (wpAny_pure lN))) fun _ _ x=>x)
 first
  |exact wpAny_pure (wpAny_bind fin)
  |exact wpAny_bind (wpAny_pure (wpAny_bind fin))
  |exact wpAny_bind fin
structure M1 (X:Cx) (o:Expr) (m:Str) (apos:Pos) (e:Expr) (aY:Pos):Prop where
 base:attributeBase o m X.env (eval o X.env)=eval o X.env
 br:((backTo aY (starEach [e] X.env)).all (fun x=> !x.1)&&(backToKw aY (keywordEach [] X.env)).all (fun x=>x.1.isSome)
  &&decide (([e]:List Expr).length+([]:List Keyword).length+(if ([]:List Keyword).isEmpty then 0 else 1)<30))=true
 line:(apos.endLine==aY.line)=true
 trees:backTo aY (starEach [e] X.env)=[(false,eval e X.env)]
structure M2 (X:Cx) (o:Expr) (m:Str) (apos:Pos) (e f:Expr) (aY:Pos):Prop where
 base:attributeBase o m X.env (eval o X.env)=eval o X.env
 br:((backTo aY (starEach [e,f] X.env)).all (fun x=> !x.1)&&(backToKw aY (keywordEach [] X.env)).all (fun x=>x.1.isSome)
  &&decide (([e,f]:List Expr).length+([]:List Keyword).length+(if ([]:List Keyword).isEmpty then 0 else 1)<30))=true
 line:(apos.endLine==aY.line)=true
 trees:backTo aY (starEach [e,f] X.env)=[(false,eval e X.env),(false,eval f X.env)]
def zN (H:Hp) (a:Addr):Prop:=(∃ag,Rd H a (.dK ag))∨∃ag,Rd H a (.dT ag)
theorem G8 {X:Cx}{pins:List (Addr×Obj)}{σ:St}{H:Hp}{s:Shared}{a:Addr}(I:Inv X pins σ H s) (d:zN H a):
  s.TypeIs (.ref a) "dict" ∧(∀b,Value.ref a=.ref b→∃ob,s.heap.get? b=some ob∧ob.dict=none)∧(a==sysModules)=false:=by
 rcases d with ⟨ag,e⟩ |⟨ag,e⟩
 ·obtain⟨_,hd,vs,_,dd⟩:=zc I.ah e
  refine⟨dd.typeIs,fun b q=> ?_,hd⟩
  cases q
  obtain⟨ob,_,_,h1,h2,_⟩:=dd
  exact⟨ob,h1,h2.2.1⟩
 ·obtain⟨_,hd,xs,_,dd⟩:=zd I.ah e
  refine⟨dd.typeIs,fun b q=> ?_,hd⟩
  cases q
  obtain⟨ob,_,_,h1,h2,_⟩:=dd
  exact⟨ob,h1,h2.2.1⟩
section
variable {X:Cx}{pins:List (Addr×Obj)}{σ:St}{H:Hp}{s:Shared}{a:Addr}{y d:V}{u r:Value}{o:Option V}{A:Around}{E:Value→Shared→Prop}
theorem G4 {Q:Value→Shared→Prop}(hu:A.units+1<cLine) (I:Inv X pins σ H s) (g:nu H a y o) (ry:RelV y u) (h:∀w' s',Inv X pins σ H s'→RelV (o.getD .ae) w'→Q w' s'):
  wpAny (model X.prog X.w) A (call (.builtin "dict.get") [.ref a,u]) Q E s:=by
 rcases g with ⟨ag,k,e,ey,l⟩ |⟨ag,k,b,e,ey,eb,l⟩
 ·subst ey
  obtain⟨z,hd,vs,rel,dd⟩:=zc I.ah e
  refine call_meetsIn PySem.F.slot_dict_get dd.typeIs PySem.F.entry_dict_get (PySem.F.args_dict_get_2 _ _) (meets_dict_get (du X.prog X.w) a (JZ ry) hd) ⟨_,dd.mapOf,h _ _ (I.tok _) ?_⟩
  rw[l]
  exact(rel.val k).getD rfl
 ·subst ey
  cases (show u=Value.ref b from ry)
  obtain⟨z,hd,xs,rel,dd⟩:=zd I.ah e
  refine call_meetsIn PySem.F.slot_dict_get dd.typeIs PySem.F.entry_dict_get (PySem.F.args_dict_get_2 _ _) (meetsH_dict_get (tupleKind (du X.prog X.w)) a b hd) ⟨tupleKind_room_in1 hu,k,xs,zk I.ah eb,dd,h _ _ (I.tok _) ?_⟩
  rw[l]
  exact(rel.val k).getD rfl
end
def AX (td ty:TE):TE:=fun σ H Q=>td σ H fun x H1=> ∃a,x=.ref a∧zN H1 a∧ty σ H1 fun y H2=> ∃o,nu H2 a y o∧Q (o.getD .ae) H2
section
variable {X:Cx}{o e f:Expr}{apos aY:Pos}{td ty tx:TE}
theorem Kp (hu:X.A.units+1<cLine) (ho:PE X o td) (he:PE X e ty) (m:M1 X o "get" apos e aY):PE X (.Call (.Attribute o "get" apos) [e] [] aY) (AX td ty):=by
 intro pins s σ H Q I h
 refine wpAny_Call_method m.base m.br m.line PySem.F.plainAttrs_dict PySem.F.slot_dict_get PySem.F.type_dict_get (ao (ho pins s σ H _ I h) fun u s1 ⟨x,H1,I1,rx,a,ex,d,q1⟩=> ?_)
 subst ex
 obtain rfl:u=Value.ref a:=rx
 obtain⟨t1,t2,_⟩:=G8 I1 d
 refine⟨t1,t2,?_⟩
 rw[m.trees]
 refine Calls.callWith_builtin rfl (Calls.evalArgs_plain (Calls.spliced_cons (ao (he pins s1 σ H1 _ I1 q1) fun iv s2 ⟨y,H2,I2,ry,ov,g,q2⟩=>Calls.spliced_nil ?_)))
 exact G4 hu I2 g ry fun w' s3 I3 eO=> ⟨_,H2,I3,eO,q2⟩
end
def cH (scope:Scope) (env:Env):List (Str×Addr):=scope.names.foldl (fun cs y=>if y.2==.free then (y.1,(env.cells.lookup y.1).getD 0)::cs else cs) []
theorem ZZ {scope:Scope}{env:Env}(h:∀y∈scope.names,y.2=.free→∃c,env.cells.lookup y.1=some c):closureFor scope env=pure (cH scope env):=by
 unfold closureFor cH
 have key:∀(l:List (Str×NameKind)) (cs:List (Str×Addr)),(∀y∈l,y.2=.free→∃c,env.cells.lookup y.1=some c)→
   (forIn l cs (fun x r=>match x with |(name,kind)=>if (kind==NameKind.free)=true then do let c ←cellOf env name;pure (ForInStep.yield ((name,c)::r)) else pure (ForInStep.yield r)):Sem (List (Str×Addr)))
    =pure (l.foldl (fun cs y=>if y.2==.free then (y.1,(env.cells.lookup y.1).getD 0)::cs else cs) cs):=by
  intro l
  induction l with
  |nil=>intro cs _;rfl
  |cons y l ih=>
   intro cs hl
   obtain⟨n,k⟩:=y
   rw[List.forIn_cons,List.foldl_cons]
   by_cases hk:k=.free
   ·subst hk
    obtain⟨c,hc⟩:=hl (n,.free) List.mem_cons_self rfl
    have bM:env.cells.lookup n=some c:=hc
    have e1:cellOf env n=pure c:=by unfold cellOf;rw[bM]
    simp only[beq_self_eq_true,if_true,e1,bM,Option.getD_some,pure_bind]
    exact ih _ fun y hy=>hl y (List.mem_cons_of_mem _ hy)
   ·have hb:(k==NameKind.free)=false:=by simpa using hk
    simp only[hb,Bool.false_eq_true,if_false,pure_bind]
    exact ih _ fun y hy=>hl y (List.mem_cons_of_mem _ hy)
 simp only[key scope.names [] h,pure_bind]
 all_goals rfl
theorem Z5 {scope:Scope}{env:Env}{x:Str}{c:Addr}(h:(cH scope env).lookup x=some c):c=(env.cells.lookup x).getD 0∧(x,NameKind.free)∈scope.names:=by
 unfold cH at h
 have key:∀(l:List (Str×NameKind)) (cs:List (Str×Addr)),(l.foldl (fun cs y=>if y.2==.free then (y.1,(env.cells.lookup y.1).getD 0)::cs else cs) cs).lookup x=some c→
   (c=(env.cells.lookup x).getD 0∧(x,NameKind.free)∈l)∨cs.lookup x=some c:=by
  intro l
  induction l with
  |nil=>intro cs h;exact .inr h
  |cons y l ih=>
   intro cs h
   obtain⟨n,k⟩:=y
   rw[List.foldl_cons]at h
   rcases ih _ h with ⟨h1,h2⟩ |h'
   ·exact .inl ⟨h1,List.mem_cons_of_mem _ h2⟩
   ·by_cases hk:k=.free
    ·subst hk
     simp only[beq_self_eq_true,if_true]at h'
     rw[List.lookup_cons]at h'
     cases hx:x==n with
     |true=>
      rw[hx]at h'
      have e:x=n:=by simpa using hx
      subst e
      have e':(env.cells.lookup x).getD 0=c:=Option.some.inj h'
      exact .inl ⟨e'.symm,List.mem_cons_self⟩
     |false=>rw[hx]at h';exact .inr h'
    ·have hb:(k==NameKind.free)=false:=by simpa using hk
     simp only[hb,Bool.false_eq_true,if_false]at h'
     exact .inr h'
 rcases key _ _ h with h |h
 ·exact h
 ·simp at h
theorem JG {scope:Scope}{env:Env}{x:Str}(h:(x,NameKind.free)∈scope.names):∃c,(cH scope env).lookup x=some c:=by
 unfold cH
 have key:∀(l:List (Str×NameKind)) (cs:List (Str×Addr)),((x,NameKind.free)∈l∨∃c,cs.lookup x=some c)→∃c,(l.foldl (fun cs y=>if y.2==.free then (y.1,(env.cells.lookup y.1).getD 0)::cs else cs) cs).lookup x=some c:=by
  intro l
  induction l with
  |nil=>
   intro cs h
   rcases h with h |h
   ·simp at h
   ·exact h
  |cons y l ih=>
   intro cs h
   obtain⟨n,k⟩:=y
   rw[List.foldl_cons]
   refine ih _ ?_
   by_cases hk:k=.free
   ·subst hk
    simp only[beq_self_eq_true,if_true]
    rw[List.lookup_cons]
    cases hx:x==n with
    |true=>exact .inr ⟨_,rfl⟩
    |false=>
     rcases h with h |h
     ·rcases List.mem_cons.mp h with e |h
      ·have e1:x=n:=congrArg Prod.fst e
       simp[e1]at hx
      ·exact .inl h
     ·exact .inr h
   ·have hb:(k==NameKind.free)=false:=by simpa using hk
    simp only[hb,Bool.false_eq_true,if_false]
    rcases h with h |h
    ·rcases List.mem_cons.mp h with e |h
     ·exact absurd (congrArg Prod.snd e).symm hk
     ·exact .inl h
    ·exact .inr h
 exact key _ _ (.inl h)
def rl (env:Env) (y:Str×NameKind):Str×NameKind:=if (y.2==NameKind.free&&env.scope.kind==.function&&env.kindOf y.1==some .cell) then (y.1,NameKind.cell) else y
theorem zu (env:Env) (y:Str×NameKind):(rl env y).1=y.1:=by unfold rl;split<;>rfl
theorem Hz {env:Env}{y:Str×NameKind}(h:y.2=.free):(rl env y).2=.cell∨(rl env y).2=.free:=by
 unfold rl;split
 ·exact .inl rfl
 ·exact .inr h
theorem GO {env:Env}{y:Str×NameKind}(h:y.2≠.free):rl env y=y:=by
 have hb:(y.2==NameKind.free)=false:=by simpa using h
 unfold rl;rw[hb];simp
theorem Yw (scope:Scope) (env:Env):(relabel scope env).names=scope.names.map (rl env):=rfl
theorem Wm {scope:Scope}{env:Env}{x:Str}(hc:∀y∈scope.names,y.2≠.cell) (h:(relabel scope env).names.lookup x=some .cell∨(relabel scope env).names.lookup x=some .free):(x,NameKind.free)∈scope.names:=by
 rw[Yw]at h
 have key:∀(l:List (Str×NameKind)),(∀y∈l,y.2≠.cell)→(∃k,(k=NameKind.cell∨k=.free)∧(l.map (rl env)).lookup x=some k)→(x,NameKind.free)∈l:=by
  intro l
  induction l with
  |nil=>rintro _ ⟨k,_,h⟩;simp at h
  |cons y l ih=>
   rintro hl ⟨k',gz,h⟩
   obtain⟨n,k⟩:=y
   have e1:(rl env (n,k))=(n,(rl env (n,k)).2):=Prod.ext (zu env _) rfl
   rw[List.map_cons,e1,List.lookup_cons]at h
   cases hx:x==n with
   |true=>
    have e:x=n:=by simpa using hx
    subst e
    by_cases hk:k=.free
    ·subst hk;exact List.mem_cons_self
    ·rw[hx]at h
     rw[GO (env:=env) (y:=(x,k)) hk]at h
     have e:k=k':=Option.some.inj h
     subst e
     rcases gz with z |z
     ·exact absurd z (hl _ List.mem_cons_self)
     ·exact absurd z hk
   |false=>
    rw[hx]at h
    exact List.mem_cons_of_mem _ (ih (fun y hy=>hl y (List.mem_cons_of_mem _ hy)) ⟨k',gz,h⟩)
 refine key _ hc ?_
 rcases h with h |h
 ·exact⟨_,.inl rfl,h⟩
 ·exact⟨_,.inr rfl,h⟩
theorem Yv {scope:Scope}{env:Env}{x:Str}(h:scope.names.lookup x=some .free):(relabel scope env).names.lookup x=some .cell∨(relabel scope env).names.lookup x=some .free:=by
 rw[Yw]
 have key:∀(l:List (Str×NameKind)),l.lookup x=some .free→(l.map (rl env)).lookup x=some .cell∨(l.map (rl env)).lookup x=some .free:=by
  intro l
  induction l with
  |nil=>intro h;simp at h
  |cons y l ih=>
   intro h
   obtain⟨n,k⟩:=y
   have e1:(rl env (n,k))=(n,(rl env (n,k)).2):=Prod.ext (zu env _) rfl
   rw[List.map_cons,e1,List.lookup_cons]
   rw[List.lookup_cons]at h
   cases hx:x==n with
   |true=>
    rw[hx]at h
    have e:k=.free:=Option.some.inj h
    rcases Hz (env:=env) (y:=(n,k)) e with z |z
    ·exact .inl (congrArg some z)
    ·exact .inr (congrArg some z)
   |false=>rw[hx]at h;exact ih h
 exact key _ h
def aS (X:Cx) (N':List Str) (scope:Scope) (C:Addr) (s2:Shared) (H2:Hp) (fp:List Addr):Cx:=
 {X with N:=N',bC:=s2,hX:=H2,env:=compEnvC scope (cH scope X.env) C X.env,outer:=X.stack,stack:=X.stack,ex:=fp,fn:=fun _=>false,pn:=[],xe:=fun _ _=>False}
def mH (so si:Scope) (N N':List Str) (ts:Nat) (aR:List Nat):Bool:=
 decide (si.kind=.function)&&si.names.all (fun y=>y.2 !=.cell)&&si.names.all (fun y=>y.2 !=.local||si.names.lookup y.1==some .local)
 &&si.names.all (fun y=>y.2 !=.free||so.names.lookup y.1==some .cell||so.names.lookup y.1==some .free)
 &&decide N'.Nodup&&decide (N'.length=ts+aR.length)
 &&(List.range aR.length).all (fun k=> (N'[ts+k]? ==(aR[k]?.bind fun j=>N[j]?))&&(N'[ts+k]?.isSome)&&(N'[ts+k]?.all fun x=>so.names.lookup x !=some .local&&si.names.lookup x==some .free))
def gk (ts:Nat) (aR:List Nat) (σ:St):St:=List.replicate ts none++aR.map fun j=> (σ[j]?).join
structure qj (X:Cx) (N':List Str) (ts:Nat) (aR:List Nat) (scope:Scope):Prop where
 kind:scope.kind=.function
 ek:∀y∈scope.names,y.2≠.cell
 names:∀y∈scope.names,y.2=.local→scope.names.lookup y.1=some .local
 free:∀y∈scope.names,y.2=.free→X.env.kindOf y.1=some .cell∨X.env.kindOf y.1=some .free
 nd:N'.Nodup
 len:N'.length=ts+aR.length
 FV:∀k j,aR[k]? =some j→∃x,N'[ts+k]? =some x∧X.N[j]? =some x∧X.env.kindOf x≠some .local∧scope.names.lookup x=some .free
theorem YC {x:Str}{k:NameKind} :∀{l:List (Str×NameKind)},l.lookup x=some k→(x,k)∈l
 | [],h=>by simp at h
 |(n,j)::l,h=>by
  rw[List.lookup_cons]at h
  cases hx:x==n with
  |true=>
   rw[hx]at h
   have e:x=n:=by simpa using hx
   have e':j=k:=Option.some.inj h
   subst e e'
   exact List.mem_cons_self
  |false=>rw[hx]at h;exact List.mem_cons_of_mem _ (YC h)
theorem JF {X:Cx}{N':List Str}{ts:Nat}{aR:List Nat}{scope:Scope}(h:mH X.env.scope scope X.N N' ts aR=true):qj X N' ts aR scope:=by
 unfold mH at h
 simp only[Bool.and_eq_true]at h
 obtain⟨⟨⟨⟨⟨⟨h1,h2⟩,h3⟩,h4⟩,h5⟩,h6⟩,h7⟩:=h
 refine⟨of_decide_eq_true h1,fun y hy z=> ?_,fun y hy z=> ?_,fun y hy z=> ?_,of_decide_eq_true h5,of_decide_eq_true h6,fun k j hk=> ?_⟩
 ·have q:=List.all_eq_true.mp h2 y hy
  rw[z]at q;exact absurd q (by decide)
 ·have q:=List.all_eq_true.mp h3 y hy
  rw[z]at q
  simpa using q
 ·have q:=List.all_eq_true.mp h4 y hy
  rw[z]at q
  simpa[Env.kindOf] using q
 ·have aJ:k<aR.length:=(List.getElem?_eq_some_iff.mp hk).1
  have q:=List.all_eq_true.mp h7 k (List.mem_range.mpr aJ)
  simp only[Bool.and_eq_true]at q
  obtain⟨⟨q1,q2⟩,q3⟩:=q
  obtain⟨x,hx⟩:=Option.isSome_iff_exists.mp q2
  rw[hx]at q1 q3
  rw[hk]at q1
  have e1:some x=X.N[j]? :=by simpa using q1
  have sJ:(X.env.scope.names.lookup x !=some .local&&scope.names.lookup x==some .free)=true:=q3
  simp only[Bool.and_eq_true]at sJ
  refine⟨x,hx,e1.symm,?_,by simpa using sJ.2⟩
  have z:=sJ.1
  intro e
  have e':X.env.scope.names.lookup x=some .local:=e
  rw[e']at z
  exact absurd z (by decide)
section
variable {X:Cx}{pins:List (Addr×Obj)}{σ:St}{H:Hp}{s:Shared}
theorem UY {N':List Str}{ts:Nat}{aR:List Nat}{scope:Scope}{fp:List Addr}{h':Heap}{t':Nat}{m:Str→Option Value}{C:Addr}(S:qj X N' ts aR scope) (I:Inv X pins σ H s) (hf:∀b∈fp,aT X pins H b)
  (ho:∀b∈fp,∃o,s.heap.get? b=some o) (hC:s.heap.objs.size≤C) (hn:h'.Ns C m) (k:∀b o,s.heap.get? b=some o→h'.get? b=some o):
  Inv (aS X N' scope C s H fp) [] (gk ts aR σ) H {s with heap:=h',toks:=t'} :=by
 have sub:∀x c,(cH scope X.env).lookup x=some c→X.env.cells.lookup x=some c:=fun x c e=>by
  obtain⟨e1,e2⟩:=Z5 e
  obtain⟨c',bM⟩:=I.ok.has x (S.free _ e2 rfl)
  rw[bM]at e1
  rw[bM,e1];rfl
 have cU:∀b o,s.heap.get? b=some o→b≠C:=fun b o e=>Nat.ne_of_lt (Nat.lt_of_lt_of_le (Heap.lt_size e) hC)
 refine⟨⟨I.ok.mod,?_,I.ok.glob,I.ok.blt,hC,fun x y c e1 e2=>I.ok.inj x y c (sub x c e1) (sub y c e2),fun x hx=> ?_,fun x c z _=>absurd z Bool.false_ne_true,I.ok.hd,I.ok.frames,.inl rfl,fun b hb=> ?_,fun b o e=>I.bs b o e,Nat.le_trans I.ok.fj I.sz,fun b o e hb=> ?_,fun b hb=> ?_,I.stack,I.jO⟩,
  rfl,I.bare,Un.kept k,⟨m,hn,fun i x v e1 e2 e3=> ?_⟩,fun x c e=> ?_,I.ah.fresh hC,fun x c e=>I.dC x c (sub x c e),fun p hp=>absurd (show p∈([]:List (Addr×Obj)) from hp) (by simp),I.ah.kept k,?_⟩
 ·show(relabel scope X.env).kind=.function
  exact S.kind
 ·exact JG (Wm S.ek hx)
 ·obtain⟨o,e⟩:=ho b hb
  refine⟨cU b o e,fun x c ec=> ?_⟩
  exact(hf b hb).2.2.2.2.1 x c (sub x c ec)
 ·obtain⟨e1,e2⟩:=I.bs b o e
  obtain⟨f0,f1,f2,f3,f4,f5⟩:=hf b hb
  rcases f3 with z |z
  ·exact I.ok.gR b o e z
  ·exact absurd (Nat.lt_of_lt_of_le (Heap.lt_size (I.ok.bs b o e).1) z) (Nat.lt_irrefl _)
 ·intro z
  obtain⟨f0,f1,f2,f3,f4,f5⟩:=hf b hb
  rcases List.mem_cons.mp (I.kN b z) with q |q
  ·exact f1 q
  ·exact f2 q
 ·-- Lm Lu values
  have hlen:¬i<ts:=fun aJ=>by
   unfold gk at e2
   rw[List.getElem?_append_left (by simpa using aJ),List.getElem?_replicate]at e2
   split at e2<;>cases e2
  have mB:(aR.map fun j=> (σ[j]?).join)[i - ts]? =some (some v):=by
   unfold gk at e2
   rw[List.getElem?_append_right (by simpa using hlen),List.length_replicate]at e2
   exact e2
  rw[List.getElem?_map]at mB
  cases hc:aR[i - ts]? with
  |none=>rw[hc]at mB;cases mB
  |some j=>
   rw[hc]at mB
   have pP:(σ[j]?).join=some v:=Option.some.inj mB
   have e4:σ[j]? =some (some v):=by
    cases q:σ[j]? with
    |none=>rw[q]at pP;cases pP
    |some o=>rw[q]at pP;exact congrArg some pP
   obtain⟨x',n1,n2,n3,n4⟩:=S.FV _ _ hc
   have ei:ts+(i - ts)=i:=by omega
   rw[ei]at n1
   have ex:x=x':=by
    have ju:N'[i]? =some x:=e1
    rw[n1]at ju;exact(Option.some.inj ju).symm
   subst ex
   obtain⟨mX,LH,hl⟩:=I.loc
   have Af:jy X.env.scope x:=by
    rcases S.free _ (YC n4) rfl with z |z
    ·exact .inr (.inl z)
    ·exact .inr (.inr z)
   obtain⟨u,ru,lk⟩:=hl j x v n2 e4 Af
   refine⟨u,ru,?_⟩
   rcases lk with ⟨z,_⟩ |⟨z,c,ec,iE⟩
   ·exact absurd z n3
   ·obtain⟨c',bM⟩:=JG (env:=X.env) (YC n4)
    have:=sub x c' bM
    rw[ec]at this
    cases this
    refine .inr ⟨?_,c,bM,iE.keeps k⟩
    exact Yv n4
 ·obtain⟨v,z⟩:=I.cell x c (sub x c e)
  exact⟨v,z.keeps k⟩
 ·show(gk ts aR σ).length=N'.length
  unfold gk
  rw[List.length_append,List.length_replicate,List.length_map,S.len]
end
def AccAt (h:Heap) (D:Addr) (ys:List V):Prop:=ys.length≤sizeLine∧∃(aa:List Value) (n:Nat),Vals ys aa∧h.get? D=some {cls:=.type "list",data:=.seq aa.toArray n}
theorem AccAt.keep {h h':Heap}{D:Addr}{ys:List V}(a:AccAt h D ys) (k:∀o,h.get? D=some o→h'.get? D=some o):AccAt h' D ys:=by
 obtain⟨z,aa,n,r,e⟩:=a
 exact⟨z,aa,n,r,k _ e⟩
abbrev TC:=List V→St→Hp→(List V→St→Hp→Prop)→Prop
def gH (Y:Cx) (D:Addr) (m:Sem PySem.Fin→Sem PySem.Fin) (t:TC):Prop:=
 ∀(pins:List (Addr×Obj)) (s:Shared) (σ:St) (H:Hp) (ys:List V) (Q:List V→St→Hp→Prop) (k:Sem PySem.Fin) (R:PySem.Fin→Shared→Prop),Inv Y pins σ H s→aT Y pins H D→AccAt s.heap D ys→t ys σ H Q→
  (∀s' aV af H',Inv Y pins af H' s'→aT Y pins H' D→AccAt s'.heap D aV→Q aV af H'→wpAny (model Y.prog Y.w) Y.A k R (fun _ _=>False) s')→wpAny (model Y.prog Y.w) Y.A (m k) R (fun _ _=>False) s
def qv (ifs:List Expr) (env:Env):Sem Bool:=forIn ifs true fun c r=>if r=true then do let ok ←isTrue c env (eval c env);pure (ForInStep.yield ok) else pure (ForInStep.yield r)
def hV (Y:Cx) (ifs:List Expr) (t:TT):Prop:=
 ∀(pins:List (Addr×Obj)) (s:Shared) (σ:St) (H:Hp) (Q:Bool→Hp→Prop),Inv Y pins σ H s→t σ H Q→wpAny (model Y.prog Y.w) Y.A (qv ifs Y.env) (TP Y pins σ Q) Y.xe s
def jM:TT:=fun _ H Q=>Q true H
section
variable {Y:Cx}{D:Addr}
theorem ZV:hV Y [] jM:=fun pins s σ H Q I h=>wpAny_tests_nil ⟨H,I,h⟩
theorem Jb {c:Expr}{t:TT}(hc:PT Y c t):hV Y [c] t:=fun pins s σ H Q I h=>wpAny_tests_one (hc pins s σ H Q I h)
def kJ (te:TE):TC:=fun ys σ H Q=>te σ H fun v H1=>ys.length<sizeLine∧Q (ys++[v]) σ H1
theorem AccAt.ek {h:Heap}{ys:List V}(a:AccAt h D ys):∀b∈[D],∃o,h.get? b=some o∧∀v,o.data≠.cell v:=fun b hb=>by
 have e:b=D:=by simpa using hb
 subst e
 obtain⟨z,aa,n,r,e⟩:=a
 exact⟨_,e,fun v z=>by
  have z':Data.seq aa.toArray n=Data.cell v:=z
  cases z'⟩
theorem AccAt.through {h:Heap}{pins:List (Addr×Obj)}{af:St}{H':Hp}{s':Shared}{ys:List V}(a:AccAt h D ys) (I:Inv Y (pins++ee [D] h) af H' s'):AccAt s'.heap D ys∧H' D=none:=by
 obtain⟨z,aa,n,r,e⟩:=a
 have q:=I.pin (D,_) (List.mem_append_right _ (List.mem_append_right _ (ZC (List.mem_singleton.mpr rfl) e)))
 exact⟨⟨z,aa,n,r,q.1⟩,q.2.1⟩
theorem dr {elt:Expr}{te:TE}(hx:Y.xe=fun _ _=>False) (he:PE Y elt te):
    gH Y D (fun k=> (do let _ ←call (.builtin "list.append") [.ref D,←eval elt Y.env]) >>=fun _=>k) (kJ te):=by
  intro pins s σ H ys Q k R I f a h hk
  refine wpAny_bind (wpAny_mono (Q:=fun _ s'=> ∃aV af H',Inv Y pins af H' s'∧aT Y pins H' D∧AccAt s'.heap D aV∧Q aV af H') ?_ (fun _ s' ⟨aV,af,H',q1,q2,q3,q4⟩=>hk s' aV af H' q1 q2 q3 q4) fun _ _ z=>z)
  have I':=I.pinned (fp:=[D]) (fun b hb=>by have e:b=D:=by simpa using hb
                                            subst e;exact f) a.ek
  refine wpAny_bind (wpAny_mono (he _ s σ H _ I' h) (fun u s1 ⟨v,H1,I1,ru,hz,q⟩=> ?_) fun e s1 z=>by rw[hx]at z;exact z)
  obtain⟨a1,n1⟩:=a.through I1
  have f1:aT Y pins H1 D:=⟨n1,f.2⟩
  obtain⟨z,aa,n,r,e⟩:=a1
  have hl:=r.length
  refine wpAny_bind (call_meets F.slot_list_append ⟨_,e,rfl⟩ F.entry_list_append (F.args_list_append_2 _ _) (PySem.list_append D aa.toArray n u (by rw[List.size_toArray];omega)) ⟨e,wpAny_pure ?_⟩)
  have q2:=PySem.IsL.update e (·.push u)
  obtain⟨f0,g1,g2,g3,g4,g5⟩:=f1
  have I2:Inv Y pins σ H1 {s1 with heap:=s1.heap.update D (Obj.mapSeq (·.push u))} :=I1.dI.turned (t':=s1.toks) (it:=D) (fun b o hb eb=> (Heap.get?_update_other s1.heap _ (Ne.symm hb)).trans eb) f0 g1 g3 g4 g5
  refine⟨ys++[v],σ,H1,I2,⟨f0,g1,g2,g3,g4,g5⟩,⟨by rw[List.length_append,List.length_singleton];omega,aa++[u],(if ((aa.toArray.push u).size==aa.toArray.size)=true then n else n+1),r.append (.cons ru .nil),?_⟩,q⟩
  have e3:aa.toArray.push u=(aa++[u]).toArray:=by simp
  rw[←e3]
  exact q2
def inner (elt:Expr) (gens:List Comprehension) (scope:Scope) (pos:Pos) (d:Nat) (acc:Value) (env:Env) (k:Sem PySem.Fin):Sem PySem.Fin:=
 match gens[d+1]? with
 |some g'=>eval g'.iter env >>=fun x=>standAt g'.iter.pos >>=fun _=>foldedSetIterable g'.iter env x >>=fun x=>holding [x] (pyIter x) >>=fun gX=>
  runOwn (.compStart (.ListComp elt gens scope pos) (d+1) gX acc env) env >>=fun _=>k
 |none=> (do let _ ←call (.builtin "list.append") [acc,←eval elt env]) >>=fun _=>k
set_option maxHeartbeats 400000 in
theorem uP (elt tg iter:Expr) (ifs:List Expr) (gens:List Comprehension) (scope:Scope) (pos:Pos) (d:Nat) (it acc:Value) (env:Env) (hg:gens[d]? =some ⟨tg,iter,ifs,0⟩) (h2:∀g',gens[d+1]? =some g'→g'.is_async=0):
  compTurn (.ListComp elt gens scope pos) d it acc env=(standAt iter.pos >>=fun _=>pyNext it >>=fun r=>match r with
   |none=>pure (.done .next)
   |some v=>letOwnedTupleGo tg it v >>=fun _=>assign tg env v >>=fun _=>qv ifs env >>=fun ok=>
    if ok=true then inner elt gens scope pos d acc env (again (.compLoop (.ListComp elt gens scope pos) d it acc env)) else again (.compLoop (.ListComp elt gens scope pos) d it acc env)):=by
 unfold compTurn inner
 dsimp only
 rw[hg]
 generalize hn:gens[d+1]? =o
 cases o with
 |none=>rfl
 |some g'=>
  have e:=h2 g' hn
  obtain⟨t',i',f',a'⟩:=g'
  have e':a'=0:=e
  subst e'
  rfl
def fN (g:TG) (tt:TT) (ti:TC) (J:It):TC:=fun ys σ H Q=> ∃W:Nat→Nat→List V→St→Hp→Prop,(∃m,W 0 m ys σ H)∧∀i m ys σ H,W i m ys σ H→
 (J.stop i H∧Q ys σ H)∨(J.go i H∧∃N:List V→St→Hp→Prop,(∀aV af H',N aV af H'→∃m',m'<m∧W (i+1) m' aV af H')∧
  ∀x H',J.jL i H x H'→g x σ H' fun bf H2=>tt bf H2 fun b H3=>if b=true then ti ys bf H3 N else N ys bf H3)
theorem uO {elt tg iter:Expr}{ifs:List Expr}{gens:List Comprehension}{scope:Scope}{pos:Pos}{d:Nat}{it:Addr}{fp:List Addr}{tn:Nat→Heap→Prop}{J:It}{g:TG}{tt:TT}{ti:TC}{pins:List (Addr×Obj)}{s:Shared}{σ:St}{H:Hp}{ys:List V}{Q:List V→St→Hp→Prop}
    (hx:Y.xe=fun _ _=>False) (hc:Y.calm=true) (hg:gens[d]? =some ⟨tg,iter,ifs,0⟩) (T:Turn Y.prog Y.w Y.K tg J fp it tn) (hf:∀b∈fp,aT Y pins H b) (st:tn 0 s.heap) (hD:D∉fp)
    (h2:∀g',gens[d+1]? =some g'→g'.is_async=0) (pg:PG Y tg g) (pt:hV Y ifs tt) (pi:gH Y D (inner elt gens scope pos d (.ref D) Y.env) ti)
    (I:Inv Y pins σ H s) (f:aT Y pins H D) (a:AccAt s.heap D ys) (h:fN g tt ti J ys σ H Q):
    codeAny (model Y.prog Y.w) Y.A (.compLoop (.ListComp elt gens scope pos) d (.ref it) (.ref D) Y.env) (fun r s'=>match r with
      | .ok _=> ∃aV af H',Inv Y pins af H' s'∧aT Y pins H' D∧AccAt s'.heap D aV∧Q aV af H'
      | .error _=>False) s:=by
  obtain⟨W,⟨m0,w0⟩,turn⟩:=h
  have stat:∀{H':Hp},(∀b∈fp,H' b=none)→∀b∈fp,aT Y pins H' b:=fun hn b hb=> ⟨hn b hb,(hf b hb).2⟩
  refine codeAny_loop rfl (fun n s'=> ∃i aV af H',Inv Y pins af H' s'∧aT Y pins H' D∧AccAt s'.heap D aV∧tn i s'.heap∧(∀b∈fp,H' b=none)∧W i n aV af H') (fun n s3 hI=> ?_) m0 ⟨0,ys,σ,H,I,f,a,st,fun b hb=> (hf b hb).1,w0⟩
  obtain⟨i,fH,cZ,H3,I3,f3,a3,cu,iK,w3⟩:=hI
  show wpAny _ Y.A ((compTurn (.ListComp elt gens scope pos) d (.ref it) (.ref D) Y.env).onRaise (fun x=>do noteFrame x Y.env;theTreesLotGoes x)) _ _ s3
  refine wpAny_noted (wpAny_mono (E:=fun _ _=>False) ?_ (fun _ _ q=>q) fun _ _ z=>z.elim)
  rw[uP elt tg iter ifs gens scope pos d (.ref it) (.ref D) Y.env hg h2]
  refine wpAny_bind (wpAny_standAt (wpAny_bind ?_))
  have aD:∀{h h':Heap},(∀b o,b∉fp→h.get? b=some o→h'.get? b=some o)→∀{zs},AccAt h D zs→AccAt h' D zs:=fun k _ q=>q.keep fun o e=>k D o hD e
  have nh:=I3.pinned (fp:=[D]) (fun b hb=>by have e:b=D:=by simpa using hb
                                             subst e;exact f3) a3.ek
  have kO:∀b∈fp,aT Y (pins++ee [D] s3.heap) H3 b:=fun b hb=>by
    obtain⟨g0,g1,g2,g3,g4,g5⟩:=stat iK b hb
    refine⟨g0,g1,g2,g3,g4,fun p hp=> ?_⟩
    rcases List.mem_append.mp hp with z |z
    · exact g5 p (List.mem_append_left _ z)
    · rcases List.mem_append.mp z with z |z
      · exact g5 p (List.mem_append_right _ z)
      · intro q
        have e:p.1=D:=by simpa using (Yg z).1
        exact hD (by rw[←e,q];exact hb)
  rcases turn i n fH cZ H3 w3 with ⟨stop,qn⟩ |⟨go,N,hN,step⟩
  · refine wpAny_mono (T.done Y rfl rfl rfl hc i _ s3 cZ H3 (fun _ _=>False) nh kO cu stop) (fun r s4 ⟨hr,I4⟩=> ?_) fun _ _ z=>z
    subst hr
    obtain⟨a4,n4⟩:=a3.through I4
    exact wpAny_pure ⟨fH,cZ,H3,I4.dI,f3,a4,qn⟩
  · refine wpAny_mono (T.item Y rfl rfl rfl hc i _ s3 cZ H3 (fun _ _=>False) nh kO cu go) (fun r s4 ⟨u,hr,h4⟩=> ?_) fun _ _ z=>z
    subst hr
    refine wpAny_bind (wpAny_mono h4 (fun _ s5 ⟨x,H5,I5,r5,y5,fQ,mn⟩=> ?_) fun _ _ z=>z)
    obtain⟨a5,n5⟩:=a3.through I5
    have f5:aT Y pins H5 D:=⟨n5,f3.2⟩
    have tJ:∀b∈D::fp,∃o,s5.heap.get? b=some o∧∀v,o.data≠.cell v:=fun b hb=>by
      rcases List.mem_cons.mp hb with e |hb
      · exact a5.ek b (by simp[e])
      · exact T.obj _ _ fQ b hb
    have ng:=I5.dI.pinned (fp:=D::fp) (fun b hb=>by
      rcases List.mem_cons.mp hb with e |hb
      · rw[e];exact f5
      · exact stat mn b hb) tJ
    refine wpAny_bind (wpAny_mono (pg _ s5 cZ H5 x u _ ng r5 (step x H5 y5)) (fun _ s6 ⟨gI,H6,I6,q6⟩=> ?_) fun _ _ z=>by rw[hx]at z;exact z)
    refine wpAny_bind (wpAny_mono (pt _ s6 gI H6 _ I6 q6) (fun b s7 ⟨H7,I7,q7⟩=> ?_) fun _ _ z=>by rw[hx]at z;exact z)
    have lh:∀{bQ:St}{H7:Hp}{s7:Shared},Inv Y (pins++ee (D::fp) s5.heap) bQ H7 s7→AccAt s7.heap D fH∧H7 D=none:=fun {bQ H7 s7} J=>by
      obtain⟨z,aa,n,r,e⟩:=id a5
      have q:=J.pin (D,_) (List.mem_append_right _ (List.mem_append_right _ (ZC List.mem_cons_self e)))
      exact⟨⟨z,aa,n,r,q.1⟩,q.2.1⟩
    have lg:∀{bQ:St}{H7:Hp}{s7:Shared},Inv Y (pins++ee (D::fp) s5.heap) bQ H7 s7→tn (i+1) s7.heap∧∀b∈fp,H7 b=none:=fun {bQ H7 s7} J=>by
      refine⟨T.keep _ _ _ fQ fun b hb o e=> (J.pin (b,o) (List.mem_append_right _ (List.mem_append_right _ (ZC (List.mem_cons_of_mem _ hb) e)))).1,fun b hb=> ?_⟩
      obtain⟨o,e,dd⟩:=T.obj _ _ fQ b hb
      exact(J.pin (b,o) (List.mem_append_right _ (List.mem_append_right _ (ZC (List.mem_cons_of_mem _ hb) e)))).2.1
    cases b with
    |false=>
     simp only[Bool.false_eq_true,if_false]at q7 ⊢
     obtain⟨m',hm,w7⟩:=hN _ _ _ q7
     obtain⟨a7,n7⟩:=lh I7
     obtain⟨t7,r7⟩:=lg I7
     exact wpAny_pure ⟨rfl,m',hm,i+1,fH,gI,H7,I7.dI,⟨n7,f3.2⟩,a7,t7,r7,w7⟩
    |true=>
     simp only[if_true]at q7 ⊢
     obtain⟨a7,n7⟩:=lh I7
     obtain⟨t7,r7⟩:=lg I7
     have vD:=I7.dI.pinned (fp:=fp) (stat r7) (T.obj _ _ t7)
     have f7:aT Y (pins++ee fp s7.heap) H7 D:=by
       obtain⟨g0,g1,g2,g3,g4,g5⟩:=f3
       refine⟨n7,g1,g2,g3,g4,fun p hp=> ?_⟩
       rcases List.mem_append.mp hp with z |z
       · exact g5 p (List.mem_append_left _ z)
       · rcases List.mem_append.mp z with z |z
         · exact g5 p (List.mem_append_right _ z)
         · intro q
           exact hD (by rw[←q];exact(Yg z).1)
     refine pi _ s7 gI H7 fH N _ _ vD f7 a7 q7 fun s8 qk dX H8 I8 f8 a8 q8=> ?_
     obtain⟨m',hm,w8⟩:=hN _ _ _ q8
     refine wpAny_pure ⟨rfl,m',hm,i+1,qk,dX,H8,I8.dI,⟨f8.1,f3.2⟩,a8,T.keep _ _ _ t7 fun b hb o e=> (I8.pin (b,o) (List.mem_append_right _ (List.mem_append_right _ (ZC hb e)))).1,fun b hb=> ?_,w8⟩
     obtain⟨o,e,dd⟩:=T.obj _ _ t7 b hb
     exact(I8.pin (b,o) (List.mem_append_right _ (List.mem_append_right _ (ZC hb e)))).2.1
theorem uN {elt tg iter:Expr}{ifs:List Expr}{gens:List Comprehension}{scope:Scope}{pos:Pos}{d:Nat}{it:Addr}{R:Result→Shared→Prop}{s:Shared}{A:Around}{prog:Program}{w:World}{env:Env}{acc:Value}{fp:List Addr}{tn:Nat→Heap→Prop}{J:It}{K:PySem.W.Frag}
  (hg:gens[d]? =some ⟨tg,iter,ifs,0⟩) (T:Turn prog w K tg J fp it tn) {i:Nat} (st:tn i s.heap) (h:codeAny (model prog w) A (.compLoop (.ListComp elt gens scope pos) d (.ref it) acc env) R s):
  codeAny (model prog w) A (.compStart (.ListComp elt gens scope pos) d (.ref it) acc env) R s:=by
 refine codeAny_of_tree ?_
 show wpAny _ _ ((compStart (.ListComp elt gens scope pos) d (.ref it) acc env).onRaise (fun x=>do noteFrame x env;standAt theWindowsPlace)) _ _ s
 refine wpAny_notedAt ?_
 have jl:(clausesOf (.ListComp elt gens scope pos))[d]? =some ⟨tg,iter,ifs,0⟩:=hg
 unfold compStart
 rw[jl]
 show wpAny _ _ (ask >>=_) _ _ s
 refine wpAny_bind (wpAny_askSetting (wpAny_ite ?_))
 split
 ·first
   |exact wpAny_bind (wpAny_pure (wpAny_pure (And.intro rfl h)))
   |exact wpAny_pure (And.intro rfl h)
 ·refine wpAny_bind (wpAny_rule ?_)
  show wpAny _ _ (standAt iter.pos >>=_) _ _ s
  exact wpAny_bind (wpAny_standAt (wpAny_bind (T.self A i s _ _ st (wpAny_pure (And.intro rfl h)))))
end
section
variable {X:Cx}{pins:List (Addr×Obj)}{σ:St}{H H':Hp}{s s':Shared}
theorem pW {N':List Str}{scope:Scope}{C D:Addr}{fp:List Addr}{af:St}{ys:List V}{pl:List (Addr×Obj)}{h':Heap}(I:Inv X pins σ H s) (hf:∀b∈fp,aT X pins H b) (hC:s.heap.objs.size≤C) (hD:s.heap.objs.size≤D) (eA:D≠C)
  (J:Inv (aS X N' scope C s H fp) pl af H' s') (n:H' D=none) (a:AccAt s'.heap D ys) (sb:Heap.SameBut C s'.heap h'):Inv X pins σ (upd H' D (.lst ys)) {s' with heap:=h'} :=by
 have cU:∀b o,s.heap.get? b=some o→b≠C:=fun b o e=>Nat.ne_of_lt (Nat.lt_of_lt_of_le (Heap.lt_size e) hC)
 have sQ:∀b o,s.heap.get? b=some o→b≠D:=fun b o e=>Nat.ne_of_lt (Nat.lt_of_lt_of_le (Heap.lt_size e) hD)
 have i9:∀b o,H b=some o→b≠D:=fun b o e=>Nat.ne_of_lt (Nat.lt_of_lt_of_le (I.ah.lt e) hD)
 have fC:H' C=none:=J.free
 have u:Un (aA X.stack) fp H H' s.heap s'.heap:=J.base
 refine I.pV (s':= {s' with heap:=h'}) (ch:=fp) J.os ⟨fun b o e nb hb hx=> (sb.2 b (cU b o e)).trans (u.keep b o e nb hb hx),fun b o e nb hb hx=> ?_,fun b o e nb hx=>by rw[Zh (sQ b o e)];exact u.free b o e nb hx,fun b o e hx=> ?_,
  fun b xs e=>by rw[Zh (i9 b _ e)];exact u.dJ b xs e,fun b o xs e=>by rw[Zh (i9 b _ e)];exact u.dB b o xs e,fun b ps e=>by rw[Zh (i9 b _ e)];exact u.dq b ps e⟩ (fun b v e=> ?_) J.bare fun b hb=> ?_
 ·obtain⟨sl,q⟩:=u.slot b o e nb hb hx
  exact⟨sl,(sb.2 b (cU b o e)).trans q⟩
 ·obtain⟨o',q⟩:=u.there b o e hx
  exact⟨o',(sb.2 b (cU b o e)).trans q⟩
 ·by_cases hb:b=D
  ·subst hb
   rw[Zc]at e
   cases e
   obtain⟨z,aa,k,r,q⟩:=a
   exact⟨z,aa,k,r,(sb.2 b eA).trans q⟩
  ·rw[Zh hb]at e
   refine(J.ah b v e).fO (fun c w hc q=> (sb.2 c ?_).trans q) (fun c q=>by rw[Zh (Zg q n)];exact q) fun c xs q=>by rw[Zh (Zg q n)];exact q
   rcases hc with z |z
   ·rw[z];exact Zg e fC
   ·exact Zg z fC
 ·obtain⟨f0,f1,f2,f3,f4,f5⟩:=hf b hb
  exact⟨f3,f1,f4,f5⟩
theorem pU {elt tg iter:Expr}{ifs:List Expr}{rest:List Comprehension}{scope:Scope}{pos:Pos}{N':List Str}{ts:Nat}{aR:List Nat}{it:Addr}{fp:List Addr}{tn:Nat→Heap→Prop}{J:It}{g:TG}{tt:TT}{ti:TC}{Q:List V→Hp→Prop}{E:Value→Shared→Prop}{RR:Value→Addr→Result→Shared→Prop}
  (S:qj X N' ts aR scope) (hc:X.calm=true) (I:Inv X pins σ H s) (T:Turn X.prog X.w X.K tg J fp it tn) (st:tn 0 s.heap) (hf:∀b∈fp,aT X pins H b)
  (h2:∀g',(Comprehension.mk tg iter ifs 0::rest)[0+1]? =some g'→g'.is_async=0)
  (pg:∀C,PG (aS X N' scope C s H fp) tg g) (pt:∀C,hV (aS X N' scope C s H fp) ifs tt)
  (pi:∀C D,gH (aS X N' scope C s H fp) D (inner elt (⟨tg,iter,ifs,0⟩::rest) scope pos 0 (.ref D) (aS X N' scope C s H fp).env) ti)
  (h:fN g tt ti J [] (gk ts aR σ) H fun ys _ H2=>Q ys H2)
  (ud:∀C D s' af H' ys fl,s.heap.objs.size≤C→s.heap.objs.size≤D→D≠C→Inv (aS X N' scope C s H fp) [] af H' s'→H' D=none→AccAt s'.heap D ys→Q ys H'→RR (.ref D) C (.ok fl) s'):
  wpAny (model X.prog X.w) X.A (newList []) (fun acc ia=>wpAny (model X.prog X.w) X.A (newFunctionEnv scope X.env.globals (cH scope X.env) [] X.env.qual none .none (some X.env)) (fun mJ qz=>
   codeAny (model X.prog X.w) X.A (.compStart (.ListComp elt (⟨tg,iter,ifs,0⟩::rest) scope pos) 0 (.ref it) acc {mJ with scope:=relabel scope X.env}) (RR acc mJ.locals) qz) E ia) E s:=by
 refine wpAny_newObj_type (wpAny_newFunctionEnv S.ek (by intro y hy;simp at hy) (fun aO jh gy=> ?_) S.kind)
 dsimp only at jh gy ⊢
 generalize iI:s.heap.push {cls:=.type "list",dict:=none,data:=.seq ([]:List Value).toArray} =h0 at jh gy ⊢
 have hC:h0.objs.size=s.heap.objs.size+1:=by rw[←iI,Heap.size_push]
 have eA:s.heap.objs.size≠h0.objs.size:=by rw[hC];exact Nat.ne_of_lt (Nat.lt_succ_self _)
 have jq:s.heap.objs.size≤h0.objs.size:=by rw[hC];exact Nat.le_succ _
 have cU:∀b o,s.heap.get? b=some o→b≠h0.objs.size:=fun b o e=>Nat.ne_of_lt (Nat.lt_of_lt_of_le (Heap.lt_size e) jq)
 have old:∀b o,s.heap.get? b=some o→aO.get? b=some o:=fun b o e=>gy.extBut b o (cU b o e) (Heap.get?_push_of_some _ (iI▸Heap.get?_push_of_some _ e))
 have ko:aO.get? s.heap.objs.size=some {cls:=.type "list",data:=.seq ([]:List Value).toArray 0} :=gy.extBut _ _ eA (Heap.get?_push_of_some _ (iI▸Heap.get?_push_size _ rfl))
 have ho:∀b∈fp,∃o,s.heap.get? b=some o:=fun b hb=>let ⟨o,e,_⟩:=T.obj _ _ st b hb;⟨o,e⟩
 have I1:Inv (aS X N' scope h0.objs.size s H fp) [] (gk ts aR σ) H {s with heap:=aO,toks:=s.toks+([]:List (Str×Value)).length} :=UY S I hf ho jq jh old
 have fresh:=I.ah.fresh (a:=s.heap.objs.size) (Nat.le_refl _)
 have uo:∀b∈fp,aT (aS X N' scope h0.objs.size s H fp) [] H b:=fun b hb=>by
  obtain⟨f0,f1,f2,f3,f4,f5⟩:=hf b hb
  refine⟨f0,(I1.ok.gF b hb).1,I1.ok.gi b hb,.inl hb,(I1.ok.gF b hb).2,fun p hp=>absurd (show p∈([]:List (Addr×Obj)) from hp) (by simp)⟩
 have fD:aT (aS X N' scope h0.objs.size s H fp) [] H s.heap.objs.size:=by
  refine⟨fresh,eA,fun z=> ?_,.inr (Nat.le_refl _),fun x c e z=> ?_,fun p hp=>absurd (show p∈([]:List (Addr×Obj)) from hp) (by simp)⟩
  ·obtain⟨_,o,bA,_⟩:=I.stack.mem z
   exact absurd (Heap.lt_size bA) (Nat.lt_irrefl _)
  ·obtain⟨e1,e2⟩:=Z5 e
   obtain⟨c',bM⟩:=I.ok.has x (S.free _ e2 rfl)
   obtain⟨v,q⟩:=I.cell x c' bM
   rw[bM]at e1
   have e3:c=c':=e1
   have l:=q.lt
   rw[←e3,z]at l
   exact absurd l (Nat.lt_irrefl _)
 have aD:AccAt aO s.heap.objs.size []:=⟨Nat.zero_le _,[],0,.nil,ko⟩
 have uf:s.heap.objs.size∉fp:=fun z=>by obtain⟨o,e⟩:=ho _ z;exact absurd (Heap.lt_size e) (Nat.lt_irrefl _)
 have cj:tn 0 aO:=T.keep _ _ _ st fun b _ o e=>old b o e
 have run:=uN (elt:=elt) (gens:=⟨tg,iter,ifs,0⟩::rest) (scope:=scope) (pos:=pos) (d:=0) rfl T cj
  (uO (Y:=aS X N' scope h0.objs.size s H fp) (D:=s.heap.objs.size) (Q:=fun ys _ H2=>Q ys H2) (elt:=elt) (gens:=⟨tg,iter,ifs,0⟩::rest) (scope:=scope) (pos:=pos) (d:=0) rfl hc rfl T uo cj uf h2 (pg _) (pt _) (pi _ _) I1 fD aD h)
 refine codeAny_mono run fun r s' hr=> ?_
 cases r with
 |error e=>exact hr.elim
 |ok fl=>
  obtain⟨aV,af,H',q1,q2,q3,q4⟩:=hr
  exact ud _ _ s' af H' aV fl jq (Nat.le_refl _) eA q1 q2.1 q3 q4
end
def wb (wi:TI) (ts:Nat) (aR:List Nat) (g:TG) (tt:TT) (ti:TC):TE:=fun σ H Q=>wi σ H fun J H1=>fN g tt ti J [] (gk ts aR σ) H1 fun ys _ H2=> ∀p,H2 p=none→Q (.ref p) (upd H2 p (.lst ys))
section
variable {X:Cx}{elt tg iter:Expr}{ifs:List Expr}{rest:List Comprehension}{scope:Scope}{pos:Pos}{wi:TI}{g:TG}{tt:TT}{ti:TC}
theorem Ym (N':List Str) (ts:Nat) (aR:List Nat) (hi:PI X tg iter wi) (pg:∀C s H fp,PG (aS X N' scope C s H fp) tg g) (pt:∀C s H fp,hV (aS X N' scope C s H fp) ifs tt)
  (pi:∀C s H fp D,gH (aS X N' scope C s H fp) D (inner elt (⟨tg,iter,ifs,0⟩::rest) scope pos 0 (.ref D) (aS X N' scope C s H fp).env) ti)
  (ok:mH X.env.scope scope X.N N' ts aR=true:=by rfl) (hc:X.calm=true:=by rfl) (h2:∀g',(Comprehension.mk tg iter ifs 0::rest)[0+1]? =some g'→g'.is_async=0:=by(intro g' h;cases h<;>rfl))
  (hs:∀x,foldedSetIterable iter X.env x=pure x:=by intro _;rfl):
  PE X (.ListComp elt (⟨tg,iter,ifs,0⟩::rest) scope pos) (wb wi ts aR g tt ti):=by
 intro pins s σ H Q I h
 have S:=JF ok
 rw[eval_ListComp]
 refine wpAny_comprehension_free (use:=none) rfl hs (ZZ fun y hy e=>I.ok.has _ (S.free y hy e)) S.kind S.names (ao (hi pins s σ H _ I h) fun v s1 h1=>ao h1 fun gX s2 kq=> ?_)
 obtain⟨it,fp,tn,J,H2,e,I2,T,bH,f2,q2⟩:=kq
 subst e
 refine pU (RR:=fun acc C=>compPost (model X.prog X.w) X.A X.xe none _ acc C) S hc I2 T bH f2 h2 (fun C=>pg C _ _ _) (fun C=>pt C _ _ _) (fun C D=>pi C _ _ _ D) q2 ?_
 intro C D s' af H' ys fl hC hD eA J' n a q
 obtain⟨m,hn,_⟩:=J'.loc
 exact⟨m,hn,fun h' sb=> ⟨.ref D,_,pW I2 f2 hC hD eA J' n a sb,rfl,q D n⟩⟩
theorem Yl (N':List Str) (ts:Nat) (aR:List Nat) {i:Nat}{x:Str}{px kP:Pos}(hN:X.N.Nodup) (ma:X.N[i]? =some x) (hx:Loc X.env.scope x) (hi:PI X tg iter wi) (pg:∀C s H fp,PG (aS X N' scope C s H fp) tg g) (pt:∀C s H fp,hV (aS X N' scope C s H fp) ifs tt)
  (pi:∀C s H fp D,gH (aS X N' scope C s H fp) D (inner elt (⟨tg,iter,ifs,0⟩::rest) scope pos 0 (.ref D) (aS X N' scope C s H fp).env) ti)
  (lV:swapsWith (.ListComp elt (⟨tg,iter,ifs,0⟩::rest) scope pos) (some (.Name x px)) kP.line X.env=pure true:=by rfl)
  (ok:mH X.env.scope scope X.N N' ts aR=true:=by rfl) (hc:X.calm=true:=by rfl) (h2:∀g',(Comprehension.mk tg iter ifs 0::rest)[0+1]? =some g'→g'.is_async=0:=by(intro g' h;cases h<;>rfl))
  (hs:∀x,foldedSetIterable iter X.env x=pure x:=by intro _;rfl) (fc:X.fn x=true∨X.env.scope.names.lookup x=some .local:=by first |exact .inl rfl |exact .inr rfl |assumption):
  PS X (.Assign [.Name x px] (.ListComp elt (⟨tg,iter,ifs,0⟩::rest) scope pos) kP) (kK (wb wi ts aR g tt ti) (iJ i)):=by
 intro pins s σ H D I h
 have S:=JF ok
 rw[exec_Assign_Name_used _ _ _ _ lV]
 refine wpAny_bind (wpAny_standAt (wpAny_bind ?_))
 show wpAny _ X.A (do let _ ←comprehension (.ListComp elt (⟨tg,iter,ifs,0⟩::rest) scope pos) scope X.env _ (newList []) false (eval iter X.env) (some (assign (.Name x px) X.env))) _ _ s
 refine wpAny_bind (wpAny_mono (wpAny_comprehension_free (use:=some (assign (.Name x px) X.env)) (Q:=fun _ s'=> ∃af H',Inv X pins af H' s'∧D.nx af H') rfl hs (ZZ fun y hy e=>I.ok.has _ (S.free y hy e)) S.kind S.names
  (ao (hi pins s σ H _ I h) fun v s1 h1=>ao h1 fun gX s2 kq=> ?_)) (fun _ s' hq=>wpAny_pure (wpAny_pure hq)) fun _ _ e=>e)
 obtain⟨it,fp,tn,J,H2,e,I2,T,bH,f2,q2⟩:=kq
 subst e
 refine pU (RR:=fun acc C=>compPost (model X.prog X.w) X.A X.xe (some (assign (.Name x px) X.env)) _ acc C) S hc I2 T bH f2 h2 (fun C=>pg C _ _ _) (fun C=>pt C _ _ _) (fun C D=>pi C _ _ _ D) q2 ?_
 intro C B s' af H' ys fl hC hB mj J' n a q
 obtain⟨m,hn,_⟩:=J'.loc
 have IX:Inv X pins σ (upd H' B (.lst ys)) s':=pW I2 f2 hC hB mj J' n a (Heap.SameBut.refl C s'.heap)
 have fC:=I2.mw (H':=upd H' B (.lst ys)) (b:=C) hC (by rw[Zh (Ne.symm mj)];exact J'.free)
 obtain⟨f0,f1,E9,f3,f4,f5⟩:=fC
 show wpAny _ X.A (assign (.Name x px) X.env (.ref B)) _ _ s'
 refine wpAny_assign_Name (YV (v:=.ref B) (u:=.ref B) IX hN ma hx rfl (fun dc vE ⟨c,sb,ft⟩=> ?_) fc)
 have ug:C≠c:=by
  rcases ft with z |z
  ·rw[z];exact f1
  ·exact(f4 x c z).symm
 refine⟨m,Heap.Ns.sameBut hn sb ug,fun h' ra=> ?_⟩
 refine⟨σ.set i (some (.ref B)),_,vE.turned (t':=dc.toks) (it:=C) (fun b o hb e=> (ra.2 b hb).trans e) f0 f1 f3 f4 f5,q B n⟩
end
section
variable {X:Cx}
theorem Z9 {c:String} :eI X (.builtin "isinstance") (fun xs H Q=> ∃x t b,xs=[x,.ty c]∧cJ X.K H x t∧PySem.W.kitOne X.K t (.type c)=some b∧Q (.bl b) H):=by
 intro pins s σ H xs us Q I r h
 obtain⟨x,t,b,rfl,ty,e,q⟩:=h
 obtain⟨u,v,rfl,ru,rv⟩:=vals2 r
 cases rv
 exact IL I ru ty e fun tk=> ⟨.bl b,H,I.tok tk,rfl,q⟩
theorem Uc (hc:X.calm=true:=by rfl):eI X (.builtin "all") (fun xs H Q=> ∃(p:Addr) (bs:List Bool),xs=[.ref p]∧ak X.K H p (bs.map V.bl)∧Q (.bl (bs.all id)) H):=by
 intro pins s σ H xs us Q I r h
 obtain⟨p,bs,rfl,hp,q⟩:=h
 obtain⟨u,rfl,ru⟩:=vals1 r
 cases ru
 obtain⟨aa,rv,pl,hz⟩:=I.list hp
 have hb:∀(i:Nat) (v:Value),aa.toArray[i]? =some v→v=.bool (bs.getD i false):=fun i v e=>by
  have e':aa[i]? =some v:=by simpa using e
  have hl:=rv.length
  have hi:i<aa.length:=(List.getElem?_eq_some_iff.mp e').1
  have ke:i< (bs.map V.bl).length:=by omega
  obtain⟨u,hu,ru⟩:=rv.get (i:=i) (x:=(bs.map V.bl)[i]) (by simp)
  rw[e']at hu
  cases hu
  rw[List.getElem_map]at ru
  have DO:i<bs.length:=by simpa using ke
  have e2:bs.getD i false=bs[i]:=by simp[List.getD_eq_getElem?_getD,DO]
  rw[e2]
  exact ru
 refine call_all_walk (wpAny_pyIter_list pl.isList ?_)
 have cm:p≠s.heap.objs.size:=Nat.ne_of_lt (by obtain⟨o,n,e,_⟩:=pl;exact Heap.lt_size e)
 refine⟨s.heap.objs.size,_,_,_,_,_,fun i=>bs.getD i false,rfl,vO (A:=X.A.in1) s.heap.objs.size p cm (fun m=>by obtain⟨o,_,q,_⟩:=(I.cw hc).mem m;exact Nat.lt_irrefl _ (Heap.lt_size q)) aa.toArray,⟨(I.cw hc).keeps fun b o e=>Heap.get?_push_of_some _ e,⟨_,Heap.get?_push_size _ rfl,rfl,rfl⟩,pl.isList.at fun o e=>Heap.get?_push_of_some _ e⟩,fun i v s' Q' E' hP hQ=> ?_,fun h' tk hk=> ?_⟩
 ·rw[hb i v hP]
  exact wpAny_truthy_bool hQ
 ·have e:(List.range aa.toArray.size).all (fun i=>bs.getD i false)=bs.all id:=by
   have hl:aa.toArray.size=bs.length:=by have:=rv.length;rw[List.length_map]at this;simpa using this.symm
   rw[hl,Bool.eq_iff_iff,List.all_eq_true,List.all_eq_true]
   constructor
   ·intro h b hb
    obtain⟨i,hi,e⟩:=List.mem_iff_getElem.mp hb
    have:=h i (List.mem_range.mpr hi)
    rw[List.getD_eq_getElem?_getD,List.getElem?_eq_getElem hi,Option.getD_some,e]at this
    exact this
   ·intro h i hi
    have ke:=List.mem_range.mp hi
    rw[List.getD_eq_getElem?_getD,List.getElem?_eq_getElem ke,Option.getD_some]
    exact h _ (List.getElem_mem ke)
  rw[e]
  refine⟨.bl (bs.all id),H,I.kept fun b o eb=>hk b o ?_ (Heap.get?_push_of_some _ eb),rfl,q⟩
  intro z
  have e1:b=s.heap.objs.size:=by simpa using z
  exact absurd (Heap.lt_size eb) (by rw[e1];exact Nat.lt_irrefl _)
def jU (ns:List Int):Nat:=(PyProof.Rows.firstMet (fun i=>ns.getD i 0) ns.length).length
theorem JJ (hc:X.calm=true:=by rfl):eI X (.type "set") (fun xs H Q=> ∃(p:Addr) (ns:List Int),xs=[.ref p]∧ak X.K H p (ns.map V.int)∧ns.length≤1000∧∀q S,H q=none→Q (.ref q) (upd H q (.set S (jU ns)))):=by
 intro pins s σ H xs us Q I r h
 obtain⟨p,ns,rfl,hp,hn,q⟩:=h
 obtain⟨u,rfl,ru⟩:=vals1 r
 cases ru
 obtain⟨aa,rv,pl,hz⟩:=I.list hp
 have hl:=rv.length
 rw[List.length_map]at hl
 refine Ba (I.cw hc) pl.isList (UF rv) (by rw[List.size_toArray,←hl];unfold scanBound;omega) fun h' tk hs hk=> ?_
 have e:aa.toArray.size=ns.length:=by simp[hl]
 rw[e]at hs
 exact⟨.ref s.heap.objs.size,_,I.laid (a:=s.heap.objs.size) (o:=.set _ (jU ns)) (fun b o eb=>hk b o (Heap.lt_size eb) eb) (Nat.le_refl _) hs,rfl,q _ _ I.fresh⟩
theorem JL:eI X (.builtin "len") (fun xs H Q=> ∃p S n,xs=[.ref p]∧H p=some (.set S n)∧Q (.int n) H):=by
 intro pins s σ H xs us Q I r h
 obtain⟨p,S,n,rfl,hp,q⟩:=h
 obtain⟨u,rfl,ru⟩:=vals1 r
 cases ru
 obtain⟨o,es,ep,t,h1,h2,h3,h4,h5,h6,h7,h8⟩:=(show bq X.prog X.w H s.heap p (.set S n) from I.ah p _ hp)
 refine call_len_set h1 h2 h3 h7 (by have:scanBound=4096:=rfl;omega) ⟨.int n,H,I.tok _,⟨_,by rw[h8]⟩,q⟩
theorem Ub:eI X (.type "range") (fun xs H Q=> ∃j:Int,xs=[.int j]∧∀q,H q=none→Q (.ref q) (upd H q (.eQ 0 j))):=by
 intro pins s σ H xs us Q I r h
 obtain⟨j,rfl,q⟩:=h
 obtain⟨u,rfl,ru⟩:=vals1 r
 obtain⟨t,rfl⟩:=ru
 refine call_range_1 ?_
 exact⟨.ref s.heap.objs.size,_,I.laid (a:=s.heap.objs.size) (o:=.eQ 0 j) (fun b o eb=>Heap.get?_push_of_some _ eb) (Nat.le_refl _) ⟨_,_,_,Heap.get?_push_size _ rfl⟩,rfl,q _ I.fresh⟩
def upTo (n:Nat):List V:=(List.range n).map fun(i:Nat)=>V.int (i:Int)
theorem Wx {acc:Array Value}{n:Nat}(h:ItemsOf (fun i v=> ∃t,v=.int (0+i*1) t) acc n):Vals (upTo n) acc.toList:=by
 obtain⟨h1,h2⟩:=h
 obtain⟨l⟩:=acc
 have h1:l.length=n:=h1
 have h2:∀(j:Nat) (v:Value),l[j]? =some v→∃t,v=.int (j:Int) t:=fun j v e=>by
  obtain⟨t,q⟩:=h2 j v (by simpa using e)
  exact⟨t,by rw[q];congr 1;omega⟩
 have key:∀(l:List Value) (k:Nat),(∀(j:Nat) (v:Value),l[j]? =some v→∃t,v=.int ((k+j:Nat):Int) t)→Vals ((List.range' k l.length).map fun(i:Nat)=>V.int (i:Int)) l:=by
  intro l
  induction l with
  |nil=>intro k _;exact .nil
  |cons v l ih=>
   intro k h
   rw[List.length_cons,List.range'_succ,List.map_cons]
   obtain⟨t,e⟩:=h 0 v rfl
   refine .cons ⟨t,by rw[e];simp⟩ (ih (k+1) fun j w q=> ?_)
   obtain⟨t',e'⟩:=h (j+1) w (by simpa using q)
   exact⟨t',by rw[e'];congr 1;omega⟩
 have:=key l 0 (fun j v e=>by simpa using h2 j v e)
 unfold upTo
 rw[←h1,List.range_eq_range']
 exact this
theorem JK (hc:X.A.handled=none):eI X (.type "list") (fun xs H Q=> ∃(p:Addr) (j:Int),xs=[.ref p]∧H p=some (.eQ 0 j)∧0≤j∧j≤1000∧∀q,H q=none→Q (.ref q) (upd H q (.lst (upTo j.toNat)))):=by
 intro pins s σ H xs us Q I r h
 obtain⟨p,j,rfl,hp,h0,h1,q⟩:=h
 obtain⟨u,rfl,ru⟩:=vals1 r
 cases ru
 obtain⟨t,u,v,e⟩:=(show bq X.prog X.w H s.heap p (.eQ 0 j) from I.ah p _ hp)
 refine call_list_range (n:=j.toNat) hc e (small_one (by omega) (by omega) (by omega) (by omega)) (by rw[rangeSize_one];split<;>omega) (by omega) fun h' tk acc c' hk hS ko=> ?_
 have r2:=Wx ko
 have hlen:(upTo j.toNat).length≤sizeLine:=by unfold upTo;rw[List.length_map,List.length_range,sizeLine_eq];omega
 exact⟨.ref s.heap.objs.size,_,I.laid (a:=s.heap.objs.size) (o:=.lst (upTo j.toNat)) hk (Nat.le_refl _) ⟨hlen,acc.toList,c',r2,by simpa using hS⟩,rfl,q _ I.fresh⟩
theorem Kn:aZ X (binaryOp .Add) (fun x y H Q=> ∃a b ys,x=.ref a∧y=.ref b∧au X.K H a []∧au X.K H b ys∧Q (.ref b) H):=by
 intro pins s σ H x y u v Q I rx ry h
 obtain⟨a,b,ys,rfl,rfl,ha,hb,q⟩:=h
 cases rx
 cases ry
 obtain⟨aa,rv,pl,hz⟩:=I.tuple ha
 obtain⟨jb,ou,i8,eo⟩:=I.tuple hb
 cases rv
 obtain⟨⟨cls,dd,data,sl⟩,ho,fe,n,hd⟩:=id pl
 obtain⟨⟨FT,pR,data2,cQ⟩,gY,dR,n2,hd2⟩:=id i8
 simp only at fe hd dR hd2
 subst fe hd dR hd2
 exact concat_meets ⟨_,ho,rfl⟩ ⟨_,gY,rfl⟩ noFill_tuple_add seq_tuple_add PySem.F.slot_tuple_add PySem.F.entry_tuple_add (PySem.F.args_tuple_add_2 _ _)
   (tuple_addW0 a b #[] jb.toArray n n2 dd pR sl cQ rfl) ⟨ho,gY,⟨.ref b,H,I,rfl,q⟩⟩
end
theorem YM {K:PySem.W.Frag}{a:Addr}{xs:List V}{g:TG}{tt:TT}{ti:TC}{ys:List V}{σ:St}{H:Hp}{Q:List V→St→Hp→Prop}(Pv:Nat→List V→St→Hp→Prop) (h0:Pv 0 ys σ H)
  (hl:∀i ys σ H,i≤xs.length→Pv i ys σ H→au K H a xs)
  (hs:∀i x ys σ H,xs[i]? =some x→Pv i ys σ H→g x σ H fun bf H2=>tt bf H2 fun b H3=>if b=true then ti ys bf H3 (Pv (i+1)) else Pv (i+1) ys bf H3)
  (hd:∀ys σ H,Pv xs.length ys σ H→Q ys σ H):fN g tt ti (kB K a) ys σ H Q:=by
 refine⟨fun i m ys σ H=>m=xs.length - i∧i≤xs.length∧Pv i ys σ H,⟨xs.length,by simp,Nat.zero_le _,h0⟩,?_⟩
 rintro i m ys σ H ⟨rfl,hi,p⟩
 have q:=hl i ys σ H hi p
 by_cases aJ:i<xs.length
 ·refine .inr ⟨⟨xs,xs[i],q,by simp[aJ]⟩,Pv (i+1),fun aV af H' p'=> ⟨xs.length - (i+1),by omega,rfl,aJ,p'⟩,fun x H' y=> ?_⟩
  obtain⟨e,y⟩:=y
  subst e
  exact hs i x ys σ _ (y xs q) p
 ·have e:i=xs.length:=by omega
  subst e
  exact .inl ⟨⟨xs,q,Nat.le_refl _⟩,hd ys σ H p⟩
theorem Yh {K:PySem.W.Frag}{a:Addr}{xs:List V}{g:TG}{tt:TT}{ti:TC}{ys:List V}{σ:St}{H:Hp}{Q:List V→St→Hp→Prop}(Pv:Nat→List V→St→Hp→Prop) (h0:Pv 0 ys σ H)
  (hl:∀i ys σ H,i≤xs.length→Pv i ys σ H→ak K H a xs)
  (hs:∀i x ys σ H,xs[i]? =some x→Pv i ys σ H→g x σ H fun bf H2=>tt bf H2 fun b H3=>if b=true then ti ys bf H3 (Pv (i+1)) else Pv (i+1) ys bf H3)
  (hd:∀ys σ H,Pv xs.length ys σ H→Q ys σ H):fN g tt ti (iQ K a) ys σ H Q:=by
 refine⟨fun i m ys σ H=>m=xs.length - i∧i≤xs.length∧Pv i ys σ H,⟨xs.length,by simp,Nat.zero_le _,h0⟩,?_⟩
 rintro i m ys σ H ⟨rfl,hi,p⟩
 have q:=hl i ys σ H hi p
 by_cases aJ:i<xs.length
 ·refine .inr ⟨⟨xs,xs[i],q,by simp[aJ]⟩,Pv (i+1),fun aV af H' p'=> ⟨xs.length - (i+1),by omega,rfl,aJ,p'⟩,fun x H' y=> ?_⟩
  obtain⟨e,y⟩:=y
  subst e
  exact hs i x ys σ _ (y xs q) p
 ·have e:i=xs.length:=by omega
  subst e
  exact .inl ⟨⟨xs,q,Nat.le_refl _⟩,hd ys σ H p⟩
theorem Yn {lo:Int}{n:Nat}{g:TG}{tt:TT}{ti:TC}{ys:List V}{σ:St}{H:Hp}{Q:List V→St→Hp→Prop}(Pv:Nat→List V→St→Hp→Prop) (h0:Pv 0 ys σ H)
  (hs:∀i ys σ H,i<n→Pv i ys σ H→g (.int (lo+i)) σ H fun bf H2=>tt bf H2 fun b H3=>if b=true then ti ys bf H3 (Pv (i+1)) else Pv (i+1) ys bf H3)
  (hd:∀ys σ H,Pv n ys σ H→Q ys σ H):fN g tt ti (jF lo n) ys σ H Q:=by
 refine⟨fun i m ys σ H=>m=n - i∧i≤n∧Pv i ys σ H,⟨n,by simp,Nat.zero_le _,h0⟩,?_⟩
 rintro i m ys σ H ⟨rfl,hi,p⟩
 by_cases aJ:i<n
 ·refine .inr ⟨aJ,Pv (i+1),fun aV af H' p'=> ⟨n - (i+1),by omega,rfl,aJ,p'⟩,fun x H' y=> ?_⟩
  obtain⟨e,y⟩:=y
  subst e y
  exact hs i ys σ _ aJ p
 ·have e:i=n:=by omega
  subst e
  exact .inl ⟨Nat.le_refl _,hd ys σ H p⟩
theorem pb {X:Cx}{N':List Str}{scope:Scope}{C:Addr}{s:Shared}{H:Hp}{fp:List Addr}(i:Nat) {x:Str}{pos:Pos}(hN:N'.Nodup:=by decide+kernel) (hi:N'[i]? =some x:=by rfl) (hx:(relabel scope X.env).names.lookup x=some .local:=by rfl):
  PG (aS X N' scope C s H fp) (.Name x pos) (iJ i):=ZK (X:=aS X N' scope C s H fp) hN hi (.inl hx) (.inr hx)
def Def (P:Program) (w:World) (K:PySem.W.Frag) (mg:Str→Option Value) (base:Heap) (k:Nat) (x:Str) (ps:List Str) (sp:Sp):Prop:=
 ∃f fd,ar P w K mg base aC k f fd ps sp∧mg x=some (.ref f)∧PySem.W.keepIn K (.ref f)=true∧Binds K fd ps []
section
variable {X:Cx}{k:Nat}{x:Str}{ps:List Str}{sp:Sp}{e:Expr}{es:List Expr}{t:TA}{p pos:Pos}
theorem Zk (d:Def X.prog X.w X.K X.mg X.base k x ps sp) (hr:aK k X.A) (ha:PA X (e::es) t) (hg:Gl X x:=by rfl) (gg:(x==("__debug__" :Str))=false:=by decide)
  (he:starEach (e::es) X.env=(false,eval e X.env)::starEach es X.env:=by rfl) (bz:(backTo pos (starEach es X.env)).any (·.1)=false:=by rfl) (hc:X.calm=true:=by rfl):
  PE X (.Call (.Name x p) (e::es) [] pos) (gp sp [] E0 t):=by
 obtain⟨f,fd,F,hm,hk,hb⟩:=d
 exact US F hr hg hm hk hb .nil w5 ha gg he bz hc
end
def iO (K:PySem.W.Frag) (H:Hp) (x:V):Prop:=∃T,cJ K H x (.type T)
def whole:V→Bool
 | .int _=>true
 |_=>false
def bK:V→Int→Int→Bool
 | .int i,a,b=>decide (a≤i)&&decide (i≤b)
 |_,_,_=>false
def qt:Option HO→Option (List V)
 |some (.tup xs)=>some xs
 |_=>none
def cn (H:Hp):V→Option (List V)
 | .ref a=>qt (H a)
 |_=>none
theorem Z1 {H:Hp}{a:Addr} :cn H (.ref a)=qt (H a):=rfl
theorem ZH {H:Hp}{a:Addr}{xs:List V}(h:H a=some (.tup xs)):cn H (.ref a)=some xs:=by rw[Z1,h];rfl
theorem Kg {o:Option HO}{xs:List V}(h:qt o=some xs):o=some (.tup xs):=by
 cases o with
 |none=>cases h
 |some o=>cases o<;>first |(cases h;rfl) |cases h
theorem Zy {H:Hp}{x:V}{xs:List V}(h:cn H x=some xs):∃a,x=.ref a∧H a=some (.tup xs):=by
 cases x with
 |ref a=>exact⟨a,rfl,Kg h⟩
 |_=>cases h
theorem aj.cn {H H':Hp}(s:aj H H') {x:V}{xs:List V}(h:L2.cn H x=some xs):L2.cn H' x=some xs:=by
 obtain⟨a,rfl,q⟩:=Zy h
 exact ZH (s _ _ q)
theorem aj.wY {K:PySem.W.Frag}{H H':Hp}(s:aj H H') {x:V}(h:iO K H x):iO K H' x:=by
 obtain⟨T,t⟩:=h
 cases t with
 |ae=>exact⟨_,.ae⟩
 |bl y=>exact⟨_,.bl y⟩
 |int i=>exact⟨_,.int i⟩
 |str y=>exact⟨_,.str y⟩
 |gC y=>exact⟨_,.gC y⟩
 |lst e=>exact⟨_,.lst (s _ _ e)⟩
 |bZ e=>exact⟨_,.bZ (s _ _ e)⟩
 |tup e=>exact⟨_,.tup (s _ _ e)⟩
 |dK e=>exact⟨_,.dK (s _ _ e)⟩
 |dT e=>exact⟨_,.dT (s _ _ e)⟩
def sY:V→Bool
 | .int _=>true
 | .bl _=>true
 |_=>false
def xB:V→Bool
 | .bl _=>true
 |_=>false
theorem HY {K:PySem.W.Frag}{H:Hp}{x:V}{T:String}(t:cJ K H x (.type T)):PySem.W.kitOne K (.type T) (.type "int")=some (sY x):=by cases t<;>rfl
theorem KD {K:PySem.W.Frag}{H:Hp}{x:V}{T:String}(t:cJ K H x (.type T)):PySem.W.kitOne K (.type T) (.type "bool")=some (xB x):=by cases t<;>rfl
theorem IS {K:PySem.W.Frag}{H:Hp}{x:V}{T:String}(t:cJ K H x (.type T)):PySem.W.kitOne K (.type T) (.type "tuple")=some (cn H x).isSome:=by
 cases t with
 |tup e=>rw[ZH e];rfl
 |lst e=>rw[Z1,e];rfl
 |bZ e=>rw[Z1,e];rfl
 |dK e=>rw[Z1,e];rfl
 |dT e=>rw[Z1,e];rfl
 |_=>rfl
theorem WX (x:V):whole x=(sY x&& !xB x):=by cases x<;>rfl
def Az (i j k:Nat) (ta:TA):TS:=fun D σ H=>ta σ H fun vs H1=> ∃v w z,vs=[v,w,z]∧D.nx (((σ.set k (some z)).set j (some w)).set i (some v)) H1
theorem UP {X:Cx}{pos:Pos}{i j k:Nat}{x y z:Str}{a b c:Expr}{ta:TA}{px py pz pt:Pos}{kt k2 iY} (hc:X.calm=true) (hN:X.N.Nodup) (hi:X.N[i]? =some x) (hj:X.N[j]? =some y) (hk:X.N[k]? =some z)
  (hx:X.env.scope.names.lookup x=some .local) (hy:X.env.scope.names.lookup y=some .local) (hz:X.env.scope.names.lookup z=some .local) (ha:PA X [a,b,c] ta)
  (hw:swappedStores [.Tuple [.Name x px,.Name y py,.Name z pz] kt pt] (.Tuple [a,b,c] k2 iY) X.env=pure (some [x,y,z]):=by rfl)
  (hs:swapsWithSole [.Tuple [.Name x px,.Name y py,.Name z pz] kt pt] (.Tuple [a,b,c] k2 iY) pos.line X.env=pure false:=by rfl):
  PS X (.Assign [.Tuple [.Name x px,.Name y py,.Name z pz] kt pt] (.Tuple [a,b,c] k2 iY) pos) (Az i j k ta):=by
 intro pins s σ H D I h
 rw[exec_Assign_arm]
 refine wpAny_bind (wpAny_standAt ?_)
 rw[hs]
 refine wpAny_bind (wpAny_pure ?_)
 rw[if_neg (by decide)]
 refine wpAny_bind (Tuple_ (ao (ha _ pins s σ H _ I h) fun us s1 ⟨vs,H1,I1,r1,q1⟩=> ?_))
 obtain⟨v,w,t,e1,q1⟩:=q1
 subst e1
 obtain⟨u1,u2,u3,rfl,rv,eO,rt⟩:∃u1 u2 u3,us=[u1,u2,u3]∧RelV v u1∧RelV w u2∧RelV t u3:=by
  cases r1 with
  |cons p q=>
   cases q with
   |cons p' q'=>
    cases q' with
    |cons B5 BZ=>
     cases BZ
     exact⟨_,_,_,rfl,p,p',B5⟩
 refine wpAny_newObj_type ?_ (by show 3≤sizeLine;decide)
 have I2:Inv X pins σ H1 {s1 with heap:=s1.heap.push {cls:=.type "tuple",data:=.seq [u1,u2,u3].toArray} } :=I1.kept (t':=s1.toks) fun b o e=>Heap.get?_push_of_some _ e
 rw[hw]
 refine wpAny_bind (wpAny_pure ?_)
 show wpAny (model X.prog X.w) X.A (do rule "assign.swapped-stores";let items ←unpackItems (.ref s1.heap.objs.size) 3 none;assignInOrder [fun v=>bindName X.env z v,fun v=>bindName X.env y v,fun v=>bindName X.env x v] items.reverse;pure Flow.next) _ _ _
 refine wpAny_bind (wpAny_rule (wpAny_bind (qq (items:= #[u1,u2,u3]) ((I1.cw hc).keeps fun b o q=>Heap.get?_push_of_some _ q) (IsTup.new s1.heap _) fun h' tf=> ?_)))
 have I3:=I2.kept (h':=h') (t':=s1.toks) fun b o e=>tf b o (Nat.ne_of_lt (Heap.lt_size e)) e
 show wpAny _ _ (assignInOrder [fun v=>bindName X.env z v,fun v=>bindName X.env y v,fun v=>bindName X.env x v] [u3,u2,u1] >>=fun _=>pure Flow.next) _ _ _
 refine wpAny_bind (assignInOrder_cons (wpAny_bindName (ZU I3 hN hk (.inl hz) rt (fun s2 I4=> ?_) (.inr hz))))
 refine assignInOrder_cons (wpAny_bindName (ZU I4 hN hj (.inl hy) eO (fun s3 I5=> ?_) (.inr hy)))
 refine assignInOrder_cons (wpAny_bindName (ZU I5 hN hi (.inl hx) rv (fun s4 I6=>assignInOrder_nil (wpAny_pure ?_)) (.inr hx)))
 exact⟨_,H1,I6,q1⟩
def aw (p:Addr) (H H':Hp):Prop:=∀b o,H b=some o→b≠p→H' b=some o
theorem aw.trans {p:Addr}{H H1 H2:Hp}(a:aw p H H1) (b:aw p H1 H2):aw p H H2:=fun c o h n=>b c o (a c o h n) n
theorem aj.x {p:Addr}{H H1:Hp}(a:aj H H1):aw p H H1:=fun c o h _=>a c o h
theorem aw.upd {p:Addr}{H:Hp}{o:HO} :aw p H (L2.upd H p o):=fun b u h n=>by rw[Zh n];exact h
theorem Gz {X:Cx}(hu:X.A.units<cLine):aZ X (compareOp .Eq) (fun x y H Q=> ∃(a b:Addr) (xs:List V),x=.ref a∧y=.ref b∧ak X.K H a xs∧ak X.K H b []∧Q (.bl xs.isEmpty) H):=by
 intro pins s σ H x y u v Q I rx ry h
 obtain⟨a,b,xs,rfl,rfl,ha,hb,q⟩:=h
 cases rx
 cases ry
 obtain⟨aa,rv,pl,hz⟩:=I.list ha
 obtain⟨jb,ou,i8,eo⟩:=I.list hb
 cases ou
 cases rv with
 |nil=>exact SeqAt.eq_listAt (e:=fun _=>true) pl.isList i8.isList rfl hu (fun j h1 h2=>absurd h2 (by simp)) ⟨.bl true,H,I,rfl,q⟩
 |cons r t=>exact SeqAt.eq_list_lengthsAt pl.isList i8.isList (by simp) hu ⟨.bl false,H,I,rfl,q⟩
theorem GB {X:Cx}(hu:X.A.units<cLine):aZ X (compareOp .NotEq) (fun x y H Q=> ∃(a b:Addr) (xs:List V),x=.ref a∧y=.ref b∧ak X.K H a xs∧ak X.K H b []∧Q (.bl (!xs.isEmpty)) H):=by
 intro pins s σ H x y u v Q I rx ry h
 obtain⟨a,b,xs,rfl,rfl,ha,hb,q⟩:=h
 cases rx
 cases ry
 obtain⟨aa,rv,pl,hz⟩:=I.list ha
 obtain⟨jb,ou,i8,eo⟩:=I.list hb
 cases ou
 cases rv with
 |nil=>exact SeqAt.RcNeAt.lists (e:=fun _=>true) pl.isList i8.isList rfl hu (fun j h1 h2=>absurd h2 (by simp)) _ _ _ _ ⟨.bl false,H,I,rfl,q⟩
 |cons r t=>exact SeqAt.RcNeAt.lists_lengths pl.isList i8.isList (by simp) hu _ _ _ _ ⟨.bl true,H,I,rfl,q⟩
structure Fl (P:Program) (w:World) (hd:Option Value) (outer:List Env) (H:Hp) (s:Shared) (e C:Addr) (H':Hp) (s':Shared):Prop where
 os:s'.os=s.os
 bare:AllBare s'.gens
 un:Un (aA outer) [] H H' s.heap s'.heap
 ah:bc P w H' s'.heap
 pI:∃B a0 c,kE B outer e (.ref C) a0 c s'.heap∧(hd=none→c=.none)∧(∀b o,s.heap.get? b=some o→b∉aA outer→∃u,B.get? b=some u)∧∀b o,H' b=some o→∃u,B.get? b=some u
def aG (P:Program) (w:World):dH:=fun hd outer H s E ev s'=> ∃e C H',ev=.ref e∧Fl P w hd outer H s e C H' s'∧E (.ref e) (some C) H'
section
variable {P:Program}{w:World}{base:Heap}{env:Env}{outer:List Env}{s0 s1 s2:Shared}{H0 H1 H2:Hp}{e C L:Addr}{A:Around}
theorem Yk {B h1 h2:Heap}{H:Hp}(x:bc P w H h1) (ba:∀b o,H b=some o→∃u,B.get? b=some u) (k1:B.StaysIn h1) (k2:B.StaysIn h2):bc P w H h2:=fun a o ha=>
  (x a o ha).fO (fun b u hb hq=>by
    have:∃u',B.get? b=some u':=by
      rcases hb with rfl |hb
      · exact ba _ _ ha
      · exact ba _ _ hb
    obtain⟨u',hu⟩:=this
    have e1:=k1 b u' hu
    rw[hq]at e1
    cases e1
    exact k2 b _ hu) (fun _ q=>q) fun _ _ q=>q
theorem Ji {B h':Heap}(u0:Un (aA outer) [] H0 H1 s0.heap s1.heap) (u1:Un (aA (env::outer)) [] H1 H2 s1.heap s2.heap) (hf:env.frame=some L) (ab:s0.heap.objs.size≤L) (fu:s0.heap.FunFrames base outer) (fz:∀b∈aA outer,H0 b=none)
  (ba:∀b o,s1.heap.get? b=some o→b∉aA (env::outer)→∃u,B.get? b=some u) (k1:B.StaysIn s2.heap) (k2:B.StaysIn h') (up:s2.heap.UpToSlots h'):Un (aA outer) [] H0 H2 s0.heap h':=by
 have pd:∀b,b∈aA (env::outer)↔b=L∨b∈aA outer:=fun b=>by
  show b∈(env::outer).filterMap (·.frame)↔_
  rw[List.filterMap_cons_some (f:=fun(x:Env)=>x.frame) (a:=env) (b:=L) hf,List.mem_cons]
  exact Iff.rfl
 have out:∀b o,s0.heap.get? b=some o→b∉aA outer→b∉aA (env::outer):=fun b o hb hn hm=>by
  rcases (pd b).mp hm with q |q
  ·rw[q]at hb
   exact absurd (Nat.lt_of_lt_of_le (Heap.lt_size hb) ab) (Nat.lt_irrefl _)
  ·exact hn q
 have lH:∀b o u,s2.heap.get? b=some o→B.get? b=some u→h'.get? b=some o:=fun b o u hb hu=>by
  have e1:=k1 b u hu
  rw[hb]at e1
  cases e1
  exact k2 b _ hu
 have gu:∀b o,s0.heap.get? b=some o→b∈aA outer→∃sl,h'.get? b=some {o with slots:=sl} :=fun b o hb hm=>by
  obtain⟨_,o',bA,nf⟩:=fu.mem hm
  rw[hb]at bA
  cases bA
  obtain⟨cF,e1⟩:=u0.slot b o hb (fz b hm) hm (by simp)
  have n1:=u0.free b o hb (fz b hm) (by simp)
  obtain⟨cQ,e2⟩:=u1.slot b _ e1 n1 ((pd b).mpr (.inr hm)) (by simp)
  obtain⟨iW,e3⟩:=up b _ e2 nf
  exact⟨iW,e3⟩
 refine⟨fun b o hb hn bR _=> ?_,fun b o hb hn hm _=>gu b o hb hm,fun b o hb hn hx=> ?_,fun b o hb _=> ?_,fun b xs hb=>u1.dJ b xs (u0.dJ b xs hb),fun b o u hb=>u1.dB b o u (u0.dB b o u hb),fun b ps hb=> ?_⟩
 ·have e1:=u0.keep b o hb hn bR (by simp)
  have n1:=u0.free b o hb hn (by simp)
  have kn:=out b o hb bR
  have e2:=u1.keep b o e1 n1 kn (by simp)
  obtain⟨u,hu⟩:=ba b o e1 kn
  exact lH b o u e2 hu
 ·obtain⟨o1,e1⟩:=u0.there b o hb (by simp)
  have n1:=u0.free b o hb hn (by simp)
  exact u1.free b o1 e1 n1 (by simp)
 ·by_cases hm:b∈aA outer
  ·obtain⟨sl,q⟩:=gu b o hb hm
   exact⟨_,q⟩
  ·obtain⟨o1,e1⟩:=u0.there b o hb (by simp)
   obtain⟨u,hu⟩:=ba b o1 e1 (out b o hb hm)
   exact⟨u,k2 b u hu⟩
 ·obtain⟨m1,q1⟩:=u0.dq b ps hb
  obtain⟨m2,q2⟩:=u1.dq b _ q1
  exact⟨m1++m2,by rw[q2,Array.append_assoc]⟩
end
theorem oA {P:Program}{w:World}{K:PySem.W.Frag}{mg:Str→Option Value}{base:Heap}{N:List Str}{qual:Str}{scope:Scope}{f:Addr}{cd:Value}{A:Around}{outer:List Env}{s:Shared}{H:Hp}{E:XK} :
  Passes (aG P w) (bB (aG P w) P w K mg base N qual scope f cd A outer s H E) E:=by
 intro pins σ H1 s1 ev s2 I h
 obtain⟨e,C,H',rfl,F,hE⟩:=h
 obtain⟨B,a0,c,fl,mf,ba,cz⟩:=F.pI
 refine xu (L:=s.heap.objs.size) I.ok.frames rfl fl fun h' jr up=> ?_
 refine⟨e,C,H',rfl,⟨F.os.trans I.os,F.bare,Ji (base:=base) (L:=s.heap.objs.size) I.base F.un rfl (Nat.le_refl _) I.ok.bY I.ok.dU ba fl.1.1 jr.1.1 up,Yk F.ah cz fl.1.1 jr.1.1,B,a0,c,jr,mf,fun b o hb hn=> ?_,cz⟩,hE⟩
 obtain⟨o1,e1⟩:=I.base.there b o hb (by simp[bB])
 refine ba b o1 e1 fun hm=> ?_
 have gb:b∈(envOfC qual scope s.heap.objs.size f cd::outer).filterMap (·.frame):=hm
 rw[List.filterMap_cons_some (f:=fun(x:Env)=>x.frame) (a:=envOfC qual scope s.heap.objs.size f cd) (b:=s.heap.objs.size) rfl]at gb
 rcases List.mem_cons.mp gb with q |q
 ·rw[q]at hb
  exact absurd (Heap.lt_size hb) (Nat.lt_irrefl _)
 ·exact hn q
theorem IB {K:PySem.W.Frag}{h:Heap}{C:Addr}{iM:List Value}{newId:String}(X:K.In h) (q:PySem.W.excIn K C iM newId=true):
  ∃bm N nm qn bs hdct sn sub ab col dd k0 k1 k2 k3 k5 mN,h.get? C=some (excClassObj nm qn C N bs bm hdct sn sub ab col dd k0 k1 k2 k3 k5 newId)∧h.Ns N mN∧mN "__init__" =none∧OwnTail h iM bm:=by
 unfold PySem.W.excIn at q
 split at q
 ·rename_i dd cd sl lk
  split at q
  ·rename_i c2 bm j0 j1 j2 j3 nn j5 em es
   rw[Bool.and_eq_true,Bool.and_eq_true,Bool.and_eq_true,Bool.and_eq_true,Bool.and_eq_true]at q
   obtain⟨⟨⟨⟨⟨q1,q2⟩,q3⟩,q4⟩,q5⟩,q6⟩:=q
   have z1:=beq_iff_eq.mp q1
   have z2:=beq_iff_eq.mp q2
   have z6:=beq_iff_eq.mp q6
   subst z1 z2
   have ob:=X _ _ lk
   have z3:cd.hasDel=false:=by revert q3;cases cd.hasDel<;>simp
   have zs:sl= #[j0,j1,j2,j3,some (.builtin nn),j5]:=by
    apply Array.toList_inj.mp
    rw[es]
   refine⟨bm,cd.ns,cd.name,cd.qualname,cd.bases,cd.hasDict,cd.slotNames,cd.subclasses,cd.abstract,cd.collection,dd,j0,j1,j2,j3,j5,h.nsMap cd.ns,?_,.of_isNs (PySem.W.isNs_of_in X q5),PySem.W.nsMap_none_of_in X q5 z6,PySem.W.tail_of_in X q4⟩
   rw[ob,zs]
   obtain⟨a1,a2,a3,a4,a5,a6,a7,a8,a9,a10,a11⟩:=cd
   cases em
   cases z3
   rfl
  ·cases q
 ·cases q
def Ax (C:Addr) (E:XK) (ta:TA):TS:=fun _ σ H=>ta σ H fun vs H1=>vs.length≤sizeLine∧∀e,E (.ref e) (some C) H1
theorem WS {P:Program}{w:World}{K:PySem.W.Frag}{mg:Str→Option Value}{base:Heap}{N:List Str}{qual:Str}{scope:Scope}{f:Addr}{cd:Value}{A:Around}{outer:List Env}{s s1:Shared}{H H1:Hp}{E:XK}
  {pins:List (Addr×Obj)}{σ:St}{h':Heap}{e C:Addr} (I:Inv (bB (aG P w) P w K mg base N qual scope f cd A outer s H E) pins σ H1 s1) (mk:MadeX s1.heap h' e (.ref C) (uM A.handled)) (hE:E (.ref e) (some C) H1):
  (bB (aG P w) P w K mg base N qual scope f cd A outer s H E).xe (.ref e) {s1 with heap:=h'} :=by
 have DL:∀env∈(envOfC qual scope s.heap.objs.size f cd::outer),∀b,env.frame=some b→b∈aA (envOfC qual scope s.heap.objs.size f cd::outer):=fun env he b hb=>List.mem_filterMap.mpr ⟨env,he,hb⟩
 have st:=I.stack
 refine CH (L:=s.heap.objs.size) (base:=PySem.W.hideAll s1.heap (aA (envOfC qual scope s.heap.objs.size f cd::outer))) (h:=s1.heap) I.ok.frames rfl (fun b o q=>PySem.W.of_hideAll _ q) (PySem.W.funFrames_hide st DL) mk fun h2 a0 fl up=> ?_
 have ba:∀b o,s1.heap.get? b=some o→b∉aA (envOfC qual scope s.heap.objs.size f cd::outer)→∃u,(PySem.W.hideAll s1.heap (aA (envOfC qual scope s.heap.objs.size f cd::outer))).get? b=some u:=fun b o hb hn=> ⟨o,PySem.W.hideAll_get _ hb hn⟩
 have cz:∀b o,H1 b=some o→∃u,(PySem.W.hideAll s1.heap (aA (envOfC qual scope s.heap.objs.size f cd::outer))).get? b=some u:=fun b o hb=>by
  have hl:=I.ah.lt hb
  have hx:∃u,s1.heap.get? b=some u:=by
   have ok:=I.ah b o hb
   cases o with
   |lst xs=>obtain⟨_,_,_,_,q⟩:=ok;exact⟨_,q⟩
   |tup xs=>obtain⟨_,_,_,⟨ob,q,_⟩,_⟩:=ok;exact⟨_,q⟩
   |par xs=>obtain⟨_,_,_,ob,q,_⟩:=ok;exact⟨_,q⟩
   |dK ag=>obtain⟨_,_,_,_,ob,_,_,q,_⟩:=ok;exact⟨_,q⟩
   |dT ag=>obtain⟨_,_,_,_,ob,_,_,q,_⟩:=ok;exact⟨_,q⟩
   |set S n=>obtain⟨ob,_,_,_,q,_⟩:=ok;exact⟨_,q⟩
   |ins C dx fs=>obtain⟨_,_,_,q,_⟩:=ok;exact⟨_,q⟩
   |own y=>exact ok
   |xd fs=>obtain⟨_,⟨_,_,_,q,_⟩,_⟩:=ok;exact⟨_,q⟩
   |eQ lo hi=>obtain⟨_,_,_,q⟩:=ok;exact⟨_,q⟩
   |bZ ob u=>exact⟨_,ok.1⟩
   |bt ps=>exact⟨_,(show s1.heap.get? b=some _ from ok)⟩
   |met f y=>exact⟨_,(show s1.heap.get? b=some _ from ok)⟩
   |ext φ=>exact ok.2.1
  obtain⟨u,hu⟩:=hx
  exact ba b u hu fun hm=>by
   have:=I.jO b hm
   rw[this]at hb
   cases hb
 have k1:Heap.StaysIn (PySem.W.hideAll s1.heap (aA (envOfC qual scope s.heap.objs.size f cd::outer))) h':=fun b o q=>mk.keeps b o (PySem.W.of_hideAll _ q)
 refine⟨e,C,H1,rfl,⟨I.os,I.bare,Ji (s1:=s1) (s2:= {s1 with heap:=h'}) (base:=base) (L:=s.heap.objs.size) I.base (Un.kept mk.keeps) rfl (Nat.le_refl _) I.ok.bY I.ok.dU ba k1 fl.1.1 up,Yk (I.ah.kept mk.keeps) cz k1 fl.1.1,_,_,_,fl,fun z=> (by rw[z];rfl),fun b o hb hn=> ?_,cz⟩,hE⟩
 obtain⟨o1,e1⟩:=I.base.there b o hb (by simp[bB])
 refine ba b o1 e1 fun hm=> ?_
 have gb:b∈(envOfC qual scope s.heap.objs.size f cd::outer).filterMap (·.frame):=hm
 rw[List.filterMap_cons_some (f:=fun(x:Env)=>x.frame) (a:=envOfC qual scope s.heap.objs.size f cd) (b:=s.heap.objs.size) rfl]at gb
 rcases List.mem_cons.mp gb with q |q
 ·rw[q]at hb
  exact absurd (Heap.lt_size hb) (Nat.lt_irrefl _)
 ·exact hn q
theorem Yf {P:Program}{w:World}{K:PySem.W.Frag}{mg:Str→Option Value}{base:Heap}{N:List Str}{qual:Str}{scope:Scope}{f:Addr}{cd:Value}{A:Around}{outer:List Env}{s:Shared}{H:Hp}{E:XK}{x:Str}{C:Addr}{B newId sZ:String}{iM:List Value}
  {js:Expr}{rest:List Expr}{np aY pos:Pos}{ta:TA} (FB:ExcBaseFacts B newId sZ iM) (hmg:mg x=some (.ref C)) (hex:PySem.W.excIn K C iM newId=true) (hg:Gl (bB (aG P w) P w K mg base N qual scope f cd A outer s H E) x)
  (ha:PA (bB (aG P w) P w K mg base N qual scope f cd A outer s H E) (js::rest) ta)
  (he:starEach (js::rest) (envOfC qual scope s.heap.objs.size f cd)=(false,eval js (envOfC qual scope s.heap.objs.size f cd))::starEach rest (envOfC qual scope s.heap.objs.size f cd):=by rfl)
  (bz:(backTo aY (starEach rest (envOfC qual scope s.heap.objs.size f cd))).any (·.1)=false:=by rfl) (hd:(x==("__debug__" :Str))=false:=by decide):
  PS (bB (aG P w) P w K mg base N qual scope f cd A outer s H E) (.Raise (some (.Call (.Name x np) (js::rest) [] aY)) none pos) (Ax C E ta):=by
 intro pins s1 σ H1 D I h
 obtain⟨bm,Nn,nm,qn,bs,hdct,sn,sub,ab,col,dd,k0,k1,k2,k3,k5,mN,hC,hN,tL,T⟩:=IB I.mod.gU hex
 refine BJ (C:=C) (nm:=nm) (q:=qn) (N:=Nn) (bs:=bs) (bm:=bm) (hdct:=hdct) (sn:=sn) (sub:=sub) (ab:=ab) (col:=col) (dd:=dd) (k0:=k0) (k1:=k1) (k2:=k2) (k3:=k3) (k5:=k5)
  FB (mN:=mN) (T.hasType FB.hasBase) ?_ tL (Yo I hg hmg ⟨rfl,?_⟩ hd)
 ·show(backTo aY (starEach (js::rest) (envOfC qual scope s.heap.objs.size f cd))).any (·.1)=false
  rw[he]
  show(false||(backTo aY (starEach rest (envOfC qual scope s.heap.objs.size f cd))).any (·.1))=false
  rw[bz]
  rfl
 ·have q:=ha aY pins s1 σ H1 _ I h
  show wpAny _ _ (evalArgs (.ref C) true (backTo aY (starEach (js::rest) (envOfC qual scope s.heap.objs.size f cd))) []) _ _ _
  have q':wpAny (model P w) (A.deeper (envOfC qual scope s.heap.objs.size f cd)) (spliced (backTo aY (starEach (js::rest) (envOfC qual scope s.heap.objs.size f cd)))) _ _ s1:=q
  rw[he]at q' ⊢
  refine Calls.evalArgs_plain (wpAny_mono q' (fun us s2 h2=> ?_) fun _ _ y=>y)
  obtain⟨vs,H2,I2,r,hz,hE⟩:=h2
  refine⟨rfl,by rw[←r.length];exact hz,I2.bk _ _ hC,hN.keeps I2.bk,T.keeps I2.bk,I2.cw rfl,fun h' e mk=> ?_⟩
  exact WS I2 mk (hE e)
section
variable {P:Program}{w:World}{K:PySem.W.Frag}{mg:Str→Option Value}{base:Heap}
theorem az.ej {x qual:Str}{st:Stmt}{f:Addr}{fd:FuncData}{N ps:List Str}{k:Nat}{sp:Sp}(F:az K x qual st f fd) (S:aF N ps (aq st)) (len:∀vs H Q E,sp vs H Q E→vs.length=ps.length)
    (hb:∀(ai:Value) (A:Around) (outer:List Env) (s:Shared) (H:Hp) (vs:List V) (Q:VK) (E:XK),aK k (A.deeper (envOfC qual (aq st) s.heap.objs.size f ai))→sp vs H Q E→
      ∃t,cK (bB (aG P w) P w K mg base N qual (aq st) f ai A outer s H E) (bp st) t∧t {nx:=fun _ H'=>Q .ae H',rt:=Q} (start N vs) H):ar P w K mg base (aG P w) (k+1) f fd ps sp:=by
  obtain⟨oc,od,kV,doc,pm,an,ai,ct,ck,rfl,lk,bJ⟩:=F.ex
  exact U2 lk bJ S len fun A outer s H vs Q E hr bX=>hb ai A outer s H vs Q E hr bX
def cE (P:Program) (w:World) (K:PySem.W.Frag) (mg:Str→Option Value) (base:Heap) (k:Nat) (x:Str) (ps:List Str) (sp:Sp):Prop:=
 ∃f fd,ar P w K mg base (aG P w) k f fd ps sp∧mg x=some (.ref f)∧PySem.W.keepIn K (.ref f)=true∧Binds K fd ps []
theorem ZR {N:List Str}{qual:Str}{scope:Scope}{f:Addr}{cd:Value}{A:Around}{outer:List Env}{s:Shared}{H:Hp}{E:XK}{k:Nat}{x:Str}{ps:List Str}{sp:Sp}{e:Expr}{es:List Expr}{t:TA}{p pos:Pos}
  (d:cE P w K mg base k x ps sp) (hr:aK k (A.deeper (envOfC qual scope s.heap.objs.size f cd))) (ha:PA (bB (aG P w) P w K mg base N qual scope f cd A outer s H E) (e::es) t) (hg:Gl (bB (aG P w) P w K mg base N qual scope f cd A outer s H E) x:=by rfl)
  (gg:(x==("__debug__" :Str))=false:=by decide)
  (he:starEach (e::es) (envOfC qual scope s.heap.objs.size f cd)=(false,eval e (envOfC qual scope s.heap.objs.size f cd))::starEach es (envOfC qual scope s.heap.objs.size f cd):=by rfl)
  (bz:(backTo pos (starEach es (envOfC qual scope s.heap.objs.size f cd))).any (·.1)=false:=by rfl):
  PE (bB (aG P w) P w K mg base N qual scope f cd A outer s H E) (.Call (.Name x p) (e::es) [] pos) (gp sp [] E t):=by
 obtain⟨g,fd,F,hm,hk,hb⟩:=d
 exact US F hr hg hm hk hb .nil oA ha gg he bz
end
end L2
namespace L2
open PySem PySem.Spec PyProof.Rows PySem.Builtin PySem.Builtin.ObjectAttr PySem.Builtin.Getset_descriptor
def iL (e C:Addr):HO:=.ext fun h=> ∃o,h.get? e=some o∧o.cls=.ref C
structure jI (K:PySem.W.Frag) (C:Addr):Prop where
 ga:PySem.W.findIn K (.ref C) "__getattribute__" =some (some (.builtin "BaseException.__getattribute__"))
 hook:PySem.W.findIn K (.ref C) "__getattr__" =some none
 cl:PySem.W.findIn K (.ref C) "__class__" =some (some (.builtin "object.__class__"))
 ob:PySem.W.mroIn K C (.type "object")=some true
 bx:PySem.W.mroIn K C (.type "BaseException")=some true
 cls:(PySem.W.clsIn K C).isSome=true
section
variable {prog:Program}{w:World}{A:Around}{E:Value→Shared→Prop}{s:Shared}{K:PySem.W.Frag}{e C:Addr}{o:Obj}{R:Result→Shared→Prop}
theorem YE {M:Model}{h:Heap}(hx:h.get? e=some o) (hc:o.cls=.ref C):PySem.W.Looks M h (typeOf (.ref e)) (.ref C):=hc▸(PySem.W.Looks.ld hx).andThen .now
theorem HL {tp:Value}(X:K.In s.heap) (hx:s.heap.get? e=some o) (hc:o.cls=.ref C) (Z:jI K C) (h:R (.ok (.ret (.ref C))) s):
  codeAny (model prog w) A (.call (.builtin "getset_descriptor.__get__") ⟨[.builtin "object.__class__",.ref e,tp],[]⟩) R s:=by
 obtain⟨h0,g0,d0,t0,o0⟩:=s
 have LT:=YE (M:=model prog w) hx hc
 have LM:=PySem.W.looks_mroIn (M:=model prog w) X Z.ob
 refine codeAny_call_builtin PySem.W.KF.slot_gs.plain PySem.W.KF.entry_gs (PySem.W.KF.slot_gs.check _ _ _ _ _ _ _ _ PySem.W.KF.type_class (PySem.W.KF.args_gs _ _ _) ?_)
 unfold Builtin.«getset_descriptor.__get__» descrGet
 rw[PySem.W.dga_obj]
 refine wpAny_bind (wpAny_pure ?_)
 unfold descrGetter descrCheckInstance descrNameAndClass isInstance
 simp only[PySem.W.KF.owner_class]
 repeat lk
 refine⟨Code.quiet_builtin _ (by decide+kernel),codeAny_builtin PySem.W.KF.entry_class ?_⟩
 unfold Builtin.«object.__class__» shownTypeOf
 repeat lk
 exact h
theorem II {tk:Tok}{Q:PySem.Fin→Shared→Prop}(X:K.In s.heap) (hx:s.heap.get? e=some o) (hc:o.cls=.ref C) (Z:jI K C) (hq:Q (.done (.ret (.ref C))) s):
  wpAny (model prog w) A (Builtin.«object.__getattribute__» ⟨[.ref e,.str "__class__" tk],[]⟩) Q E s:=by
 obtain⟨h0,g0,d0,t0,o0⟩:=s
 have LT:=YE (M:=model prog w) hx hc
 have LC:=PySem.W.looks_findIn (M:=model prog w) X Z.cl
 have LP:(⟨h0,g0,d0,t0,o0⟩:Shared).TypeIs (.builtin "object.__class__") "getset_descriptor" :=F.typeOf_object_class
 have f5:=F.typeOf_object_class
 have f6:=F.slot_gs_get.lookup
 have f7:=F.slot_gs_set.lookup
 repeat (any_goals (first |assumption |with_reducible refine LT.at ?_ |with_reducible refine LC.at ?_ |wp_step))
 refine HL (s:=⟨h0,g0,d0,t0,o0⟩) X hx hc Z ?_
 exact wpAny_pure hq
theorem HK {tk:Tok}(X:K.In s.heap) (hx:s.heap.get? e=some o) (hc:o.cls=.ref C) (Z:jI K C) (hq:R (.ok (.ret (.ref C))) s):
  codeAny (model prog w) A (.call (.builtin "BaseException.__getattribute__") ⟨[.ref e,.str "__class__" tk],[]⟩) R s:=by
 refine codeAny_call_builtin F.attr_ValueError.ga.plain F.entry_bexc_ga ?_
 obtain⟨h0,g0,d0,t0,o0⟩:=s
 have LT:=YE (M:=model prog w) hx hc
 have LB:=PySem.W.looks_mroIn (M:=model prog w) X Z.bx
 have hk:builtinKind "BaseException.__getattribute__" =some .slot:=by decide+kernel
 have bX:splitId "BaseException.__getattribute__" =some ("BaseException", "__getattribute__"):=by decide+kernel
 have ha:=F.args_bexc_ga (.ref e) (.str "__class__" tk)
 simp only[checkBuiltinCall,hk,bX]
 have LI:PySem.W.Looks (model prog w) h0 (isInstance (.ref e) (.type "BaseException")) true:=LT.andThen LB
 refine wpAny_bind (LI.at ?_)
 repeat (first |exact II (s:=⟨h0,g0,d0,t0,o0⟩) X hx hc Z hq |assumption |wp_step)
theorem HJ {Q:Option Value→Shared→Prop}(X:K.In s.heap) (hx:s.heap.get? e=some o) (hc:o.cls=.ref C) (Z:jI K C) (hq:Q (some (.ref C)) {s with toks:=s.toks+1}):
  wpAny (model prog w) A (getAttr? (.ref e) "__class__") Q E s:=by
 obtain⟨h0,g0,d0,t0,o0⟩:=s
 have LT:=YE (M:=model prog w) hx hc
 have L1:=PySem.W.looks_findIn (M:=model prog w) X Z.ga
 have L2:=PySem.W.looks_findIn (M:=model prog w) X Z.hook
 have f3:=F.attr_ValueError.ga.bind (.ref e)
 have CY:(Value.builtin "BaseException.__getattribute__" ==Value.builtin "object.__getattribute__")=false:=by decide+kernel
 have Ly:(onTheHeap (Value.ref C)&&Value.builtin "BaseException.__getattribute__" ==Value.builtin "object.__getattribute__")=false:=by rw[CY];rfl
 unfold getAttr? getAttrBy? getAttrBy
 refine wpAny_bind (wpAny_mkText (wpAny_bind (wpAny_attempt (wpAny_holding (wpAny_bind (LT.at (wpAny_bind (L1.at ?_))))))))
 repeat (any_goals (first |assumption |with_reducible refine L2.at ?_ |wp_step))
 refine HK (s:=⟨h0,g0,d0,t0+1,o0⟩) X hx hc Z ?_
 repeat (any_goals (first |assumption |wp_step))
theorem KG (Z:jI K C):PySem.W.KitX K (.ref e) (.ref C) (fun h=> ∃o,h.get? e=some o∧o.cls=.ref C) where
 ty:=fun M h _ ⟨o,hx,hc⟩=>YE hx hc
 it:=fun M h X _=>by
  obtain⟨cd,bJ⟩:=Option.isSome_iff_exists.mp Z.cls
  unfold PySem.W.clsIn at bJ
  split at bJ
  ·rename_i lk
   intro A2 Q2 E2 s2 k q
   unfold isType loadHead
   exact wpAny_bind (wpAny_loadPart (k _ _ (X _ _ lk)) (wpAny_pure q))
  ·cases bJ
 ne:=fun h tp dd aa n sl X xC=>by
  obtain⟨cd,bJ⟩:=Option.isSome_iff_exists.mp Z.cls
  refine Bool.eq_false_iff.mpr fun q=> ?_
  have z:C=tp:=Value.ref.inj (beq_iff_eq.mp q)
  rw[←z]at xC
  unfold PySem.W.clsIn at bJ
  split at bJ
  ·rename_i lk
   have y:=(X _ _ lk).symm.trans xC
   cases y
  ·cases bJ
 ca:=fun X ⟨o,hx,hc⟩ k=>HJ X hx hc Z k
end
section
variable {X:Cx}
theorem Zt:eI X (.builtin "isinstance") (fun xs H Q=> ∃e C y c b,xs=[.ref e,y]∧H e=some (iL e C)∧jI X.K C∧(∀u,RelV y u→u=c)∧PySem.W.kitOne X.K (.ref C) c=some b∧Q (.bl b) H):=by
 rintro pins s σ H vs us Q I r ⟨e,C,y,c,b,rfl,he,Z,hy,hk,q⟩
 cases r with
 |cons r1 r2=>
  cases r2 with
  |cons r3 r4=>
   cases r4
   rw[hy _ r3]
   rw[show _=Value.ref e from r1]
   obtain⟨p,_,_⟩:=(show bq X.prog X.w H s.heap e (iL e C) from I.ah e _ he)
   exact PySem.W.kia_one (KG Z) I.aW p hk (fun z=>nomatch z) fun tk=> ⟨.bl b,H,I.tok _,rfl,q⟩
end
end L2
namespace L2
open PySem PySem.Spec PyProof.Rows
abbrev Cx.fb (X:Cx) (e:Value):Cx:= {X with A:=X.A.mark (some e),calm:=false,xe:=fun _ _=>False}
section
variable {X:Cx}{pins:List (Addr×Obj)}{σ:St}{H H':Hp}{s s':Shared}
theorem Inv.fb (I:Inv X pins σ H s) (e:Value):Inv (X.fb e) pins σ H s:=
 ⟨⟨I.ok.mod,I.ok.kind,I.ok.glob,I.ok.blt,I.ok.above,I.ok.inj,I.ok.has,I.ok.gG,fun h=>Bool.noConfusion h,I.ok.frames,I.ok.ig,I.ok.gF,I.ok.bs,I.ok.fj,I.ok.gR,I.ok.gi,I.ok.bY,I.ok.dU⟩,I.os,I.bare,I.base,I.loc,I.cell,I.free,I.dC,I.pin,I.ah,I.len⟩
theorem Inv.Ah {e:Value}(I:Inv (X.fb e) pins σ H s) (hd:X.calm=true→bb X.base X.A.handled):Inv X pins σ H s:=
 ⟨⟨I.ok.mod,I.ok.kind,I.ok.glob,I.ok.blt,I.ok.above,I.ok.inj,I.ok.has,I.ok.gG,hd,I.ok.frames,I.ok.ig,I.ok.gF,I.ok.bs,I.ok.fj,I.ok.gR,I.ok.gi,I.ok.bY,I.ok.dU⟩,I.os,I.bare,I.base,I.loc,I.cell,I.free,I.dC,I.pin,I.ah,I.len⟩
theorem Inv.y0 {e C:Addr}{B h':Heap}{o:Obj}(I:Inv X pins σ H s) (un:Un (aA X.stack) [] H H' s.heap s'.heap) (os:s'.os=s.os) (bare:AllBare s'.gens) (ah:bc X.prog X.w H' s'.heap)
  (ba:∀b o,s.heap.get? b=some o→b∉aA X.stack→∃u,B.get? b=some u) (cz:∀b o,H' b=some o→∃u,B.get? b=some u) (be:B.get? e=none) (k1:B.StaysIn s'.heap) (k2:B.StaysIn h') (up:s'.heap.UpToSlots h')
  (he:h'.get? e=some o) (hc:o.cls=.ref C) (hd:∃vs,o.data=.fields vs):Inv X pins σ (upd H' e (iL e C)) {s' with heap:=h'}∧H' e=none:=by
 have n0:H' e=none:=by
  cases q:H' e with
  |none=>rfl
  |some u=>
   obtain⟨u',hu⟩:=cz e u q
   rw[be]at hu
   cases hu
 have gu:∀b o,s.heap.get? b=some o→b∈aA X.stack→∃sl,h'.get? b=some {o with slots:=sl} :=fun b o hb hm=>by
  obtain⟨_,o',bA,nf⟩:=I.stack.mem hm
  rw[hb]at bA
  cases bA
  obtain⟨cF,e1⟩:=un.slot b o hb (I.jO b hm) hm (by simp)
  obtain⟨cQ,e2⟩:=up b _ e1 nf
  exact⟨cQ,e2⟩
 have oG:∀b u,s.heap.get? b=some u→b≠e:=fun b u hb z=>by
  rw[z]at hb
  by_cases hm:e∈aA X.stack
  ·obtain⟨_,o',bA,nf⟩:=I.stack.mem hm
   rw[hb]at bA
   cases bA
   obtain⟨sl,q⟩:=gu e u hb hm
   rw[he]at q
   cases q
   obtain⟨vs,hv⟩:=hd
   exact nf vs hv
  ·obtain⟨u',hu⟩:=ba e u hb hm
   rw[be]at hu
   cases hu
 have lH:∀b o u,s'.heap.get? b=some o→B.get? b=some u→h'.get? b=some o:=fun b o u hb hu=>by
  have e1:=k1 b u hu
  rw[hb]at e1
  cases e1
  exact k2 b _ hu
 refine⟨I.pV (s':= {s' with heap:=h'}) (ch:=[]) os ⟨fun b u hb hn hf _=> ?_,fun b u hb hn hm _=>gu b u hb hm,fun b u hb hn _=> ?_,fun b u hb _=> ?_,fun b xs hb=> ?_,fun b u v hb=> ?_,fun b ps hb=> ?_⟩ ?_ bare (fun b hb=>absurd hb (by simp)),n0⟩
 ·have e1:=un.keep b u hb hn hf (by simp)
  obtain⟨u',hu⟩:=ba b u hb hf
  exact lH b u u' e1 hu
 ·rw[Zh (oG b u hb)]
  exact un.free b u hb hn (by simp)
 ·by_cases hm:b∈aA X.stack
  ·obtain⟨sl,q⟩:=gu b u hb hm
   exact⟨_,q⟩
  ·obtain⟨u',hu⟩:=ba b u hb hm
   exact⟨u',k2 b u' hu⟩
 ·have q:=un.dJ b xs hb
  rw[Zh (Zg q n0)]
  exact q
 ·have q:=un.dB b u v hb
  rw[Zh (Zg q n0)]
  exact q
 ·obtain⟨m,q⟩:=un.dq b ps hb
  exact⟨m,by rw[Zh (Zg q n0)];exact q⟩
 ·intro b u hb
  by_cases fv:b=e
  ·subst fv
   rw[Zc]at hb
   cases hb
   refine⟨⟨o,he,hc⟩,⟨o,he⟩,fun h1 h2 p k=> ?_⟩
   obtain⟨o1,q1,q2⟩:=p
   exact⟨o1,k _ q1,q2⟩
  ·rw[Zh fv]at hb
   have x:=Yk ah cz k1 k2 b u hb
   refine x.fO (fun c w' ft q=>q) (fun c q=> ?_) fun c xs q=> ?_
   ·rw[Zh (Zg q n0)];exact q
   ·rw[Zh (Zg q n0)];exact q
end
def Au (X:Cx) (ic ie:Nat) (cS:Addr) (k:Nat) (ts:TS):TS:=fun D σ H=> ∃f fd sp,σ[ic]? =some (some (.ref f))∧(∀s,bc X.prog X.w H s→PySem.W.FnAt f s)∧ar X.prog X.w X.K X.mg X.base (aG X.prog X.w) k f fd [] sp∧(∀s,BindsTo s fd ⟨[],[]⟩ [])∧
 sp [] H (fun _ _=>False) fun ev c H'=> ∃e C,ev=.ref e∧c=some C∧PySem.W.exmOne X.K (.ref C) (.ref cS)=some true∧(H' e=none→ts {nx:=fun af H2=>D.nx (af.set ie none) H2,rt:=fun _ _=>False} (σ.set ie (some (.ref e))) (upd H' e (iL e C)))
theorem Ur {X:Cx}{ic ie k:Nat}{c n S:Str}{cS:Addr}{b0:Stmt}{kL:List Stmt}{ts:TS}{p1 p2 p3 p4 p5 p6:Pos}(tZ:X.calm=true) (dA:X.stack=X.env::X.outer) (bT:X.env.frame=some X.env.locals) (hN:X.N.Nodup) (DN:X.N[ic]? =some c) (C2:jy X.env.scope c)
  (pj:X.N[ie]? =some n) (l9:X.env.scope.names.lookup n=some .local) (hS:X.mg S=some (.ref cS)) (tR:Gl X S) (hr:aK k X.A) (tw:∀e,cK (X.fb (.ref e)) (b0::kL) ts)
  (cw:(c==("__debug__" :Str))=false:=by decide) (D9:(c==("__classdict__" :Str))=false:=by decide) (tX:(S==("__debug__" :Str))=false:=by decide)
  (lV:swapsWith (.Call (.Name c p1) [] [] p2) none p3.line X.env=pure false:=by rfl):
  PS X (.Try [.Expr (.Call (.Name c p1) [] [] p2) p3] [.ExceptHandler (some (.Name S p4)) (some n) (b0::kL) p5] [] [] p6) (Au X ic ie cS k ts):=by
 intro pins s σ H D I h
 obtain⟨f,fd,sp,dz,fc,F,hb,bX⟩:=h
 refine wpAny_Try_except ?_
 refine wpAny_execs_cons (wpAny_Expr_any ?_ I.quiet lV)
 refine wpAny_Call_Name_kw ?_
 have nm:=YW (X:=X.dn (fun _ _=>False)) (i:=ic) (x:=c) (pos:=p1) DN C2 cw D9 pins s σ H (fun v H2=>v=.ref f∧H2=H) (I.dn _) ⟨_,dz,rfl,rfl⟩
 refine wpAny_mono nm (fun u s1 h1=> ?_) (fun _ _ z=>z.elim)
 obtain⟨v,H1,I1,r1,rfl,rfl⟩:=h1
 have I1:=I1.fJ
 obtain rfl:u=Value.ref f:=r1
 refine PySem.W.callWith_F0 (fc _ I1.ah) ?_
 refine wpAny_call (codeAny_mono (F.run X.A X.stack s1 H1 ⟨[],[]⟩ [] [] _ _ hr (I1.pO tZ) (hb s1) .nil bX) fun r s2 hq=> ?_)
 cases r with
 |ok fl=>
  cases fl with
  |ret u=>obtain⟨_,_,_,_,_,_,_,z⟩:=hq;exact z.elim
  |next=>exact hq.elim
  |brk=>exact hq.elim
  |cont=>exact hq.elim
 |error ev=>
  obtain⟨e,C,H2,rfl,FL,e',C',q1,q2,hx,hk⟩:=hq
  cases q1
  cases q2
  obtain⟨B,a0,c0,⟨fl,_⟩,_,ba,cz⟩:=FL.pI
  rw[dA]at fl
  show wpAny (model X.prog X.w) X.A (noteFrame (.ref e) X.env) _ X.xe s2
  have mq:X.A.frames=some (X.env::X.outer):=by rw[←dA];exact I.ok.frames
  refine wpAny_looks_onW (L:=X.env.locals) mq bT fl fun h4 held kH=> ?_
  refine wpAny_landsW held fun h5 mx kG=> ?_
  have F6:∃o vs,h5.get? e=some o∧o.cls=.ref C∧o.data=.fields vs:=by
   obtain⟨oe,vs,g1,g2,g3,_⟩:=mx.first
   exact⟨oe,vs,g1,g2,g3⟩
  obtain⟨o5,Ae,ml,pH,um⟩:=F6
  have c5:=I1.y0 (h':=h5) FL.un FL.os FL.bare FL.ah ba cz fl.2.1 fl.1 mx.1 (kH.trans kG) ml pH ⟨_,um⟩
  have I5:=c5.1.fb (.ref e)
  refine wpAny_handleBy_cons (codeAny_handlers_test ?_) (by intro q;cases q)
  refine Yo (X:=X.fb (.ref e)) I5 tR hS ?_ tX
  have LX:=PySem.W.exm_one (M:=model X.prog X.w) (c:=.ref cS) (e:=e) I5.aW (YE ml pH) hx
  refine LX.at ?_
  refine codeAny_handlers_suite_as ?_
  refine lands_againW (s:= {s2 with heap:=h5}) mx fun h6 pJ qp=> ?_
  obtain⟨o6,Ad,pG,uk,uj,_⟩:=pJ.first
  obtain⟨I6,n6⟩:=I1.y0 (h':=h6) FL.un FL.os FL.bare FL.ah ba cz fl.2.1 fl.1 pJ.1 ((kH.trans kG).trans qp) pG uk ⟨_,uj⟩
  have I6:=I6.fb (.ref e)
  have C7:=hk n6
  refine ZU (X:=X.fb (.ref e)) (i:=ie) I6 hN pj (.inl l9) (v:=.ref e) (u:=.ref e) rfl (fun s7 I7=> ?_) (.inr l9)
  refine wpAny_mono (tw e pins s7 _ _ _ I7 C7) (fun uq s8 h8=> ?_) fun _ _ z=>z.elim
  cases uq with
  |ret u=>obtain⟨_,_,_,_,_,z⟩:=h8;exact z.elim
  |brk=>obtain⟨_,_,_,z⟩:=h8;exact z.elim
  |cont=>obtain⟨_,_,_,z⟩:=h8;exact z.elim
  |next=>
   obtain⟨dX,H8,I8,q8⟩:=h8
   have I8:=I8.Ah (fun z=>I.ok.hd z)
   obtain⟨m8,xT,DD⟩:=I8.loc
   have jm:(X.env.scope.kind==.class||(X.env.scope.kind==.module&&X.env.locals !=X.env.globals))=false:=by rw[I8.ok.kind];rfl
   refine wpAny_nameGoes_keeps l9 xT jm fun h9 v9 Du je=> ?_
   have st:=ZU (M:=model X.prog X.w) (A:=X.A) (E:=fun _ _=>False) (X:=X) (i:=ie) I8 hN pj (.inl l9) (v:=.ae) (u:=.none) rfl (Q:=fun _ _=>True) (fun _ _=>trivial) (.inr l9)
   refine⟨dX.set ie none,H8,?_,q8⟩
   have aJ:ie<dX.length:=by rw[I8.len];exact(List.getElem?_eq_some_iff.mp pj).1
   obtain⟨oL,_,_,hoL,_⟩:=id xT
   have fA:=I8.fA
   refine⟨I8.ok,I8.os,I8.bare,⟨fun b o eb nb hb hx=> ?_,fun b o eb nb hb hx=> ?_,I8.base.free,fun b o eb hx=> ?_,I8.base.dJ,I8.base.dB,I8.base.dq⟩,⟨_,Du,fun j y v' e1 e2 e3=> ?_⟩,fun y cc ec=> ?_,I8.free,I8.dC,fun p hp=> ?_,fun b ob eb=> ?_,by simpa using I8.len⟩
   ·exact(je.2 b (Nat.ne_of_lt (Nat.lt_of_lt_of_le (Heap.lt_size eb) I8.ok.above))).trans (I8.base.keep b o eb nb hb hx)
   ·obtain⟨sl,q⟩:=I8.base.slot b o eb nb hb hx
    exact⟨sl,(je.2 b (Nat.ne_of_lt (Nat.lt_of_lt_of_le (Heap.lt_size eb) I8.ok.above))).trans q⟩
   ·obtain⟨o',q⟩:=I8.base.there b o eb hx
    exact⟨o',(je.2 b (Nat.ne_of_lt (Nat.lt_of_lt_of_le (Heap.lt_size eb) I8.ok.above))).trans q⟩
   ·by_cases hj:j=ie
    ·subst hj
     rw[List.getElem?_set_self aJ]at e2
     cases e2
    ·rw[List.getElem?_set_ne (Ne.symm hj)]at e2
     obtain⟨u',r',q⟩:=DD j y v' e1 e2 e3
     refine⟨u',r',?_⟩
     rcases q with ⟨kk,q⟩ |⟨kk,c',ec,z⟩
     ·refine .inl ⟨kk,?_⟩
      have ne:y≠n:=fun z=>hj (Jw hN e1 (z▸pj))
      simp[ne,q]
     ·exact .inr ⟨kk,c',ec,z.sameBut je (fA y c' ec)⟩
   ·obtain⟨w',z⟩:=I8.cell y cc ec
    exact⟨w',z.sameBut je (fA y cc ec)⟩
   ·obtain⟨e1,n1,ne1,Cg,d1⟩:=I8.pin p hp
    exact⟨(je.2 p.1 ne1).trans e1,n1,ne1,Cg,d1⟩
   ·refine(I8.ah b ob eb).fO (fun cc w' ft q=> (je.2 cc ?_).trans q) (fun _ q=>q) fun _ _ q=>q
    rintro rfl
    rcases ft with rfl |ft
    ·rw[I8.free]at eb;cases eb
    ·rw[I8.free]at ft;cases ft
def eB (c:Addr) (q:Str):HO:=.ext fun h=>h.CodeRec (.ref c) q
def j8 (f:Addr) (q:Str) (params:Arguments) (body:Expr) (scope:Scope) (cl:List (Str×Addr)) (pm:Value) (c:Addr) (ct:Value):HO:=.ext fun h=>h.get? f=some (PySem.W.kla_obj "<lambda>" q params body scope cl pm c ct)
def vB (H:Hp) (f:Addr) (q:Str) (params:Arguments) (body:Expr) (scope:Scope) (cl:List (Str×Addr)):Prop:=∃pm c ct,H f=some (j8 f q params body scope cl pm c ct)∧H c=some (eB c q)
def KR (H:Hp) (q:Str) (ps:Array Value):Prop:=TriplesOk ps.toList∧∀pos cv,codeAmong pos ps.toList=some cv→∃c,cv=.ref c∧H c=some (eB c q)
def TabAt (H:Hp) (P:Addr) (q:Str):Prop:=∃ps,H P=some (.bt ps)∧KR H q ps
theorem YS {h h':Heap}{c:Addr}{q:Str}(x:h.CodeRec (.ref c) q) (k:∀o,h.get? c=some o→h'.get? c=some o):h'.CodeRec (.ref c) q:=by
 obtain⟨c2,oc,vs,tq,e,g1,g2,g3⟩:=x
 cases e
 exact⟨c,oc,vs,tq,rfl,k _ g1,g2,g3⟩
theorem HI {P:Program}{w:World}{H:Hp}{h:Heap}{c:Addr}{q:Str}(x:h.CodeRec (.ref c) q):bq P w H h c (eB c q):=by
 obtain⟨c2,oc,vs,tq,e,g1,g2,g3⟩:=id x
 cases e
 exact⟨x,⟨_,g1⟩,fun h1 h2 p k=>YS p k⟩
theorem UV {P:Program}{w:World}{H:Hp}{h:Heap}{f:Addr}{q:Str}{params:Arguments}{body:Expr}{scope:Scope}{cl:List (Str×Addr)}{pm:Value}{c:Addr}{ct:Value}(x:h.get? f=some (PySem.W.kla_obj "<lambda>" q params body scope cl pm c ct)):
  bq P w H h f (j8 f q params body scope cl pm c ct):=⟨x,⟨_,x⟩,fun h1 h2 p k=>k _ p⟩
theorem JH {pos p2:Pos}{c cv:Value} :∀(l:List Value),TriplesOk l→codeAmong p2 (l++[rawInt pos.line,rawInt pos.col,c])=some cv→codeAmong p2 l=some cv∨cv=c
 | [],_,h=>by
  have h':(if (pos.line:Int)==(p2.line:Int)&&(pos.col:Int)==(p2.col:Int) then some c else codeAmong p2 [])=some cv:=h
  split at h'
  ·exact .inr (Option.some.inj h').symm
  ·cases h'
 | .int a t:: .int b u::x::r,ht,h=>by
  have h':(if a==p2.line&&b==p2.col then some x else codeAmong p2 (r++[rawInt pos.line,rawInt pos.col,c]))=some cv:=h
  show(if a==p2.line&&b==p2.col then some x else codeAmong p2 r)=some cv∨cv=c
  split at h'
  ·rename_i hq
   rw[if_pos hq]
   exact .inl h'
  ·rename_i hq
   rw[if_neg hq]
   exact JH r ht h'
theorem YG {pos:Pos}{c:Value} :∀(l:List Value),TriplesOk l→TriplesOk (l++[rawInt pos.line,rawInt pos.col,c])
 | [],_=>trivial
 | .int _ _:: .int _ _::_::r,h=>YG r h
structure zM (X:Cx) (c P:Addr):Prop where
 code:X.env.code=.ref c
 hd:PySem.W.CodeHd X.base c P
 bm:∃bm ob,X.mg "__builtins__" =some (.ref bm)∧bm≠builtinsNs∧X.base.get? bm=some ob∧ob.cls=.type "module" ∧ob.dict=some builtinsNs∧ob.data=.plain
def AK (X:Cx) (P:Addr) (params:Arguments) (body:Expr) (scope:Scope):TE:=fun σ H Q=>TabAt H P (X.env.qual++ "<lambda>")∧∀f H',aw P H H'→H f=none→TabAt H' P (X.env.qual++ "<lambda>")→vB H' f (X.env.qual++ "<lambda>") params body scope (cH scope X.env)→Q (.ref f) H'
theorem GH {X:Cx}{c P:Addr}{params:Arguments}{body:Expr}{scope:Scope}{pos:Pos}(L:zM X c P) (tW:defaultsOf params X.env=([],[])) (bT:∀y∈scope.names,y.2=.free→X.env.kindOf y.1=some .cell∨X.env.kindOf y.1=some .free):
  PE X (.Lambda params body scope pos) (AK X P params body scope):=by
 intro pins s σ H Q I h
 obtain⟨⟨ps,hP,hT,hC⟩,q⟩:=h
 have oP:s.heap.get? P=some (PySem.W.tabObj ps):=I.ah P _ hP
 have fe:=ZZ (scope:=scope) (env:=X.env) fun y hy e=>I.ok.has _ (bT y hy e)
 have pF:s.heap.Ns mainGlobals X.mg:=I.mod.glob.keeps I.bk
 obtain⟨bm,ob,b1,b2,b3,b4,b5,b6⟩:=L.bm
 have DR:mainGlobals≠P:=fun z=>by
  obtain⟨o,es,ep,e,d,_⟩:=pF
  rw[z,oP]at e
  cases e
  cases d
 have jn:bm≠P:=fun z=>by
  have e:=I.bk _ _ b3
  rw[z,oP]at e
  cases e
  cases b4
 have Ek:bm≠mainGlobals:=fun z=>by
  obtain⟨o,es,ep,e,d,_⟩:=pF
  have e2:=I.bk _ _ b3
  rw[z,e]at e2
  cases e2
  rw[d]at b6
  cases b6
 have BA:s.heap.BuiltinsAt X.mg P:=⟨bm,ob,b1,b2,Ek,jn,I.bk _ _ b3,b4,b5,b6⟩
 refine PySem.W.kla_eval tW ?_
 cases hf:codeAmong pos ps.toList with
 |some cv=>
  obtain⟨c',rfl,bM⟩:=hC pos cv hf
  refine PySem.W.kla_makeFunctionHit fe I.ok.glob pF L.code (L.hd.keeps I.bk) oP hT hf BA fun jv h' tk hk hsz=> ?_
  have nf:H h'.objs.size=none:=I.ah.fresh hsz
  have s1:aj H (upd H h'.objs.size (j8 h'.objs.size (X.env.qual++ "<lambda>") params body scope (cH scope X.env) ((X.mg "__name__").getD .none) c' jv)):=fun b o hb=>by rw[Zh (Zg hb nf)];exact hb
  refine⟨.ref h'.objs.size,_,I.laid (t':=tk) (a:=h'.objs.size) (fun b u e=>Heap.get?_push_of_some _ (hk b u e)) hsz (UV (Heap.get?_push_size _ rfl)),rfl,?_⟩
  exact q _ _ (fun b o hb _=>s1 b o hb) nf ⟨ps,s1 _ _ hP,hT,fun p2 uL z=>by obtain⟨c2,e2,h2⟩:=hC p2 uL z;exact⟨c2,e2,s1 _ _ h2⟩⟩ ⟨_,c',jv,Zc,s1 _ _ bM⟩
 |none=>
  refine PySem.W.kla_makeFunction fe I.ok.glob pF L.code (L.hd.keeps I.bk) oP hT hf DR BA fun c' jv h' tk hx pk aJ Di tu=> ?_
  have Cy:∀b o,s.heap.get? b=some o→b<c':=fun b o e=>Nat.lt_of_lt_of_le (Heap.lt_size e) pk
  have Lw:∀b o,H b=some o→b<c':=fun b o e=>Nat.lt_of_lt_of_le (I.ah.lt e) pk
  have nc:H c'=none:=I.ah.fresh pk
  have nf:H h'.objs.size=none:=I.ah.fresh (Nat.le_trans pk (Nat.le_of_lt aJ))
  have B2:P≠c':=Zg hP nc
  have wW:P≠h'.objs.size:=Zg hP nf
  have cnf:c'≠h'.objs.size:=Nat.ne_of_lt aJ
  generalize xZ:h'.objs.size=f at nf wW cnf
  generalize tF:ps++ #[rawInt pos.line,rawInt pos.col,Value.ref c']=iZ at tu
  generalize tM:j8 f (X.env.qual++ "<lambda>") params body scope (cH scope X.env) ((X.mg "__name__").getD .none) c' jv=lo
  have keep:∀b o,b≠P→s.heap.get? b=some o→(h'.push (PySem.W.kla_obj "<lambda>" (X.env.qual++ "<lambda>") params body scope (cH scope X.env) ((X.mg "__name__").getD .none) c' jv)).get? b=some o:=fun b o hb e=>Heap.get?_push_of_some _ (hx b o hb e)
  have cI:∀b o,H b=some o→b≠P→upd (upd (upd H P (.bt iZ)) c' (eB c' (X.env.qual++ "<lambda>"))) f lo b=some o:=fun b o hb cm=>by
   rw[Zh (Zg hb nf),Zh (Zg hb nc),Zh cm]
   exact hb
  have uZ:upd (upd (upd H P (.bt iZ)) c' (eB c' (X.env.qual++ "<lambda>"))) f lo P=some (.bt iZ):=by rw[Zh wW,Zh B2,Zc]
  have atC:upd (upd (upd H P (.bt iZ)) c' (eB c' (X.env.qual++ "<lambda>"))) f lo c'=some (eB c' (X.env.qual++ "<lambda>")):=by rw[Zh cnf,Zc]
  have za:upd (upd (upd H P (.bt iZ)) c' (eB c' (X.env.qual++ "<lambda>"))) f lo f=some lo:=Zc
  have J:Inv X pins σ (upd (upd (upd H P (.bt iZ)) c' (eB c' (X.env.qual++ "<lambda>"))) f lo) {s with heap:=h'.push (PySem.W.kla_obj "<lambda>" (X.env.qual++ "<lambda>") params body scope (cH scope X.env) ((X.mg "__name__").getD .none) c' jv),toks:=tk} :=by
   refine I.un (t':=tk) ⟨fun b o e n _ _=>keep b o (fun z=>by rw[z,hP]at n;cases n) e,fun b o e n _ _=> ⟨o.slots,keep b o (fun z=>by rw[z,hP]at n;cases n) e⟩,fun b o e n _=> ?_,fun b o e _=> ?_,fun b xs e=>cI b _ e (fun z=>by rw[z,hP]at e;cases e),fun b o u e=>cI b _ e (fun z=>by rw[z,hP]at e;cases e),fun b qs e=> ?_⟩ ?_
   ·have hl:=Cy b o e
    rw[Zh (by rw[←xZ];exact Nat.ne_of_lt (Nat.lt_trans hl aJ)),Zh (Nat.ne_of_lt hl),Zh (fun z=>by rw[z,hP]at n;cases n)]
    exact n
   ·by_cases hb:b=P
    ·rw[hb];exact⟨_,Heap.get?_push_of_some _ tu⟩
    ·exact⟨o,keep b o hb e⟩
   ·by_cases hb:b=P
    ·rw[hb,hP]at e
     cases e
     exact⟨_,by rw[hb,uZ,tF]⟩
    ·exact⟨#[],by rw[cI b _ e hb];simp⟩
   ·intro b o hb
    by_cases h1:b=f
    ·rw[h1,za]at hb
     cases hb
     rw[h1,←tM]
     refine UV ?_
     rw[←xZ]
     exact Heap.get?_push_size _ rfl
    ·by_cases h2:b=c'
     ·rw[h2,atC]at hb
      cases hb
      rw[h2]
      exact HI (YS Di fun o e=>Heap.get?_push_of_some _ e)
     ·by_cases h3:b=P
      ·rw[h3,uZ]at hb
       cases hb
       rw[h3]
       exact Heap.get?_push_of_some _ tu
      ·have kn:H b=some o:=by rw[Zh h1,Zh h2,Zh h3]at hb;exact hb
       refine(I.ah b o kn).fO (fun z u hz e=>keep z u ?_ e) (fun z e=> ?_) fun z xs e=> ?_
       ·rcases hz with hz |hz
        ·rw[hz];exact h3
        ·intro eo;rw[eo,hP]at hz;cases hz
       ·exact cI z _ e fun eo=>by rw[eo,hP]at e;cases e
       ·exact cI z _ e fun eo=>by rw[eo,hP]at e;cases e
  refine⟨.ref f,_,J,rfl,?_⟩
  refine q f _ (fun b o hb cm=>cI b o hb cm) nf ⟨iZ,uZ,?_,fun p2 uL z=> ?_⟩ ⟨_,c',jv,by rw[za,←tM],atC⟩
  ·rw[←tF,Array.toList_append]
   exact YG _ hT
  ·rw[←tF,Array.toList_append]at z
   rcases JH _ hT z with z |z
   ·obtain⟨c2,e2,h2⟩:=hC p2 uL z
    exact⟨c2,e2,cI _ _ h2 fun eo=>by rw[eo,hP]at h2;cases h2⟩
   ·exact⟨c',z,atC⟩
theorem B4 {X:Cx}{E:XK}(CW:∀e s',wpAny (model X.prog X.w) X.A (leaving X.env e) (fun _ dc=>aG X.prog X.w X.A.handled X.outer X.hX X.bC E e dc) (fun e' dc=>aG X.prog X.w X.A.handled X.outer X.hX X.bC E e' dc) s'→X.xe e s')
  (dA:X.stack=X.env::X.outer) (bT:X.env.frame=some X.env.locals) (hex:X.ex=[]):Passes (aG X.prog X.w) X E:=by
 intro pins σ H1 s1 ev s2 I h
 obtain⟨e,C,H',rfl,F,hE⟩:=h
 obtain⟨B,a0,c,fl,mf,ba,cz⟩:=F.pI
 have un:=F.un
 rw[dA]at fl ba un
 have ib:Un (aA X.outer) [] X.hX H1 X.bC.heap s1.heap:=by have:=I.base;rw[hex]at this;exact this
 have mq:X.A.frames=some (X.env::X.outer):=by rw[←dA];exact I.ok.frames
 refine CW _ _ (xu (L:=X.env.locals) mq bT fl fun h' jr up=> ?_)
 refine⟨e,C,H',rfl,⟨F.os.trans I.os,F.bare,Ji (base:=X.base) (L:=X.env.locals) ib un bT I.ok.above I.ok.bY I.ok.dU ba fl.1.1 jr.1.1 up,Yk F.ah cz fl.1.1 jr.1.1,B,a0,c,jr,mf,fun b o hb hn=> ?_,cz⟩,hE⟩
 obtain⟨o1,e1⟩:=ib.there b o hb (by simp)
 refine ba b o1 e1 fun hm=> ?_
 have gb:b∈(X.env::X.outer).filterMap (·.frame):=hm
 rw[List.filterMap_cons_some (f:=fun(x:Env)=>x.frame) (a:=X.env) (b:=X.env.locals) bT]at gb
 rcases List.mem_cons.mp gb with q |q
 ·rw[q]at hb
  exact absurd (Nat.lt_of_lt_of_le (Heap.lt_size hb) I.ok.above) (Nat.lt_irrefl _)
 ·exact hn q
def mG (P:Program) (w:World) (K:PySem.W.Frag) (mg:Str→Option Value) (base:Heap) (N:List Str) (q:Str) (scope:Scope) (f:Addr) (cd:Value) (cl:List (Str×Addr)) (A:Around) (outer:List Env) (s:Shared) (H:Hp) (E:XK):Cx where
 prog:=P
 w:=w
 K:=K
 mg:=mg
 base:=base
 A:=A.deeper (PySem.W.envX q scope s.heap.objs.size f cd cl)
 N:=N
 bC:=s
 hX:=H
 env:=PySem.W.envX q scope s.heap.objs.size f cd cl
 outer:=outer
 stack:=PySem.W.envX q scope s.heap.objs.size f cd cl::outer
 ex:=[]
 calm:=true
 fn:=fun _=>false
 pn:=[]
 xe:=fun e s'=>wpAny (model P w) (A.deeper (PySem.W.envX q scope s.heap.objs.size f cd cl)) (leaving (PySem.W.envX q scope s.heap.objs.size f cd cl) e) (fun _ dc=>aG P w A.handled outer H s E e dc) (fun e' dc=>aG P w A.handled outer H s E e' dc) s'
structure L4 (base:Heap) (scope:Scope) (cl:List (Str×Addr)) (x y:Str) (vx vy:V):Prop where
 kx:scope.names.lookup x=some .free
 ky:scope.names.lookup y=some .free
 only:∀z,scope.names.lookup z=some .cell∨scope.names.lookup z=some .free→z=x∨z=y
 ne:x≠y
 cx:∃c u,cl.lookup x=some c∧base.IsCell c (some u)∧RelV vx u
 cy:∃c u,cl.lookup y=some c∧base.IsCell c (some u)∧RelV vy u
 mem:∀z c,cl.lookup z=some c→z=x∨z=y
 inj:∀c,cl.lookup x=some c→cl.lookup y=some c→False
theorem Inv.Ea {X:Cx}{pins:List (Addr×Obj)}{σ:St}{H:Hp}{s:Shared}(I:Inv X pins σ H s) (hc:X.calm=true):∀a∈gh X.A.handled,H a=none∧a∉aA X.stack:=fun a m=>by
 obtain⟨o,_,q,_⟩:=(I.ok.hd hc).mem m
 exact⟨(I.bs a o q).2,fun z=>by have:=(I.stack.mem z).1;rw[q]at this;cases this⟩
theorem YR {h b1 b2:Heap} :∀{l:List Env},h.FunFrames b1 l→(∀b∈aA l,b2.get? b=none)→h.FunFrames b2 l
 | [],_,_=>trivial
 |env::r,⟨hk,⟨L,o,hf,_,ho,hd⟩,hr⟩,hn=> ⟨hk,⟨L,o,hf,hn L (List.mem_filterMap.mpr ⟨env,.head _,hf⟩),ho,hd⟩,YR hr fun b hb=>hn b (by
  obtain⟨e,he,q⟩:=List.mem_filterMap.mp hb
  exact List.mem_filterMap.mpr ⟨e,.tail _ he,q⟩)⟩
theorem Inv.rebase {X:Cx}{pins:List (Addr×Obj)}{σ:St}{H:Hp}{s:Shared}(I:Inv X pins σ H s) (hd:bb s.heap X.A.handled) (hf:∀a∈gh X.A.handled,H a=none∧a∉aA X.stack):
  ∃eC,X.base.StaysIn eC∧iS X.prog X.w X.K X.mg eC X.A X.stack s H∧∀b o,s.heap.get? b=some o→H b=none→b∉aA X.stack→eC.get? b=some o:=by
 have ba:∀b o,s.heap.get? b=some o→H b=none→b∉aA X.stack→(PySem.W.hideAll (fq s.heap H) (aA X.stack)).get? b=some o:=fun b o e n hf=>PySem.W.hideAll_get _ (WZ e n) hf
 have st:X.base.StaysIn (PySem.W.hideAll (fq s.heap H) (aA X.stack)):=fun b o e=>ba b o (I.bs b o e).1 (I.bs b o e).2 fun hm=>by
  have:=(I.stack.mem hm).1
  rw[e]at this
  cases this
 refine⟨_,st,⟨I.ok.frames,⟨I.mod.gU.keeps st,I.mod.glob.keeps st,?_,I.mod.nolimit.keeps st⟩,fun b o e=>UU (PySem.W.of_hideAll _ e),?_,YR I.stack fun b hb=>PySem.W.hideAll_none _ hb,I.jO,I.ah,I.bare,hd.at fun a m o q=>ba a o q (hf a m).1 (hf a m).2⟩,ba⟩
 ·obtain⟨mb,h1,h2⟩:=I.mod.blt
  exact⟨mb,h1.keeps st,h2⟩
 ·rw[PySem.W.hideAll_size,J4]
  exact Nat.le_refl _
def FQ:Const→Option V
 | .int n=>some (.int n)
 | .bool b=>some (.bl b)
 | .str x=>some (.str x)
 | .none=>some .ae
 |_=>none
def qY:Expr→Option V
 | .Constant c _ _=>FQ c
 | .UnaryOp .USub (.Constant (.int n) _ _) _=>some (.int (-n))
 | .BinOp (.Constant (.int a) _ _) .Pow (.Constant (.int b) _ _) _=>if 0≤b∧b≤1000000∧a.natAbs<2^64 then some (.int (a^b.toNat)) else none
 |_=>none
def gN:List Expr→Option (List V)
 | []=>some []
 |e::r=>match qY e,gN r with
  |some v,some vs=>some (v::vs)
  |_,_=>none
inductive Lit where
 |sc (v:V)
 |tup (xs:List V)
 |lst (xs:List V)
 |L3
section
variable {X:Cx}
theorem GX {e:Expr}{v:V}(h:qY e=some v):PE X e (tC v)∧(∀es,starEach (e::es) X.env=(false,eval e X.env)::starEach es X.env)∧∀a:Addr,v≠.ref a:=by
 unfold qY at h
 split at h
 ·rename_i c j p
  cases c with
  |int n=>cases h;exact⟨Zf,fun _=>rfl,fun a z=>by cases z⟩
  |bool b=>cases h;exact⟨Y4,fun _=>rfl,fun a z=>by cases z⟩
  |str x=>cases h;exact⟨Zl,fun _=>rfl,fun a z=>by cases z⟩
  |none=>cases h;exact⟨Yc,fun _=>rfl,fun a z=>by cases z⟩
  |_=>cases h
 ·cases h
  refine⟨fun pins s σ H Q I q=>u9 Ug Zf pins s σ H Q I ⟨_,rfl,q⟩,fun _=>rfl,fun a z=>by cases z⟩
 ·split at h
  ·rename_i hc
   cases h
   refine⟨fun pins s σ H Q I q=>Zm zq Zf Zf pins s σ H Q I ⟨_,_,rfl,rfl,hc,q⟩,fun _=>rfl,fun a z=>by cases z⟩
  ·cases h
 ·cases h
theorem YB:∀{es:List Expr}{vs:List V},gN es=some vs→PA X es (fun _ H Q=>Q vs H)
 | [],vs,h=>by cases h;exact Zb
 |e::r,vs,h=>by
  unfold gN at h
  split at h
  ·rename_i v ws h1 h2
   cases h
   obtain⟨p1,p2,_⟩:=GX (X:=X) h1
   exact fun pos pins s σ H Q I q=>Za p1 (YB h2) (p2 r) pos pins s σ H Q I q
  ·cases h
end
end L2
namespace L2
open PySem PySem.Spec PyProof.Rows SeqAt
theorem zo {α β:Type}{F:α→β→Prop} :∀{lE:List α}{lD:List β}{i:Nat}{x:α},Paired F lE lD→lE[i]? =some x→∃y,lD[i]? =some y∧F x y
 |_,_,_,_,.nil,h=>by simp at h
 |_,_,0,_,.cons r _,h=>by simp at h;subst h;exact⟨_,rfl,r⟩
 |_,_,i+1,_,.cons _ t,h=>by
  obtain⟨y,e,q⟩:=zo t (i:=i) (by simpa using h)
  exact⟨y,by simpa using e,q⟩
section
variable {X:Cx}
def z7 (K:PySem.W.Frag) (H:Hp) (x y:V):Prop:=(∃i:Int,x=.int i∧y=.int i)∨∃(a b:Addr) (ns:List Int),x=.ref a∧y=.ref b∧ak K H a (ns.map V.int)∧ak K H b (ns.map V.int)
theorem HU {s:Shared}{ns:List Int}{us vs:List Value}(A:Around) (r1:Vals (ns.map V.int) us) (r2:Vals (ns.map V.int) vs):∀j (h1:j<us.toArray.size) (h2:j<vs.toArray.size),EqAt A s us.toArray[j] vs.toArray[j] true:=fun j h1 h2=>by
 have l1:=r1.length
 have hj:j<ns.length:=by simp at h1 l1;omega
 have e:(ns.map V.int)[j]? =some (V.int ns[j]):=by simp[hj]
 obtain⟨u,hu,ru⟩:=r1.get e
 obtain⟨v,hv,rv⟩:=r2.get e
 obtain⟨t1,rfl⟩:=ru
 obtain⟨t2,rfl⟩:=rv
 have e1:us.toArray[j]=Value.int ns[j] t1:=by simpa using (List.getElem?_eq_some_iff.mp hu).2
 have e2:vs.toArray[j]=Value.int ns[j] t2:=by simpa using (List.getElem?_eq_some_iff.mp hv).2
 rw[e1,e2]
 have z:=EqAt.int_int (A:=A) (s:=s) ns[j] t1 ns[j] t2
 simpa using z
theorem G5 {pins:List (Addr×Obj)}{σ:St}{H:Hp}{s:Shared}{x y:V}{u v:Value}(A:Around) (hu:A.units<cLine) (I:Inv X pins σ H s) (h:z7 X.K H x y) (ru:RelV x u) (rv:RelV y v):EqAt A s u v true:=by
 rcases h with ⟨i,rfl,rfl⟩ |⟨a,b,ns,rfl,rfl,ha,hb⟩
 ·obtain⟨t1,rfl⟩:=ru
  obtain⟨t2,rfl⟩:=rv
  have z:=EqAt.int_int (A:=A) (s:=s) i t1 i t2
  simpa using z
 ·cases ru
  cases rv
  by_cases yj:a=b
  ·subst yj
   exact EqAt.same _
  ·obtain⟨us,r1,p1,_⟩:=I.list ha
   obtain⟨vs,r2,p2,_⟩:=I.list hb
   have hsz:us.toArray.size=vs.toArray.size:=by have:=r1.length;have:=r2.length;simp at *;omega
   have z:=RcAt.lists (e:=fun _=>true) p1.isList p2.isList hsz hu (HU A.in1 r1 r2)
   have e:(List.range us.toArray.size).all (fun _=>true)=true:=by simp
   rw[e]at z
   exact EqAt.of_refs yj z
def AO (ta tb tc td te:TE):TE:=fun σ H Q=>ta σ H fun v1 H1=> ∃x1,v1=.str x1∧(Str.empty++x1).length≤sizeLine∧tb σ H1 fun v2 H2=> ∃n:Int,v2=.int n∧n.natAbs.log2<1920∧(Str.empty++x1++(Str.ofString (toString n))).length≤sizeLine∧
 tc σ H2 fun v3 H3=> ∃x3,v3=.str x3∧(Str.empty++x1++(Str.ofString (toString n))++x3).length≤sizeLine∧td σ H3 fun v4 H4=> ∃m:Int,v4=.int m∧m.natAbs.log2<1920∧(Str.empty++x1++(Str.ofString (toString n))++x3++(Str.ofString (toString m))).length≤sizeLine∧
 te σ H4 fun v5 H5=> ∃x5,v5=.str x5∧(Str.empty++x1++(Str.ofString (toString n))++x3++(Str.ofString (toString m))++x5).length≤sizeLine∧∀z,Q (.str z) H5
theorem WI {a b c d e:Expr}{ta tb tc td te:TE}{p p' pos:Pos}(ha:PE X a ta) (hb:PE X b tb) (hc:PE X c tc) (hd:PE X d td) (he:PE X e te):PE X (.JoinedStr [a,.FormattedValue b (-1) none p,c,.FormattedValue d (-1) none p',e] pos) (AO ta tb tc td te):=by
 intro pins s σ H Q I h
 refine JoinedStr_many (joinParts_cons (wpAny_mono (ha pins s σ H _ I h) (fun u s1 h1=> ?_) fun _ _ y=>y))
 obtain⟨v,H1,I1,r1,x,rfl,hz,h2⟩:=h1
 obtain⟨t,rfl⟩:=r1
 refine⟨hz,joinParts_cons (FormattedValue_plain (wpAny_mono (hb pins s1 σ H1 _ I1 h2) (fun u s2 h3=> ?_) fun _ _ y=>y))⟩
 obtain⟨v,H2,I2,r2,n,rfl,hn,eo,h4⟩:=h3
 obtain⟨t2,rfl⟩:=r2
 refine formatField_int_small hn ⟨eo,?_⟩
 have L6:=I2.tok (s2.toks+1)
 refine joinParts_cons (wpAny_mono (hc pins _ σ H2 _ (I2.tok _) h4) (fun u s3 h5=> ?_) fun _ _ y=>y)
 obtain⟨v,H3,I3,r3,x3,rfl,lP,h6⟩:=h5
 obtain⟨t3,rfl⟩:=r3
 refine⟨lP,joinParts_cons (FormattedValue_plain (wpAny_mono (hd pins s3 σ H3 _ I3 h6) (fun u s4 h7=> ?_) fun _ _ y=>y))⟩
 obtain⟨v,H4,I4,r4,m,rfl,hm,lO,h8⟩:=h7
 obtain⟨t4,rfl⟩:=r4
 refine formatField_int_small hm ⟨lO,?_⟩
 refine joinParts_cons (wpAny_mono (he pins _ σ H4 _ (I4.tok _) h8) (fun u s5 h9=> ?_) fun _ _ y=>y)
 obtain⟨v,H5,I5,r5,x5,rfl,jd,q⟩:=h9
 obtain⟨t5,rfl⟩:=r5
 refine⟨jd,joinParts_nil ?_ jd⟩
 exact⟨.str _,H5,I5.tok _,⟨_,rfl⟩,q _⟩
end
structure Cells (base:Heap) (scope:Scope) (cl:List (Str×Addr)) (N:List Str) (vs:List V):Prop where
 len:vs.length=N.length
 only:∀z,scope.names.lookup z=some .cell∨scope.names.lookup z=some .free→z∈N
 at_:∀(i:Nat) x v,N[i]? =some x→vs[i]? =some v→scope.names.lookup x=some .free∧∃c u,cl.lookup x=some c∧base.IsCell c (some u)∧RelV v u
 mem:∀z c,cl.lookup z=some c→z∈N
 inj:∀x y c,cl.lookup x=some c→cl.lookup y=some c→x=y
theorem HZ {P:Program}{w:World}{K:PySem.W.Frag}{mg:Str→Option Value}{base:Heap}{f:Addr}{q:Str}{params:Arguments}{body:Expr}{scope:Scope}{cl:List (Str×Addr)}{pm:Value}{c:Addr}{ct:Value}{k:Nat}{N:List Str}{ws:List V}{sp:Sp}
    (T:Cells base scope cl N ws) (hk:scope.kind=.function) (Ec:scope.isCoroutine=false) (DQ:scope.isGenerator=false) (iE:∀z∈scope.names,z.2≠.cell)
    (bX:∀vs H Q E,sp vs H Q E→vs=[]∧H f=some (j8 f q params body scope cl pm c ct)∧H c=some (eB c q))
    (hb:∀(A:Around) (outer:List Env) (s:Shared) (H:Hp) (Q:VK) (E:XK),aK k (A.deeper (PySem.W.envX q scope s.heap.objs.size f (.ref c) cl))→sp [] H Q E→
      ∃t,PE (mG P w K mg base N q scope f (.ref c) cl A outer s H E) body t∧t (ws.map some) H Q):
    ar P w K mg base (aG P w) (k+1) f (PySem.W.kla_fn "<lambda>" q params body scope cl pm (.ref c) ct) [] sp:=by
  refine⟨fun vs H Q E h=>by rw[(bX vs H Q E h).1];rfl,fun A outer s H args us vs Q E hr e0 ua rv h=> ?_⟩
  obtain⟨rfl,hf,hc⟩:=bX _ _ _ _ h
  have of:s.heap.get? f=some (PySem.W.kla_obj "<lambda>" q params body scope cl pm c ct):=(e0.ah f _ hf).1
  have oc:s.heap.CodeRec (.ref c) q:=(e0.ah c _ hc).1
  have lim:s.heap.NoLimit:=e0.mod.nolimit.keeps fun b o e=> (e0.bs b o e).1
  refine PySem.W.kla_callFunE hr.depth of rfl Ec DQ rfl oc (ua _ _ _ _ ?_)
  refine wpAny_newFunctionEnv iE (fun z hz=>by cases rv;exact absurd hz (by simp)) (fun h1 l7 Dg=> ?_) hk
  have k1:∀b o,s.heap.get? b=some o→h1.get? b=some o:=fun b o e=>Dg.extBut b o (Nat.ne_of_lt (Heap.lt_size e)) (Heap.get?_push_of_some _ e)
  refine⟨lim.keeps k1,?_⟩
  show codeAny _ A (.expr body (PySem.W.envX q scope s.heap.objs.size f (.ref c) cl)) _ _
  obtain⟨t,ht,hq⟩:=hb A outer s H Q E (hr.deeper _) h
  have uQ:∀{a:Addr}{v:Option Value},base.IsCell a v→h1.IsCell a v∧H a=none:=fun {a v} ⟨o,ho,hd⟩=> ⟨⟨o,k1 _ _ (e0.bs _ _ ho).1,hd⟩,(e0.bs _ _ ho).2⟩
  have y9:∀z,z∈N→∃c u,cl.lookup z=some c∧base.IsCell c (some u):=fun z hz=>by
    obtain⟨i,hi,e⟩:=List.getElem_of_mem hz
    have ke:i<ws.length:=by rw[T.len];exact hi
    obtain⟨_,c,u,h1,h2,_⟩:=T.at_ i z ws[i] (by rw[←e];exact List.getElem?_eq_getElem hi) (List.getElem?_eq_getElem ke)
    exact⟨c,u,h1,h2⟩
  have cells:∀z a,cl.lookup z=some a→∃v,base.IsCell a v:=fun z a hz=>by
    obtain⟨c,u,h1,h2⟩:=y9 z (T.mem z a hz)
    rw[hz]at h1;cases h1;exact⟨_,h2⟩
  have I:Inv (mG P w K mg base N q scope f (.ref c) cl A outer s H E) [] (ws.map some) H {s with heap:=h1,toks:=s.toks+(([]:List Str).zip us).length} :=by
    refine⟨⟨e0.mod,hk,rfl,rfl,Nat.le_refl _,fun a b cc h2 h3=> ?_,fun a ha=> ?_,fun a cc hn=>Bool.noConfusion hn,fun _=>e0.hd,Around.frames_deeper e0.frames,.inr ⟨rfl,rfl⟩,fun b z=>absurd (show b∈([]:List Addr) from z) (by simp),e0.bs,e0.fj,fun b _ _ z=>absurd (show b∈([]:List Addr) from z) (by simp),fun b z=>absurd (show b∈([]:List Addr) from z) (by simp),e0.bY,e0.dU⟩,
      rfl,e0.bare,Un.kept k1,⟨_,l7,fun i z v h2 h3 h4=> ?_⟩,fun z a hz=> ?_,e0.ah.fresh (Nat.le_refl _),fun z a hz=> ?_,fun p hp=>absurd (show p∈([]:List (Addr×Obj)) from hp) (by simp),e0.ah.kept k1,(by rw[List.length_map];exact T.len)⟩
    · have h2:cl.lookup a=some cc:=h2
      have h3:cl.lookup b=some cc:=h3
      exact T.inj _ _ _ h2 h3
    · obtain⟨c,_,h1,_⟩:=y9 a (T.only a ha)
      exact⟨c,h1⟩
    · have uh:(ws.map some)[i]? =some (some v):=h3
      rw[List.getElem?_map]at uh
      obtain⟨v',e',Fi⟩:=Option.map_eq_some_iff.mp uh
      cases Fi
      obtain⟨kx,c,u,h5,h6,h7⟩:=T.at_ i z v h2 e'
      exact⟨u,h7,.inr ⟨.inr kx,c,h5,(uQ h6).1⟩⟩
    · obtain⟨v,b⟩:=cells z a hz
      exact⟨v,(uQ b).1⟩
    · obtain⟨v,b⟩:=cells z a hz
      exact(uQ b).2
  refine PySem.W.kla_codeExpr (wpAny_mono (ht [] _ _ H _ I hq) (fun u s' hs=> ?_) fun e s' hs=>hs)
  obtain⟨v,H',J,r,z⟩:=hs
  exact⟨v,H',J.os,J.bare,J.base,J.ah,r,z⟩
end L2
namespace L2
open PySem PySem.Spec PyProof.Rows
section
variable {prog:Program}{w:World}{A:Around}{E:Value→Shared→Prop}{s:Shared}
theorem YQ {t sl:Addr}{items:Array Value}{vl vu:Value}{lo hi:Option Int}{Q:Value→Shared→Prop}(ht:IsTup s.heap t items) (hs:s.heap.IsSliceOf sl vl vu .none) (pl:IsPart vl lo) (pu:IsPart vu hi)
  (hw:HT.aE items.size 0 lo=0∧HT.aE items.size items.size hi=items.size) (h:Q (.ref t) s):wpAny (model prog w) A (getItem (.ref t) (.ref sl)) Q E s:=by
 obtain⟨os,jg,pC,md⟩:=id hs
 have Aj:s.TypeIs (.ref sl) "slice" :=⟨os,jg,pC⟩
 unfold getItem
 try with_reducible refine wpAny_holding ?_
 first |refine wpAny_bind (wpAny_pure ?_) |skip
 refine wpAny_bind (wpAny_sequenceKey ht.typeIs (by decide) (wpAny_bind (wpAny_callSpecial?_slot (name:=Str.ofString "__getitem__") ht.typeIs PyProof.Rows.slot_tuple_getitem (wpAny_call_entry PyProof.Rows.slot_tuple_getitem ht.typeIs entry_tuple_getitem ?_ (args_tuple_getitem _ _)))))
 refine(show wpAny _ _ (Builtin.Tuple.tupleItemsOf (.ref t) >>=_) _ _ s from wpAny_bind (tupleItemsOf_ ht (wpAny_bind (wpAny_typeOf Aj ?_))))
 rw[if_pos (by decide)]
 refine wpAny_bind (HT.wx hs pl pu ?_)
 rw[hw.1,hw.2]
 refine(show wpAny _ _ (if ((((0:Nat):Int)==0&&(1:Int)==1&&(items.size - 0)==items.size)=true) then _ else _) _ _ s from ?_)
 rw[if_pos (by simp)]
 unfold Builtin.Tuple.tupleIsExact
 refine wpAny_bind ?_
 wp_walk using wpAny_typeOf ht.typeIs
 exact⟨_,rfl,wpAny_pure h⟩
end
section
variable {X:Cx}
def BM (K:PySem.W.Frag):V→Option Int→Option Int→Hp→VK→Prop:=fun x lo hi H Q=> ∃a xs,x=.ref a∧H a=some (.tup xs)∧∀(c:Addr) H',aj H H'→H' c=some (.tup (cW xs lo hi))→Q (.ref c) H'
theorem UO:vo X (BM X.K):=by
 intro pins s σ H x v vl vu lo hi sl Q I rx hs pl pu h
 obtain⟨a,xs,rfl,ha,q⟩:=h
 have hx:au X.K H a xs:=au.of ha
 by_cases hw:HT.aE xs.length 0 lo=0∧HT.aE xs.length xs.length hi=xs.length
 ·cases rx
  obtain⟨aa,r,ht,hz⟩:=I.tuple hx
  have hlen:aa.toArray.size=xs.length:=by rw[List.size_toArray];exact r.length.symm
  refine⟨"tuple",_,PyProof.Rows.slot_tuple_getitem.lookup,ht.typeIs,?_⟩
  refine YQ ht hs pl pu (by rw[hlen];exact hw) ⟨.ref a,H,I,rfl,q a H (aj.refl _) ?_⟩
  rw[ha]
  unfold cW
  rw[hw.1,hw.2,List.drop_zero,Nat.sub_zero,List.take_length]
 ·exact Ul pins s σ H (.ref a) v vl vu lo hi sl Q I rx hs pl pu ⟨a,xs,rfl,hx,hw,fun p hp=>q p _ (fun b u hb=>by rw[Zh (Zg hb hp)];exact hb) Zc⟩
end
theorem YY:fillsNumberSlot (.type "tuple") "mul" =pure false:=
 PySem.fillsNumberSlot_seq (id:= "tuple.__mul__") (r:=some (.builtin "tuple.__rmul__")) PySem.F.slot_tuple_mul.lookup (by decide+kernel) PySem.F.slot_tuple_rmul.lookup (by decide+kernel)
theorem Wl:seqRepeat? (.type "tuple")=pure (some (.builtin "tuple.__mul__")):=by
 unfold seqRepeat?
 rw[PySem.seqSlot_of (T:= "tuple") (name:= "__mul__") (id:= "tuple.__mul__") PySem.F.slot_tuple_mul.lookup (by decide+kernel),PySem.seqSlot_of (T:= "tuple") (name:= "__rmul__") (id:= "tuple.__rmul__") PySem.F.slot_tuple_rmul.lookup (by decide+kernel)]
 rfl
theorem Jn (a:Int) (t:Tok) (l:Addr) (items:Array Value) (n:Nat) (d:Option Addr) (sl:Array (Option Value)):
  Meets (Builtin.«int.__rmul__» ⟨[.int a t,.ref l],[]⟩) (fun _ R s=>s.heap.get? l=some {cls:=.type "tuple",dict:=d,data:=.seq items n,slots:=sl}∧R (.ok (.ret Value.notImplemented)) s):=
 .of_wp fun prog w A R s h=>by obtain⟨hp,g,d,tk,os⟩:=s;obtain⟨hl,h⟩:=h;wp_walk;exact⟨_,rfl,h⟩
theorem JI (l:Addr) (items:Array Value) (n:Nat) (d:Option Addr) (sl:Array (Option Value)) (u:Tok):
  Meets (Builtin.«tuple.__mul__» ⟨[.ref l,.int 1 u],[]⟩) (fun _ R s=>s.heap.get? l=some {cls:=.type "tuple",dict:=d,data:=.seq items n,slots:=sl}∧R (.ok (.ret (.ref l))) s):=
 .of_wp fun prog w A R s h=>by
  obtain⟨hp,g,d,tk,os⟩:=s;obtain⟨hl,h⟩:=h
  wp_walk;exact⟨_,rfl,h⟩
theorem Jx (l:Addr) (items:Array Value) (n:Nat) (d:Option Addr) (sl:Array (Option Value)) (x:Int) (u:Tok) (h0:items.isEmpty=false) (h1:(x==1)=false) (h2:1≤x) (hs:items.size*x.toNat≤1000) (hx:x≤1000) (hz:(List.foldl (fun x1 x2=>x1++x2) #[] (List.replicate x.toNat items)).size≤sizeLine):
  Meets (Builtin.«tuple.__mul__» ⟨[.ref l,.int x u],[]⟩) (fun _ R s=>s.heap.get? l=some {cls:=.type "tuple",dict:=d,data:=.seq items n,slots:=sl}∧R (.ok (.ret (Value.ref s.heap.objs.size))) {s with heap:=s.heap.push {cls:=Value.type "tuple",data:=Data.seq (List.foldl (fun x1 x2=>x1++x2) #[] (List.replicate x.toNat items))},toks:=s.toks}):=
 .of_wp fun prog w A R s h=>by
  obtain⟨hp,g,d,tk,os⟩:=s;obtain⟨hl,h⟩:=h
  have a1:decide (x< -(2^63))=false:=decide_eq_false (by omega)
  have a2:decide (x≥2^63)=false:=decide_eq_false (by omega)
  have a3:decide (x≤0)=false:=decide_eq_false (by omega)
  have hn:(items.size:Int)*x≤1000:=by
   have e:x=(x.toNat:Int):=by omega
   rw[e]
   exact_mod_cast hs
  have a4:¬((items.size:Int)*x> (2^63 - 1)/8):=by omega
  have a5:Builtin.Tuple.tupleTooMany ((items.size:Int)*x)=false:=by
   unfold Builtin.Tuple.tupleTooMany
   have e:=sizeLine_eq
   simp
   omega
  wp_walk
  rw[if_neg (by rw[a1,a2];decide)]
  have ht:IsTup hp l items:=⟨_,hl,rfl,n,rfl⟩
  refine wpAny_bind (tupleItemsOf_ ht ?_)
  dsimp only
  rw[if_neg (by rw[h0,h1];decide),if_neg (by rw[a3,h0];decide),if_neg a4,a5,if_neg Bool.false_ne_true]
  wp_walk;exact⟨_,rfl,h⟩
section
variable {X:Cx}
def BP:R2:=fun x y H Q=> ∃a k xs,x=.ref a∧y=.int k∧H a=some (.tup xs)∧xs≠[]∧1≤k∧k≤1000∧xs.length*k.toNat≤1000∧∀(c:Addr) H',aj H H'→H' c=some (.tup (List.replicate k.toNat xs).flatten)→Q (.ref c) H'
theorem Ik:aZ X (binaryOp .Mult) BP:=by
  intro pins s σ H x y v u Q I rx ry h
  obtain⟨l,k,xs,rfl,rfl,hH,cm,h1,h2,hz,q⟩:=h
  cases rx
  obtain⟨t,rfl⟩:=ry
  obtain⟨aa,r,pl,_⟩:=I.tuple (au.of hH)
  have hl:=r.length
  obtain⟨⟨cls,dd,data,sl⟩,ho,fe,n,hd⟩:=id pl
  simp only at fe hd
  subst fe hd
  have f0:∀m:Nat,List.foldl (fun x1 x2=>x1++x2) #[] (List.replicate m aa.toArray)=(List.replicate m aa).flatten.toArray:=fun m=>by
    have:=Y2 aa m []
    rw[List.nil_append]at this
    exact this
  have hsz:aa.toArray.size*k.toNat≤1000:=by rw[List.size_toArray,←hl];exact hz
  have h0:aa.toArray.isEmpty=false:=by
    cases aa with
    |nil=>
     cases xs with
     |nil=>exact absurd rfl cm
     |cons a b=>cases hl
    |cons a b=>rfl
  refine wpAny_binaryOp_repeat_ref (T:= "tuple") (U:= "int") (by decide) ⟨_,ho,rfl⟩ (fun s'=>typeIs_int s' k t) YY PySem.F.fills_int_mul PySem.F.slot_int_rmul Wl PySem.F.slot_int_index.lookup
    (call_meets PySem.F.slot_int_rmul (typeIs_int s k t) PySem.F.entry_int_rmul (PySem.F.args_int_rmul_2 _ _) (Jn k t l aa.toArray n dd sl)
      ⟨ho,rfl,⟨_,ho,rfl⟩,?_⟩)
  by_cases hk:k=1
  · subst hk
    refine call_meets PySem.F.slot_tuple_mul ⟨_,ho,rfl⟩ PySem.F.entry_tuple_mul (PySem.F.args_tuple_mul_2 _ _) (JI l aa.toArray n dd sl t) ⟨ho,⟨.ref l,H,I,rfl,q l H (aj.refl _) ?_⟩⟩
    rw[hH]
    simp
  · refine call_meets PySem.F.slot_tuple_mul ⟨_,ho,rfl⟩ PySem.F.entry_tuple_mul (PySem.F.args_tuple_mul_2 _ _) (Jx l aa.toArray n dd sl k t h0 (by simpa using hk) h1 hsz h2 ?_) ⟨ho,?_⟩
    · rw[f0,List.size_toArray,Wt,sizeLine_eq]
      rw[List.size_toArray,Nat.mul_comm]at hsz
      omega
    · rw[f0]
      refine⟨.ref s.heap.objs.size,upd H s.heap.objs.size (.tup (List.replicate k.toNat xs).flatten),?_,rfl,q _ _ (fun b o hb=>by rw[Zh (Zg hb I.fresh)];exact hb) Zc⟩
      refine I.laid (t':=s.toks) (fun b o e=>Heap.get?_push_of_some _ e) (Nat.le_refl _) ⟨by rw[Wt,sizeLine_eq,Nat.mul_comm];omega,_,r.rep k.toNat,?_⟩
      exact⟨⟨_,Heap.get?_push_size s.heap rfl,rfl,0,rfl⟩,_,Heap.get?_push_size s.heap rfl,rfl⟩
end
end L2
namespace L2
open PySem PySem.Spec PyProof.Rows SeqAt
end L2
namespace U
open PySem L2 PyProof.Rows
def dj (K:PySem.W.Frag) (H:Hp) (a:Addr) (ns:List Int):Prop:=(∃o,H a=some (.bZ o (.lst (ns.map V.int))))∨∃(o:Obj) (aa:Array Value) (n:Nat),K.lookup a=some o∧o.cls=.type "list" ∧o.dict=none∧o.data=.seq aa n∧aa.size≤sizeLine∧Vals (ns.map V.int) aa.toList
theorem dj.sq {K:PySem.W.Frag}{H:Hp}{a:Addr}{ns:List Int}(h:dj K H a ns):ak K H a (ns.map V.int):=by
 rcases h with ⟨o,h⟩ |h
 ·exact .inl (.inr ⟨o,h⟩)
 ·exact .inr h
theorem dj.same {K:PySem.W.Frag}{H H':Hp}{a:Addr}{ns:List Int}(h:dj K H a ns) (s:aj H H'):dj K H' a ns:=by
 rcases h with ⟨o,h⟩ |h
 ·exact .inl ⟨o,s _ _ h⟩
 ·exact .inr h
theorem dj.x {K:PySem.W.Frag}{H H':Hp}{a p:Addr}{ns:List Int}{o:HO}(h:dj K H a ns) (s:aw p H H') (hp:H p=some o) (hn:∀ob u,o≠.bZ ob u):dj K H' a ns:=by
 rcases h with ⟨ob,h⟩ |h
 ·exact .inl ⟨ob,s _ _ h fun z=>by rw[z,hp]at h;cases h;exact hn _ _ rfl⟩
 ·exact .inr h
end U
namespace U
open PySem L2 PyProof.Rows PySem.Spec
def nv (mg:Str→Option Value) (h:Heap):Prop:=∃bm ob,mg "__builtins__" =some (.ref bm)∧bm≠builtinsNs∧h.get? bm=some ob∧ob.cls=.type "module" ∧ob.dict=some builtinsNs∧ob.data=.plain
theorem UD {P:Program}{w:World}{K:PySem.W.Frag}{mg mb:Str→Option Value}{k:Nat}{fa a:Addr}{Pts:List Addr}{fd:FuncData}{x:Str}{sp:Sp}{av:Shared}{vs:List Value}{ns:List Int}
  (KX:K.In av.heap) (l7:av.heap.Ns mainGlobals mg) (hb:av.heap.Ns builtinsNs mb) (Ej:∀x:Str,x≠ "__name__" →mb x=bootBuiltins x) (DA:av.heap.NoLimit) (hg:av.gens= #[])
  (ha:av.heap.get? a=some {cls:=.type "list",data:=.seq vs.toArray}) (hi:IntsAre vs ns) (hl:ns.length≤sizeLine) (hr:aK k callerA)
  (pD:∀Pt∈Pts,av.heap.get? Pt=some (PySem.W.tabObj #[])) (EJ:∀Pt∈Pts,∃c,PySem.W.CodeHd av.heap c Pt) (Ey:∀Pt∈Pts,K.lookup Pt=none) (mh:nv mg av.heap)
  (F:∀base:Heap,K.In base→base.Ns mainGlobals mg→nv mg base→ar P w K mg base aC k fa fd [x] sp) (Ei:∀(s:Shared) (u:Value),BindsTo s fd ⟨[u],[]⟩ [(x,u)])
  (bX:∀H:Hp,dj K H a ns→(∀Pt∈Pts,H Pt=some (.bt #[]))→sp [.ref a] H (fun v _=>v=.bl true) fun _ _ _=>False):
  codeAny (model P w) callerA (.call (.ref fa) ⟨[.ref a],[]⟩) (fun r s'=>r=.ok (.ret (.bool true))∧OldK av.heap s'.heap∧s'.os=av.os∧AllBare s'.gens) av:=by
 have rv:=JN hi
 have CF:=hi.length
 have mi:∀{Pt:Addr},Pt∈Pts→av.heap.get? Pt=some {cls:=.none,data:=.fields #[]} :=fun h=>pD _ h
 have yl:a∉Pts:=fun z=>by have h:=mi z;rw[ha]at h;cases h
 have core:∀H:Hp,(∀b,b∉Pts→H b=none∨∃o xs,H b=some (.bZ o (.lst xs)))→dj K H a ns→(∀Pt∈Pts,H Pt=some (.bt #[]))→bc P w H av.heap→(∀b,H b≠none→b=a∨b∈Pts)→(H a≠none→K.lookup a=none)→
   codeAny (model P w) callerA (.call (.ref fa) ⟨[.ref a],[]⟩) (fun r s'=>r=.ok (.ret (.bool true))∧OldK av.heap s'.heap∧s'.os=av.os∧AllBare s'.gens) av:=by
  intro H hO hS hP ah hA hK
  have uX:∀{b:Addr}{o:Obj},av.heap.get? b=some o→H b=none→(fq av.heap H).get? b=some o:=fun e n=>WZ e n
  have iu:∀{b:Addr}{o:Obj},av.heap.get? b=some o→(∀vs n,o.data≠.seq vs n)→(∀ps,o.data≠.fields ps)→H b=none:=fun {b o} e d1 d2=>by
   cases q:H b with
   |none=>rfl
   |some u=>
    rcases hA b (by rw[q];simp) with e' |e'
    ·subst e'
     rw[ha]at e;cases e
     exact absurd rfl (d1 _ _)
    ·rw[mi e']at e;cases e
     exact absurd rfl (d2 _)
  have oE:∀{b:Addr}{m:Str→Option Value},av.heap.Ns b m→(fq av.heap H).Ns b m:=fun {b m} ⟨o,es,ep,e,d,r⟩=> ⟨o,es,ep,uX e (iu e (fun _ _ z=>by rw[d]at z;cases z) fun _ z=>by rw[d]at z;cases z),d,r⟩
  have yn:K.In (fq av.heap H):=fun b o e=>uX (KX b o e) (by
   cases q:H b with
   |none=>rfl
   |some u=>
    rcases hA b (by rw[q];simp) with e' |e'
    ·subst e'
     rw[hK (by rw[q];simp)]at e;cases e
    ·rw[Ey _ e']at e;cases e)
  have hM:Mod K mg (fq av.heap H):=⟨yn,oE l7,⟨mb,oE hb,Ej⟩,let ⟨mc,h1,h2⟩:=DA;⟨mc,oE h1,h2⟩⟩
  have Eh:nv mg (fq av.heap H):=let ⟨bm,ob,b1,b2,b3,b4,b5,b6⟩:=mh;⟨bm,ob,b1,b2,uX b3 (iu b3 (fun _ _ z=>by rw[b6]at z;cases z) fun _ z=>by rw[b6]at z;cases z),b4,b5,b6⟩
  have e0:iS P w K mg (fq av.heap H) callerA [] av H:=⟨rfl,hM,fun b o e=>UU e,Nat.le_of_eq (J4 _ _),trivial,fun b hb=>absurd (show b∈([]:List Addr) from hb) (by simp),ah,.of_eq hg,trivial⟩
  refine codeAny_mono ((F _ yn (oE l7) Eh).run callerA [] av H ⟨[.ref a],[]⟩ [.ref a] [.ref a] _ _ hr e0 (Ei av (.ref a)) (.cons rfl .nil) (bX H hS hP)) fun r s' h=> ?_
  cases r with
  |error e=>exact False.elim h
  |ok fl=>
   cases fl with
   |next=>exact False.elim h
   |brk=>exact False.elim h
   |cont=>exact False.elim h
   |ret u=>
    obtain⟨v,H',os,bare,un,xR,r',q⟩:=h
    have q':v=.bl true:=q
    subst q'
    obtain rfl:u=Value.bool true:=r'
    have old:∀b o,av.heap.get? b=some o→asItWas av.heap s'.heap b o:=fun b o e=>by
     cases q:H b with
     |none=>exact .inl (un.keep b o e q (by intro z;exact absurd (show b∈([]:List Addr) from z) (by simp)) (by simp))
     |some u=>
      by_cases jn:b∈Pts
      ·obtain⟨more,z⟩:=un.dq b _ (hP b jn)
       have e2:s'.heap.get? b=some {cls:=.none,data:=.fields (#[]++more)} :=xR b _ z
       rw[mi jn]at e
       cases e
       obtain⟨c,hC⟩:=EJ b jn
       exact .inr (.inl ⟨(hC.tab (pD b jn)).isCodeTable,rfl, #[],more,rfl,e2⟩)
      ·rcases hO b jn with z |⟨ob,xs,z⟩
       ·rw[q]at z;cases z
       ·have z2:=un.dB b ob _ z
        obtain⟨e1,_⟩:=ah b _ z
        obtain⟨e2,_⟩:=xR b _ z2
        rw[e]at e1;cases e1
        exact .inl e2
    exact⟨rfl,⟨old,fun b o e=>un.there b o e (by simp)⟩,os,bare⟩
 cases hk:K.lookup a with
 |some o=>
  have e:=KX a o hk
  rw[ha]at e
  cases e
  refine core (fun b=>if b∈Pts then some (.bt #[]) else none) (fun b n=> .inl (if_neg n)) (.inr ⟨_,vs.toArray,_,hk,rfl,rfl,rfl,by rw[List.size_toArray,CF];exact hl,by simpa using rv⟩) (fun Pt h=>if_pos h) (fun b u z=> ?_) (fun b z=> ?_) fun z=>absurd (if_neg yl) z
  ·by_cases hb:b∈Pts
   ·have z':=(if_pos hb).symm.trans z
    cases z'
    exact mi hb
   ·have z':=(if_neg hb).symm.trans z
    cases z'
  ·by_cases hb:b∈Pts
   ·exact .inr hb
   ·exact absurd (if_neg hb) z
 |none=>
  refine core (fun b=>if b∈Pts then some (.bt #[]) else if b=a then some (.bZ {cls:=.type "list",data:=.seq vs.toArray} (.lst (ns.map V.int))) else none) (fun b n=> ?_) (.inl ⟨{cls:=.type "list",data:=.seq vs.toArray},(if_neg yl).trans (if_pos rfl)⟩) (fun Pt h=>if_pos h) (fun b u z=> ?_) (fun b z=> ?_) fun _=>hk
  ·by_cases hb:b=a
   ·exact .inr ⟨_,_,(if_neg n).trans (if_pos hb)⟩
   ·exact .inl ((if_neg n).trans (if_neg hb))
  ·by_cases hP:b∈Pts
   ·have z':=(if_pos hP).symm.trans z
    cases z'
    exact mi hP
   ·by_cases hb:b=a
    ·have z':=((if_neg hP).trans (if_pos hb)).symm.trans z
     cases z'
     subst hb
     exact⟨ha,by rw[List.length_map];exact hl,vs,_,rv,ha⟩
    ·have z':=((if_neg hP).trans (if_neg hb)).symm.trans z
     cases z'
  ·by_cases hP:b∈Pts
   ·exact .inr hP
   ·by_cases hb:b=a
    ·exact .inl hb
    ·exact absurd ((if_neg hP).trans (if_neg hb)) z
theorem Ab {l:PySem.W.OpenLaw}{n k:Nat}{q:Program}{loose:List Str}{XP:(Str→Option Value)→Heap→Prop}{YP:World→Heap→Prop}{d:DefRec}{K:Params→PySem.W.Frag}{sp:PySem.W.Frag→Sp}{x:Str}{Pts:List Addr}
    (hn:l.most=some n) (o9:n≤sizeLine) (tV:d.params.defaults=[]) (hr:aK k callerA)
    (hY:∀(w:World) (h:Heap),YP w h→(K w.params).In h) (Ep:∀(w:World) (h:Heap),YP w h→∀Pt∈Pts,h.get? Pt=some (PySem.W.tabObj #[]))
    (hC:∀(w:World) (h:Heap),(K w.params).In h→∀Pt∈Pts,∃c,PySem.W.CodeHd h c Pt) (Ez:∀w:World,∀Pt∈Pts,(K w.params).lookup Pt=none)
    (F:∀(w:World) (mg:Str→Option Value) (fa:Addr) (h:Heap),(K w.params).In h→h.Ns mainGlobals mg→mg d.name=some (.ref fa)→
      ∃fd:FuncData,(∀(s:Shared) (u:Value),BindsTo s fd ⟨[u],[]⟩ [(x,u)])∧
       ∀base:Heap,(K w.params).In base→base.Ns mainGlobals mg→nv mg base→ar l.prog w (K w.params) mg base aC k fa fd [x] (sp (K w.params)))
    (bX:∀(K:PySem.W.Frag) (H:Hp) (a:Addr) (ns:List Int),ns.length≤n→dj K H a ns→(∀Pt∈Pts,H Pt=some (.bt #[]))→sp K [.ref a] H (fun v _=>v=.bl true) fun _ _ _=>False):
    PySem.W.WalkO q loose XP YP l.row.toRowW d [] (fun f vs=>PySem.call f vs):=by
  refine Aa.F5 hn tV fun w bC av mg mb fa o pm cd doc a vs ns G Y ho hd bJ hmg tI hints hlen hg=> ?_
  have KX:=hY w _ Y
  obtain⟨fd,hb,hF⟩:=F w mg fa _ KX G.T.g hmg
  exact UD KX G.T.g G.T.b G.T.builtins G.T.nolimit hg tI hints (Nat.le_trans hlen o9) hr (Ep w _ Y) (hC w _ KX) (Ez w) G.T.bmain hF hb (fun H hS hP=>bX (K w.params) H a ns hlen hS hP)
def aI (K:PySem.W.Frag) (x:Str) (st:Stmt):Prop:=∃f fd,PySem.W.nsIn K mainGlobals x=some (some (.ref f))∧az K x x st f fd
theorem aX {K:PySem.W.Frag}{x:Str}{st:Stmt}{f:Addr}{oc:Value}{od an:Option Addr}{ck:Array (Option Value)}{kV doc pm ai ct:Value}(e1:PySem.W.nsIn K mainGlobals x=some (some (.ref f)))
  (e2:K.lookup f=some ⟨oc,od,.func (PySem.W.fnOf x x (bU st) (bp st) (aq st) .none kV doc pm an ai ct),ck⟩) (e3:PySem.W.codeIn K ai x=true) (e4:PySem.W.keepIn K (.ref f)=true):aI K x st:=⟨f,_,e1,Wy e2 e3 e4⟩
section
variable {P:Program}{w:World}{K:PySem.W.Frag}{mg:Str→Option Value}{base:Heap}
abbrev iU (x:Str) (st:Stmt) (ps:List Str):Prop:=∀(kV doc pm:Value) (an:Option Addr) (ai ct:Value) (us:List Value),us.length=ps.length→bindArgs (PySem.W.fnOf x x (bU st) (bp st) (aq st) .none kV doc pm an ai ct) ⟨us,[]⟩=pure (ps.zip us)
theorem aI.to {h:Heap}{x:Str}{st:Stmt}{ps:List Str}{k:Nat}{sp:Sp}(d:aI K x st) (KX:K.In h) (G:h.Ns mainGlobals mg) (hb:iU x st ps) (ok:∀f fd,az K x x st f fd→ar P w K mg base aC k f fd ps sp):Def P w K mg base k x ps sp:=by
 obtain⟨f,fd,e,F⟩:=d
 exact⟨f,fd,ok f fd F,PySem.W.mg_of KX G e,F.kp,F.binds hb⟩
theorem aI.hZ {h:Heap}{x:Str}{st:Stmt}{ps:List Str}{k:Nat}{sp:Sp}(d:aI K x st) (KX:K.In h) (G:h.Ns mainGlobals mg) (hb:iU x st ps) (ok:∀f fd,az K x x st f fd→ar P w K mg base (aG P w) k f fd ps sp):cE P w K mg base k x ps sp:=by
 obtain⟨f,fd,e,F⟩:=d
 exact⟨f,fd,ok f fd F,PySem.W.mg_of KX G e,F.kp,F.binds hb⟩
def oF (K:PySem.W.Frag) (x:Str):Bool:=match PySem.W.nsIn K mainGlobals x with |some none=>true |_=>false
theorem IW {h:Heap}{x:Str}(KX:K.In h) (G:h.Ns mainGlobals mg) (e:oF K x=true):mg x=none:=by
 unfold oF at e
 split at e
 ·rename_i q
  exact PySem.W.mg_none_of KX G q
 ·cases e
end
end U
namespace L2
open PySem PySem.Spec PyProof.Rows SeqAt
end L2
namespace L2
open PySem PySem.Spec PyProof.Rows
section
variable {X:Cx}{CX:dH}{k:Nat}{f:Addr}{fd:FuncData}{ps:List Str}{ds:List Value}{bN:List V}{sp:Sp}{E:XK}{x:Str}{p pos:Pos}{e:Expr}{es:List Expr}{t:TA}
theorem Uv {i:Nat}(F:ar X.prog X.w X.K X.mg X.base CX k f fd ps sp) (hr:aK k X.A) (hv:PE X (.Name x p) (fm i)) (hk:PySem.W.keepIn X.K (.ref f)=true) (hb:Binds X.K fd ps ds) (hd:Vals bN ds) (hx:Passes CX X E)
  (ha:PA X (e::es) t) (he:starEach (e::es) X.env=(false,eval e X.env)::starEach es X.env:=by rfl) (bz:(backTo pos (starEach es X.env)).any (·.1)=false:=by rfl) (hc:X.calm=true:=by rfl):
  PE X (.Call (.Name x p) (e::es) [] pos) (fun σ H Q=>σ[i]? =some (some (.ref f))∧gp sp bN E t σ H Q):=by
 intro pins s σ H Q I h
 obtain⟨dz,h⟩:=h
 refine wpAny_Call_Name_kw (ao (hv pins s σ H (fun v H1=>v=.ref f∧H1=H) I ⟨_,dz,rfl,rfl⟩) fun u s1 ⟨v,H1,I1,rv,e1,e2⟩=> ?_)
 subst e1 e2
 cases rv
 refine PySem.W.callWith_K (h₀:=X.base) I1.ok.mod.gU hk (ao (ha pos pins s1 σ H1 _ I1 h) fun us s2 ⟨vs,H2,I2,r,q⟩=> ⟨I2.aW,?_⟩) he bz
 exact Wj F hr hb hd hx I2 r q hc
end
theorem JM:∀{ws:List Str}{aa:List Value},Vals (ws.map V.str) aa→∃l:List (Str×Tok),aa=strValues l∧l.map (·.1)=ws
 | [],_,.nil=> ⟨[],rfl,rfl⟩
 |w::ws,_,.cons h r=>by
  obtain⟨t,rfl⟩:=h
  obtain⟨l,e1,e2⟩:=JM r
  refine⟨(w,t)::l,?_,by rw[List.map_cons,e2]⟩
  rw[e1]
  rfl
theorem JP:∀(l:List (Str×Tok)),Vals ((l.map (·.1)).map V.str) (strValues l)
 | []=> .nil
 |p::l=> .cons ⟨p.2,rfl⟩ (JP l)
section
variable {X:Cx}
theorem Ib:mV X "str.join" (fun x xs H Q=> ∃(sep:Str) (p:Addr) (ws:List Str),x=.str sep∧xs=[.ref p]∧ak X.K H p (ws.map V.str)∧JoinOk sep ws=true∧Q (.str (Txt.join sep ws)) H):=by
 intro pins s σ H x xs v us Q I rx rv h
 obtain⟨sep,p,ws,rfl,rfl,hp,ah,q⟩:=h
 obtain⟨t,rfl⟩:=rx
 obtain⟨u,rfl,ru⟩:=vals1 rv
 cases ru
 obtain⟨aa,ri,pl,_⟩:=I.list hp
 obtain⟨l,e1,e2⟩:=JM ri
 subst e1
 exact SC.join pl.isList e2 ah fun t' k=> ⟨.str _,H,I.tok _,⟨_,rfl⟩,q⟩
theorem KN:mV X "str.split" (fun x xs H Q=> ∃z y:Str,x=.str z∧xs=[.str y]∧(y.length==0)=false∧z.length≤sizeLine∧(Builtin.Str.partsBetween z (Builtin.Str.occurrences z y 0 z.length (z.length+1)) y.length).length≤sizeLine∧
  ∀D,H D=none→Q (.ref D) (upd H D (.lst ((Txt.split z y).map V.str)))):=by
 intro pins s σ H x xs v us Q I rx rv h
 obtain⟨z,y,rfl,rfl,hy,hz,hn,q⟩:=h
 obtain⟨t,rfl⟩:=rx
 obtain⟨u,rfl,t',rfl⟩:=vals1 rv
 have fin:∀(l:List (Str×Tok)) (k:Nat),l.map (·.1)=Txt.split z y→l.length≤sizeLine→EP X pins σ Q (.ref s.heap.objs.size) {s with heap:=s.heap.push {cls:=.type "list",data:=.seq (strValues l).toArray},toks:=k} :=fun l k e hl=>by
  have hv:=JP l
  rw[e]at hv
  refine⟨.ref s.heap.objs.size,_,I.laid (t':=k) (a:=s.heap.objs.size) (o:=.lst ((Txt.split z y).map V.str)) (fun b o e=>Heap.get?_push_of_some _ e) (Nat.le_refl _) ⟨by rw[←e,List.length_map,List.length_map];exact hl,strValues l,0,hv,Heap.get?_push_size _ rfl⟩,rfl,q _ (I.ah.fresh (Nat.le_refl _))⟩
 cases c1:(decide (z.length<y.length)||decide (Builtin.Str.strKind z<Builtin.Str.strKind y)) with
 |true=>
  refine call_meets F.slot_str_split (typeIs_str s z t) F.entry_str_split (F.args_str_split_2 _ _) (meets_str_split_cannot_occur z y t t' c1) ?_
  exact fin [(z,t)] s.toks (by unfold Txt.split;rw[if_pos c1];rfl) (by show 1≤sizeLine;decide)
 |false=>
  cases c2:(Builtin.Str.occurrences z y 0 z.length (z.length+1)).isEmpty with
  |true=>
   refine call_meets F.slot_str_split (typeIs_str s z t) F.entry_str_split (F.args_str_split_2 _ _) (meets_str_split_not_found z y t t' c1 hy c2) ?_
   exact fin [(z,t)] s.toks (by unfold Txt.split;rw[if_neg (by rw[c1];decide),if_pos c2];rfl) (by show 1≤sizeLine;decide)
  |false=>
   refine call_meets F.slot_str_split (typeIs_str s z t) F.entry_str_split (F.args_str_split_2 _ _) (meets_str_split_sep z y t t' c1 hy c2 hz hn) ?_
   have e:Txt.split z y=Builtin.Str.partsBetween z (Builtin.Str.occurrences z y 0 z.length (z.length+1)) y.length:=by unfold Txt.split;rw[if_neg (by rw[c1];decide),if_neg (by rw[c2];decide)]
   have z1:=numbered_texts s.toks (Builtin.Str.partsBetween z (Builtin.Str.occurrences z y 0 z.length (z.length+1)) y.length)
   have:=fin (numbered s.toks (Builtin.Str.partsBetween z (Builtin.Str.occurrences z y 0 z.length (z.length+1)) y.length)) (s.toks+(Builtin.Str.partsBetween z (Builtin.Str.occurrences z y 0 z.length (z.length+1)) y.length).length) (z1.trans e.symm) (by have:=congrArg List.length z1;rw[List.length_map]at this;rw[this];exact hn)
   rw[←strsFrom_eq]at this
   exact this
end
theorem Uf {prog:Program}{w:World}{A:Around}{I l:Addr}(cm:l≠I) (hI:I∉gh A.handled) (items:Array Value) (k:Nat) (hk:k≤items.size):
  WalksS prog w A I (I::l::gh A.handled) [I] (fun a b=>b=a) (items.size - k) (fun j v=>items[k+j]? =some v) (fun j s=>bb s.heap A.handled∧s.heap.IsListIter I l (k+j)∧s.heap.IsList l items) where
 sub:=fun b hb=>List.mem_cons.mpr (.inl (List.mem_singleton.mp hb))
 grefl:=fun _=>rfl
 gtrans:=fun _ _ _ p q=>q.trans p
 frame:=fun i s h' tk st _ kp=> ⟨st.1.at fun b hb o e=>kp b (.tail _ (.tail _ hb)) o e,st.2.1.at fun o e=>kp I (.head _) o e,st.2.2.at fun o e=>kp l (.tail _ (.head _)) o e⟩
 item:=fun i s Q E hi st hQ=>by
  have hx:items[k+i]? =some items[k+i]:=Array.getElem?_eq_getElem (by omega)
  refine wpAny_pyNext_list_item st.2.1 st.2.2 hx fun h' tQ jf=> ?_
  refine hQ _ {s with heap:=h'} hx ⟨st.1.at fun b hb o e=>jf.extBut b o (fun z=>hI (z▸hb)) e,tQ,st.2.2.extBut jf.extBut cm⟩ ⟨fun b o hb e=>jf.extBut b o (fun z=>hb (List.mem_singleton.mpr z)) e,rfl,rfl,rfl,Nat.le_refl _⟩
 done:=fun s Q E st hQ=>by
  refine YO st.1 st.2.1 st.2.2 (by rw[Array.getElem?_eq_none_iff];omega) fun h' he=> ?_
  exact hQ {s with heap:=h'} ⟨fun b o hb e=>he b o (fun z=>hb (List.mem_singleton.mpr z)) e,rfl,rfl,rfl,Nat.le_refl _⟩
 self:=fun _ _ _ _ st hQ=>wpAny_pyIter_listiter st.2.1 hQ
theorem UE {items:List Value}{u:Value}{acc:Array Value}{n:Nat}(hn:n=(u::items).toArray.size - 1) (h:ItemsOf (fun j v=> (u::items).toArray[1+j]? =some v) acc n):acc.toList=items:=by
 obtain⟨h1,h2⟩:=h
 have hs:acc.size=items.length:=by rw[h1,hn];simp
 refine List.ext_getElem? fun j=> ?_
 rw[Array.getElem?_toList]
 by_cases hj:j<acc.size
 ·have e:=h2 j acc[j] (Array.getElem?_eq_getElem hj)
  rw[Array.getElem?_eq_getElem hj,←e,Nat.add_comm]
  simp
 ·rw[Array.getElem?_eq_none_iff.mpr (by omega),List.getElem?_eq_none_iff.mpr (by omega)]
theorem WB {prog:Program}{w:World}{A:Around}{E:Value→Shared→Prop}{s:Shared}{l:Addr}{u:Value}{rest:List Value}{Q:List Value→Shared→Prop}(hh:bb s.heap A.handled) (hl:s.heap.IsList l (u::rest).toArray) (hz:rest.length≤sizeLine)
  (hQ:∀(h':Heap) (tk:Nat),(∀b o,s.heap.get? b=some o→h'.get? b=some o)→Q [u,.ref h'.objs.size] {s with heap:=h'.push {cls:=.type "list",data:=.seq rest.toArray},toks:=tk}):
  wpAny (model prog w) A (unpackItems (.ref l) 2 (some 1)) Q E s:=by
 have aJ:l≠s.heap.objs.size:=by obtain⟨o,ho,_⟩:=hl;exact Nat.ne_of_lt (Heap.lt_size ho)
 unfold unpackItems
 refine wpAny_bind ?_
 unfold notIterableAtAll
 refine wpAny_bind (wpAny_specialOf hl.typeIs slot_list_iter.lookup (wpAny_pure ?_))
 simp only[Bool.false_eq_true,if_false]
 refine wpAny_bind (wpAny_holding (wpAny_pyIter_list hl ?_))
 refine wpAny_bind (wpAny_holding ?_)
 show wpAny _ _ (pyNext (.ref s.heap.objs.size) >>=_) _ _ _
 have bS:({s with heap:=s.heap.push {cls:=.type "list_iterator",data:=.fields #[.ref l,.int 0 0]} } :Shared).heap.IsList l (u::rest).toArray:=hl.push _
 refine wpAny_bind (wpAny_pyNext_list_item (i:=0) (x:=u) ⟨_,Heap.get?_push_size _ rfl,rfl,rfl⟩ bS rfl fun h1 xX dP=> ?_)
 refine wpAny_bind (wpAny_holding ?_)
 show wpAny _ _ (pure []) _ _ _
 refine wpAny_pure (wpAny_pure ?_)
 rw[if_neg (by show ¬(1<1);decide)]
 have jk:=bS.extBut dP.extBut aJ
 have k1:∀b o,s.heap.get? b=some o→h1.get? b=some o:=fun b o e=>dP.extBut b o (Nat.ne_of_lt (Heap.lt_size e)) (Heap.get?_push_of_some _ e)
 have W:=Uf (prog:=prog) (w:=w) (A:=A.in1) aJ (fun m=>by obtain⟨o,_,q,_⟩:=hh.mem m;exact Nat.lt_irrefl _ (Heap.lt_size q)) (u::rest).toArray 1 (by simp)
 refine wpAny_bind (wpAny_holding (wpAny_collect_iter (T:= "list_iterator") (.inr (.inr (.inl rfl))) W (fun i s' st=>st.2.1.typeIs) ⟨hh.keeps k1,xX,jk⟩ ?_ (by simp) ?_ (by simpa using hz)))
 ·intro b hb
  obtain⟨o1,g1,_⟩:=xX
  obtain⟨o2,g2,_⟩:=jk
  rcases List.mem_cons.mp hb with rfl |hb
  ·exact Heap.lt_size g1
  ·rcases List.mem_cons.mp hb with rfl |hb
   ·exact Heap.lt_size g2
   ·obtain⟨o,_,q,_⟩:=(hh.keeps k1).mem hb
    exact Heap.lt_size q
 intro s' acc hm ko
 have ea:acc.toList=rest:=UE rfl ko
 rw[ea]
 show wpAny _ _ (if rest.length<2 - 1 - 1 then _ else _) _ _ _
 rw[if_neg (by omega)]
 refine wpAny_bind (wpAny_newList ?_ (by rw[List.length_take];omega))
 refine wpAny_pure ?_
 have et:rest.take (rest.length - (2 - 1 - 1))=rest:=List.take_of_length_le (by omega)
 have ed:rest.drop (rest.length - (2 - 1 - 1))=[]:=List.drop_of_length_le (by omega)
 rw[et,ed,List.append_nil]
 obtain⟨hp,g,d,tk,os⟩:=s'
 obtain⟨m1,m2,m3,m4,m5⟩:=hm
 dsimp only at m1 m2 m3 m4
 subst m2 m3 m4
 have k2:∀b o,s.heap.get? b=some o→hp.get? b=some o:=fun b o e=>m1 b o (fun z=>Nat.ne_of_lt (Heap.lt_size e) (List.mem_singleton.mp z)) (k1 b o e)
 exact hQ hp tk k2
section
variable {X:Cx}{pos:Pos}
def ER (K:PySem.W.Frag) (g1 g2:TG):TG:=fun v σ H Q=> ∃(a:Addr) (x:V) (xs:List V),v=.ref a∧ak K H a (x::xs)∧∀L,H L=none→g1 x σ (upd H L (.lst xs)) fun kF H1=>g2 (.ref L) kF H1 Q
theorem Ip {e1 e2:Expr}{g1 g2:TG}{k:Nat}{sp:Pos}(hc:X.calm=true) (h1:PG X e1 g1) (h2:PG X e2 g2)
  (hs:assignEach [e1,.Starred e2 sp] X.env=[(false,assign e1 X.env),(true,assign e2 X.env)]:=by rfl):PG X (.Tuple [e1,.Starred e2 sp] k pos) (ER X.K g1 g2):=by
 intro pins s σ H v u Q I r hw
 obtain⟨a,x,xs,e,hq,hw⟩:=hw
 subst e
 cases r
 obtain⟨aa,rv,pl,hz⟩:=I.list hq
 cases rv with
 |cons rx rr=>
  rename_i ux us
  rw[assign_Tuple]
  refine wpAny_bind (wpAny_standAt ?_)
  unfold unpack
  rw[hs]
  refine wpAny_bind (wpAny_holding (WB (u:=ux) (rest:=us) (I.cw hc) pl.isList (by have:=rr.length;simp only[List.length_cons]at hz;omega) fun h' tk kp=> ?_))
  have I0:Inv X pins σ H {s with heap:=h',toks:=tk} :=I.kept kp
  have I1:Inv X pins σ (upd H h'.objs.size (.lst xs)) {s with heap:=h'.push {cls:=.type "list",data:=.seq us.toArray},toks:=tk} :=
   I0.laid (t':=tk) (a:=h'.objs.size) (o:=.lst xs) (fun b o e=>Heap.get?_push_of_some _ e) (Nat.le_refl _) ⟨by simp only[List.length_cons]at hz;omega,us,0,rr,Heap.get?_push_size _ rfl⟩
  show wpAny _ _ (assignInOrder [assign e1 X.env,assign e2 X.env] [ux,.ref h'.objs.size]) _ _ _
  refine assignInOrder_cons (ao (h1 pins _ σ _ x ux _ I1 rx (hw _ (I0.ah.fresh (Nat.le_refl _)))) fun _ s1 ⟨kF,H1,J1,q1⟩=> ?_)
  exact assignInOrder_cons (ao (h2 pins s1 kF H1 (.ref h'.objs.size) _ Q J1 rfl q1) fun _ s2 ⟨bf,H2,J2,q2⟩=>assignInOrder_nil ⟨bf,H2,J2,q2⟩)
end
end L2
namespace L2.DC
open PySem PySem.Spec PyProof.Rows
def fh (ps:List (Key×V)):List V:=ps.flatMap fun p=> [kV p.1,p.2]
def fg (ps:List (Key×V)):List (Key×V):=ps.foldl (fun d p=>putK d p.1 p.2) []
theorem UH (ps:List (Key×V)) (k:Key) (v:V):fg (ps++[(k,v)])=putK (fg ps) k v:=by
 unfold fg
 rw[List.foldl_append]
 rfl
theorem yw (ps:List (Key×V)) (k:Key) (v:V):fh (ps++[(k,v)])=fh ps++[kV k,v]:=by
 unfold fh
 rw[List.flatMap_append]
 rfl
theorem yx (ps:List (Key×V)):(fh ps).length=2*ps.length:=by
 induction ps with
 |nil=>rfl
 |cons p ps ih=>
  have:fh (p::ps)=kV p.1::p.2::fh ps:=rfl
  rw[this,List.length_cons,List.length_cons,ih,List.length_cons]
  omega
theorem JD:∀(ps d:List (Key×V)),(ps.foldl (fun d p=>putK d p.1 p.2) d).length≤d.length+ps.length
 | [],d=>Nat.le_refl _
 |p::ps,d=>by
  have h1:=JD ps (putK d p.1 p.2)
  have h2:=WT d p.1 p.2
  rw[List.foldl_cons,List.length_cons]
  omega
theorem J6 (ps:List (Key×V)):(fg ps).length≤ps.length:=by
 have:=JD ps []
 rw[List.length_nil,Nat.zero_add]at this
 exact this
def nA (P:Program) (w:World) (h:Heap) (D:Addr) (ps:List (Key×V)):Prop:=(fg ps).length≤sizeLine∧(D==sysModules)=false∧∃vs,KV (fg ps) vs∧h.DictOf (du P w) D vs
def AccAt (P:Program) (w:World) (h:Heap) (D:Addr) (ys:List V):Prop:=∃ps,ys=fh ps∧nA P w h D ps
theorem nA.keep {P:Program}{w:World}{h h':Heap}{D:Addr}{ps:List (Key×V)}(a:nA P w h D ps) (k:∀o,h.get? D=some o→h'.get? D=some o):nA P w h' D ps:=by
 obtain⟨z,b,vs,r,o,es,ep,e,c⟩:=a
 exact⟨z,b,vs,r,o,es,ep,k _ e,c⟩
theorem AccAt.obj {P:Program}{w:World}{h:Heap}{D:Addr}{ys:List V}(a:AccAt P w h D ys):∃o,h.get? D=some o∧(∀v,o.data≠.cell v)∧∀h':Heap,h'.get? D=some o→AccAt P w h' D ys:=by
 obtain⟨ps,ey,z,b,vs,r,o,es,ep,e,c,d,f⟩:=a
 refine⟨o,e,fun v q=> ?_,fun h' q=> ⟨ps,ey,z,b,vs,r,o,es,ep,q,c,d,f⟩⟩
 rw[d]at q
 cases q
theorem AccAt.keep {P:Program}{w:World}{h h':Heap}{D:Addr}{ys:List V}(a:AccAt P w h D ys) (k:∀o,h.get? D=some o→h'.get? D=some o):AccAt P w h' D ys:=by
 obtain⟨o,e,_,kp⟩:=a.obj
 exact kp _ (k _ e)
def gH (Y:Cx) (D:Addr) (m:Sem PySem.Fin→Sem PySem.Fin) (t:TC):Prop:=
 ∀(pins:List (Addr×Obj)) (s:Shared) (σ:St) (H:Hp) (ys:List V) (Q:List V→St→Hp→Prop) (k:Sem PySem.Fin) (R:PySem.Fin→Shared→Prop),Inv Y pins σ H s→aT Y pins H D→AccAt Y.prog Y.w s.heap D ys→t ys σ H Q→
  (∀s' aV af H',Inv Y pins af H' s'→aT Y pins H' D→AccAt Y.prog Y.w s'.heap D aV→Q aV af H'→wpAny (model Y.prog Y.w) Y.A k R (fun _ _=>False) s')→wpAny (model Y.prog Y.w) Y.A (m k) R (fun _ _=>False) s
section
variable {Y:Cx}{D:Addr}
def kJ (tk tv:TE):TC:=fun ys σ H Q=>tk σ H fun x H1=>tv σ H1 fun v H2=> ∃k:Key,x=kV k∧ys.length<sizeLine∧Q (ys++[kV k,v]) σ H2
theorem AccAt.ek {P:Program}{w:World}{h:Heap}{ys:List V}(a:AccAt P w h D ys):∀b∈[D],∃o,h.get? b=some o∧∀v,o.data≠.cell v:=fun b hb=>by
 have e:b=D:=by simpa using hb
 subst e
 obtain⟨o,e,nc,_⟩:=a.obj
 exact⟨o,e,nc⟩
theorem AccAt.through {P:Program}{w:World}{h:Heap}{pins:List (Addr×Obj)}{af:St}{H':Hp}{s':Shared}{ys:List V}(a:AccAt P w h D ys) (I:Inv Y (pins++ee [D] h) af H' s'):AccAt P w s'.heap D ys∧H' D=none:=by
 obtain⟨o,e,_,kp⟩:=a.obj
 have q:=I.pin (D,_) (List.mem_append_right _ (List.mem_append_right _ (ZC (List.mem_singleton.mpr rfl) e)))
 exact⟨kp _ q.1,q.2.1⟩
theorem dr {kx vx:Expr}{tk tv:TE}(hx:Y.xe=fun _ _=>False) (gz:PE Y kx tk) (lQ:PE Y vx tv):
    gH Y D (fun k=> (do let kv ←eval kx Y.env;let vv ←holding [kv] (eval vx Y.env);standAt {kx.pos with endLine:=vx.pos.endLine,endCol:=vx.pos.endCol};holding [kv,vv] (dictSet D kv vv)) >>=fun _=>k) (kJ tk tv):=by
  intro pins s σ H ys Q k R I f a h hk
  refine wpAny_bind (wpAny_mono (Q:=fun _ s'=> ∃aV af H',Inv Y pins af H' s'∧aT Y pins H' D∧AccAt Y.prog Y.w s'.heap D aV∧Q aV af H') ?_ (fun _ s' ⟨aV,af,H',q1,q2,q3,q4⟩=>hk s' aV af H' q1 q2 q3 q4) fun _ _ z=>z)
  have I':=I.pinned (fp:=[D]) (fun b hb=>by have e:b=D:=by simpa using hb
                                            subst e;exact f) a.ek
  refine wpAny_bind (wpAny_mono (gz _ s σ H _ I' h) (fun u s1 ⟨x,H1,I1,ru,q1⟩=> ?_) fun e s1 z=>by rw[hx]at z;exact z)
  refine wpAny_bind (wpAny_holding (wpAny_mono (lQ _ s1 σ H1 _ I1 q1) (fun u2 s2 ⟨v,H2,I2,rv,key,ex,hz,q⟩=> ?_) fun e s1 z=>by rw[hx]at z;exact z))
  subst ex
  obtain⟨⟨ps,ey,z,b,vs,r,dd⟩,n1⟩:=a.through I2
  have hl:=yx ps
  have jk:=J6 ps
  rw[ey]at hz
  refine wpAny_bind (wpAny_standAt (wpAny_holding (wpAny_dictSet_pairs (hsz:=by rw[←r.length];exact z) (JZ ru) dd fun h' Fo sb=> ?_)))
  obtain⟨f0,g1,g2,g3,g4,g5⟩:=(⟨n1,f.2⟩:aT Y pins H2 D)
  have I3:=I2.dI.turned (t':=s2.toks+1) (it:=D) (fun b o hb eb=> (sb.2 b hb).trans eb) f0 g1 g3 g4 g5
  refine⟨ys++[kV key,v],σ,H2,I3,⟨f0,g1,g2,g3,g4,g5⟩,⟨ps++[(key,v)],by rw[ey,yw],?_,b,_,?_,Fo⟩,q⟩
  · have:=J6 (ps++[(key,v)])
    rw[List.length_append]at this
    have h3:([(key,v)]:List (Key×V)).length=1:=rfl
    omega
  · rw[UH]
    exact r.put key rv
def inner (elt:Expr×Expr) (gens:List Comprehension) (scope:Scope) (pos:Pos) (d:Nat) (acc:Value) (env:Env) (k:Sem PySem.Fin):Sem PySem.Fin:=
 match gens[d+1]? with
 |some g'=>eval g'.iter env >>=fun x=>standAt g'.iter.pos >>=fun _=>foldedSetIterable g'.iter env x >>=fun x=>holding [x] (pyIter x) >>=fun gX=>
  runOwn (.compStart (.DictComp elt.1 elt.2 gens scope pos) (d+1) gX acc env) env >>=fun _=>k
 |none=> (do let kv ←eval elt.1 env;let vv ←holding [kv] (eval elt.2 env);match acc with | .ref d=> (do standAt {elt.1.pos with endLine:=elt.2.pos.endLine,endCol:=elt.2.pos.endCol};holding [kv,vv] (dictSet d kv vv)) |_=>unsupported "internal:dictcomp") >>=fun _=>k
theorem uP (elt:Expr×Expr) (tg iter:Expr) (ifs:List Expr) (gens:List Comprehension) (scope:Scope) (pos:Pos) (d:Nat) (it acc:Value) (env:Env) (hg:gens[d]? =some ⟨tg,iter,ifs,0⟩) (h2:∀g',gens[d+1]? =some g'→g'.is_async=0):
  compTurn (.DictComp elt.1 elt.2 gens scope pos) d it acc env=(standAt iter.pos >>=fun _=>pyNext it >>=fun r=>match r with
   |none=>pure (.done .next)
   |some v=>letOwnedTupleGo tg it v >>=fun _=>assign tg env v >>=fun _=>qv ifs env >>=fun ok=>
    if ok=true then inner elt gens scope pos d acc env (again (.compLoop (.DictComp elt.1 elt.2 gens scope pos) d it acc env)) else again (.compLoop (.DictComp elt.1 elt.2 gens scope pos) d it acc env)):=by
 unfold compTurn inner
 dsimp only
 rw[hg]
 generalize hn:gens[d+1]? =o
 cases o with
 |none=>rfl
 |some g'=>
  have e:=h2 g' hn
  obtain⟨t',i',f',a'⟩:=g'
  have e':a'=0:=e
  subst e'
  rfl
theorem uO {elt:Expr×Expr}{tg iter:Expr}{ifs:List Expr}{gens:List Comprehension}{scope:Scope}{pos:Pos}{d:Nat}{it:Addr}{fp:List Addr}{tn:Nat→Heap→Prop}{J:It}{g:TG}{tt:TT}{ti:TC}{pins:List (Addr×Obj)}{s:Shared}{σ:St}{H:Hp}{ys:List V}{Q:List V→St→Hp→Prop}
    (hx:Y.xe=fun _ _=>False) (hc:Y.calm=true) (hg:gens[d]? =some ⟨tg,iter,ifs,0⟩) (T:Turn Y.prog Y.w Y.K tg J fp it tn) (hf:∀b∈fp,aT Y pins H b) (st:tn 0 s.heap) (hD:D∉fp)
    (h2:∀g',gens[d+1]? =some g'→g'.is_async=0) (pg:PG Y tg g) (pt:hV Y ifs tt) (pi:gH Y D (inner elt gens scope pos d (.ref D) Y.env) ti)
    (I:Inv Y pins σ H s) (f:aT Y pins H D) (a:AccAt Y.prog Y.w s.heap D ys) (h:fN g tt ti J ys σ H Q):
    codeAny (model Y.prog Y.w) Y.A (.compLoop (.DictComp elt.1 elt.2 gens scope pos) d (.ref it) (.ref D) Y.env) (fun r s'=>match r with
      | .ok _=> ∃aV af H',Inv Y pins af H' s'∧aT Y pins H' D∧AccAt Y.prog Y.w s'.heap D aV∧Q aV af H'
      | .error _=>False) s:=by
  obtain⟨W,⟨m0,w0⟩,turn⟩:=h
  have stat:∀{H':Hp},(∀b∈fp,H' b=none)→∀b∈fp,aT Y pins H' b:=fun hn b hb=> ⟨hn b hb,(hf b hb).2⟩
  refine codeAny_loop rfl (fun n s'=> ∃i aV af H',Inv Y pins af H' s'∧aT Y pins H' D∧AccAt Y.prog Y.w s'.heap D aV∧tn i s'.heap∧(∀b∈fp,H' b=none)∧W i n aV af H') (fun n s3 hI=> ?_) m0 ⟨0,ys,σ,H,I,f,a,st,fun b hb=> (hf b hb).1,w0⟩
  obtain⟨i,fH,cZ,H3,I3,f3,a3,cu,iK,w3⟩:=hI
  show wpAny _ Y.A ((compTurn (.DictComp elt.1 elt.2 gens scope pos) d (.ref it) (.ref D) Y.env).onRaise (fun x=>do noteFrame x Y.env;theTreesLotGoes x)) _ _ s3
  refine wpAny_noted (wpAny_mono (E:=fun _ _=>False) ?_ (fun _ _ q=>q) fun _ _ z=>z.elim)
  rw[uP elt tg iter ifs gens scope pos d (.ref it) (.ref D) Y.env hg h2]
  refine wpAny_bind (wpAny_standAt (wpAny_bind ?_))
  have aD:∀{h h':Heap},(∀b o,b∉fp→h.get? b=some o→h'.get? b=some o)→∀{zs},AccAt Y.prog Y.w h D zs→AccAt Y.prog Y.w h' D zs:=fun k _ q=>q.keep fun o e=>k D o hD e
  have nh:=I3.pinned (fp:=[D]) (fun b hb=>by have e:b=D:=by simpa using hb
                                             subst e;exact f3) a3.ek
  have kO:∀b∈fp,aT Y (pins++ee [D] s3.heap) H3 b:=fun b hb=>by
    obtain⟨g0,g1,g2,g3,g4,g5⟩:=stat iK b hb
    refine⟨g0,g1,g2,g3,g4,fun p hp=> ?_⟩
    rcases List.mem_append.mp hp with z |z
    · exact g5 p (List.mem_append_left _ z)
    · rcases List.mem_append.mp z with z |z
      · exact g5 p (List.mem_append_right _ z)
      · intro q
        have e:p.1=D:=by simpa using (Yg z).1
        exact hD (by rw[←e,q];exact hb)
  rcases turn i n fH cZ H3 w3 with ⟨stop,qn⟩ |⟨go,N,hN,step⟩
  · refine wpAny_mono (T.done Y rfl rfl rfl hc i _ s3 cZ H3 (fun _ _=>False) nh kO cu stop) (fun r s4 ⟨hr,I4⟩=> ?_) fun _ _ z=>z
    subst hr
    obtain⟨a4,n4⟩:=a3.through I4
    exact wpAny_pure ⟨fH,cZ,H3,I4.dI,f3,a4,qn⟩
  · refine wpAny_mono (T.item Y rfl rfl rfl hc i _ s3 cZ H3 (fun _ _=>False) nh kO cu go) (fun r s4 ⟨u,hr,h4⟩=> ?_) fun _ _ z=>z
    subst hr
    refine wpAny_bind (wpAny_mono h4 (fun _ s5 ⟨x,H5,I5,r5,y5,fQ,mn⟩=> ?_) fun _ _ z=>z)
    obtain⟨a5,n5⟩:=a3.through I5
    have f5:aT Y pins H5 D:=⟨n5,f3.2⟩
    have tJ:∀b∈D::fp,∃o,s5.heap.get? b=some o∧∀v,o.data≠.cell v:=fun b hb=>by
      rcases List.mem_cons.mp hb with e |hb
      · exact a5.ek b (by simp[e])
      · exact T.obj _ _ fQ b hb
    have ng:=I5.dI.pinned (fp:=D::fp) (fun b hb=>by
      rcases List.mem_cons.mp hb with e |hb
      · rw[e];exact f5
      · exact stat mn b hb) tJ
    refine wpAny_bind (wpAny_mono (pg _ s5 cZ H5 x u _ ng r5 (step x H5 y5)) (fun _ s6 ⟨gI,H6,I6,q6⟩=> ?_) fun _ _ z=>by rw[hx]at z;exact z)
    refine wpAny_bind (wpAny_mono (pt _ s6 gI H6 _ I6 q6) (fun b s7 ⟨H7,I7,q7⟩=> ?_) fun _ _ z=>by rw[hx]at z;exact z)
    have lh:∀{bQ:St}{H7:Hp}{s7:Shared},Inv Y (pins++ee (D::fp) s5.heap) bQ H7 s7→AccAt Y.prog Y.w s7.heap D fH∧H7 D=none:=fun {bQ H7 s7} J=>by
      obtain⟨o,e,_,kp⟩:=a5.obj
      have q:=J.pin (D,_) (List.mem_append_right _ (List.mem_append_right _ (ZC List.mem_cons_self e)))
      exact⟨kp _ q.1,q.2.1⟩
    have lg:∀{bQ:St}{H7:Hp}{s7:Shared},Inv Y (pins++ee (D::fp) s5.heap) bQ H7 s7→tn (i+1) s7.heap∧∀b∈fp,H7 b=none:=fun {bQ H7 s7} J=>by
      refine⟨T.keep _ _ _ fQ fun b hb o e=> (J.pin (b,o) (List.mem_append_right _ (List.mem_append_right _ (ZC (List.mem_cons_of_mem _ hb) e)))).1,fun b hb=> ?_⟩
      obtain⟨o,e,dd⟩:=T.obj _ _ fQ b hb
      exact(J.pin (b,o) (List.mem_append_right _ (List.mem_append_right _ (ZC (List.mem_cons_of_mem _ hb) e)))).2.1
    cases b with
    |false=>
     simp only[Bool.false_eq_true,if_false]at q7 ⊢
     obtain⟨m',hm,w7⟩:=hN _ _ _ q7
     obtain⟨a7,n7⟩:=lh I7
     obtain⟨t7,r7⟩:=lg I7
     exact wpAny_pure ⟨rfl,m',hm,i+1,fH,gI,H7,I7.dI,⟨n7,f3.2⟩,a7,t7,r7,w7⟩
    |true=>
     simp only[if_true]at q7 ⊢
     obtain⟨a7,n7⟩:=lh I7
     obtain⟨t7,r7⟩:=lg I7
     have vD:=I7.dI.pinned (fp:=fp) (stat r7) (T.obj _ _ t7)
     have f7:aT Y (pins++ee fp s7.heap) H7 D:=by
       obtain⟨g0,g1,g2,g3,g4,g5⟩:=f3
       refine⟨n7,g1,g2,g3,g4,fun p hp=> ?_⟩
       rcases List.mem_append.mp hp with z |z
       · exact g5 p (List.mem_append_left _ z)
       · rcases List.mem_append.mp z with z |z
         · exact g5 p (List.mem_append_right _ z)
         · intro q
           exact hD (by rw[←q];exact(Yg z).1)
     refine pi _ s7 gI H7 fH N _ _ vD f7 a7 q7 fun s8 qk dX H8 I8 f8 a8 q8=> ?_
     obtain⟨m',hm,w8⟩:=hN _ _ _ q8
     refine wpAny_pure ⟨rfl,m',hm,i+1,qk,dX,H8,I8.dI,⟨f8.1,f3.2⟩,a8,T.keep _ _ _ t7 fun b hb o e=> (I8.pin (b,o) (List.mem_append_right _ (List.mem_append_right _ (ZC hb e)))).1,fun b hb=> ?_,w8⟩
     obtain⟨o,e,dd⟩:=T.obj _ _ t7 b hb
     exact(I8.pin (b,o) (List.mem_append_right _ (List.mem_append_right _ (ZC hb e)))).2.1
theorem uN {elt:Expr×Expr}{tg iter:Expr}{ifs:List Expr}{gens:List Comprehension}{scope:Scope}{pos:Pos}{d:Nat}{it:Addr}{R:Result→Shared→Prop}{s:Shared}{A:Around}{prog:Program}{w:World}{env:Env}{acc:Value}{fp:List Addr}{tn:Nat→Heap→Prop}{J:It}{K:PySem.W.Frag}
  (hg:gens[d]? =some ⟨tg,iter,ifs,0⟩) (T:Turn prog w K tg J fp it tn) {i:Nat} (st:tn i s.heap) (h:codeAny (model prog w) A (.compLoop (.DictComp elt.1 elt.2 gens scope pos) d (.ref it) acc env) R s):
  codeAny (model prog w) A (.compStart (.DictComp elt.1 elt.2 gens scope pos) d (.ref it) acc env) R s:=by
 refine codeAny_of_tree ?_
 show wpAny _ _ ((compStart (.DictComp elt.1 elt.2 gens scope pos) d (.ref it) acc env).onRaise (fun x=>do noteFrame x env;standAt theWindowsPlace)) _ _ s
 refine wpAny_notedAt ?_
 have jl:(clausesOf (.DictComp elt.1 elt.2 gens scope pos))[d]? =some ⟨tg,iter,ifs,0⟩:=hg
 unfold compStart
 rw[jl]
 show wpAny _ _ (ask >>=_) _ _ s
 refine wpAny_bind (wpAny_askSetting (wpAny_ite ?_))
 split
 ·first
   |exact wpAny_bind (wpAny_pure (wpAny_pure (And.intro rfl h)))
   |exact wpAny_pure (And.intro rfl h)
 ·refine wpAny_bind (wpAny_rule ?_)
  show wpAny _ _ (standAt iter.pos >>=_) _ _ s
  exact wpAny_bind (wpAny_standAt (wpAny_bind (T.self A i s _ _ st (wpAny_pure (And.intro rfl h)))))
end
section
variable {X:Cx}{pins:List (Addr×Obj)}{σ:St}{H H':Hp}{s s':Shared}
theorem pW {N':List Str}{scope:Scope}{C D:Addr}{fp:List Addr}{af:St}{ps:List (Key×V)}{pl:List (Addr×Obj)}{h':Heap}(I:Inv X pins σ H s) (hf:∀b∈fp,aT X pins H b) (hC:s.heap.objs.size≤C) (hD:s.heap.objs.size≤D) (eA:D≠C)
  (J:Inv (aS X N' scope C s H fp) pl af H' s') (n:H' D=none) (a:nA X.prog X.w s'.heap D ps) (sb:Heap.SameBut C s'.heap h'):Inv X pins σ (upd H' D (.dK (fg ps))) {s' with heap:=h'} :=by
 have cU:∀b o,s.heap.get? b=some o→b≠C:=fun b o e=>Nat.ne_of_lt (Nat.lt_of_lt_of_le (Heap.lt_size e) hC)
 have sQ:∀b o,s.heap.get? b=some o→b≠D:=fun b o e=>Nat.ne_of_lt (Nat.lt_of_lt_of_le (Heap.lt_size e) hD)
 have i9:∀b o,H b=some o→b≠D:=fun b o e=>Nat.ne_of_lt (Nat.lt_of_lt_of_le (I.ah.lt e) hD)
 have fC:H' C=none:=J.free
 have u:Un (aA X.stack) fp H H' s.heap s'.heap:=J.base
 refine I.pV (s':= {s' with heap:=h'}) (ch:=fp) J.os ⟨fun b o e nb hb hx=> (sb.2 b (cU b o e)).trans (u.keep b o e nb hb hx),fun b o e nb hb hx=> ?_,fun b o e nb hx=>by rw[Zh (sQ b o e)];exact u.free b o e nb hx,fun b o e hx=> ?_,
  fun b xs e=>by rw[Zh (i9 b _ e)];exact u.dJ b xs e,fun b o xs e=>by rw[Zh (i9 b _ e)];exact u.dB b o xs e,fun b ps e=>by rw[Zh (i9 b _ e)];exact u.dq b ps e⟩ (fun b v e=> ?_) J.bare fun b hb=> ?_
 ·obtain⟨sl,q⟩:=u.slot b o e nb hb hx
  exact⟨sl,(sb.2 b (cU b o e)).trans q⟩
 ·obtain⟨o',q⟩:=u.there b o e hx
  exact⟨o',(sb.2 b (cU b o e)).trans q⟩
 ·by_cases hb:b=D
  ·subst hb
   rw[Zc]at e
   cases e
   exact a.keep fun o q=> (sb.2 b eA).trans q
  ·rw[Zh hb]at e
   refine(J.ah b v e).fO (fun c w hc q=> (sb.2 c ?_).trans q) (fun c q=>by rw[Zh (Zg q n)];exact q) fun c xs q=>by rw[Zh (Zg q n)];exact q
   rcases hc with z |z
   ·rw[z];exact Zg e fC
   ·exact Zg z fC
 ·obtain⟨f0,f1,f2,f3,f4,f5⟩:=hf b hb
  exact⟨f3,f1,f4,f5⟩
theorem pU {elt:Expr×Expr}{tg iter:Expr}{ifs:List Expr}{rest:List Comprehension}{scope:Scope}{pos:Pos}{N':List Str}{ts:Nat}{aR:List Nat}{it:Addr}{fp:List Addr}{tn:Nat→Heap→Prop}{J:It}{g:TG}{tt:TT}{ti:TC}{Q:List V→Hp→Prop}{E:Value→Shared→Prop}{RR:Value→Addr→Result→Shared→Prop}
  (S:qj X N' ts aR scope) (hc:X.calm=true) (I:Inv X pins σ H s) (T:Turn X.prog X.w X.K tg J fp it tn) (st:tn 0 s.heap) (hf:∀b∈fp,aT X pins H b)
  (h2:∀g',(Comprehension.mk tg iter ifs 0::rest)[0+1]? =some g'→g'.is_async=0)
  (pg:∀C,PG (aS X N' scope C s H fp) tg g) (pt:∀C,hV (aS X N' scope C s H fp) ifs tt)
  (pi:∀C D,gH (aS X N' scope C s H fp) D (inner elt (⟨tg,iter,ifs,0⟩::rest) scope pos 0 (.ref D) (aS X N' scope C s H fp).env) ti)
  (h:fN g tt ti J [] (gk ts aR σ) H fun ys _ H2=>Q ys H2)
  (ud:∀C D s' af H' ys fl,s.heap.objs.size≤C→s.heap.objs.size≤D→D≠C→Inv (aS X N' scope C s H fp) [] af H' s'→H' D=none→AccAt X.prog X.w s'.heap D ys→Q ys H'→RR (.ref D) C (.ok fl) s'):
  wpAny (model X.prog X.w) X.A newDict (fun acc ia=>wpAny (model X.prog X.w) X.A (newFunctionEnv scope X.env.globals (cH scope X.env) [] X.env.qual none .none (some X.env)) (fun mJ qz=>
   codeAny (model X.prog X.w) X.A (.compStart (.DictComp elt.1 elt.2 (⟨tg,iter,ifs,0⟩::rest) scope pos) 0 (.ref it) acc {mJ with scope:=relabel scope X.env}) (RR acc mJ.locals) qz) E ia) E s:=by
 refine wpAny_newObj_type (wpAny_newFunctionEnv S.ek (by intro y hy;simp at hy) (fun aO jh gy=> ?_) S.kind)
 dsimp only at jh gy ⊢
 generalize iI:s.heap.push {cls:=.type "dict",data:=.dict #[]} =h0 at jh gy ⊢
 have hC:h0.objs.size=s.heap.objs.size+1:=by rw[←iI,Heap.size_push]
 have eA:s.heap.objs.size≠h0.objs.size:=by rw[hC];exact Nat.ne_of_lt (Nat.lt_succ_self _)
 have jq:s.heap.objs.size≤h0.objs.size:=by rw[hC];exact Nat.le_succ _
 have cU:∀b o,s.heap.get? b=some o→b≠h0.objs.size:=fun b o e=>Nat.ne_of_lt (Nat.lt_of_lt_of_le (Heap.lt_size e) jq)
 have old:∀b o,s.heap.get? b=some o→aO.get? b=some o:=fun b o e=>gy.extBut b o (cU b o e) (Heap.get?_push_of_some _ (iI▸Heap.get?_push_of_some _ e))
 have ko:aO.get? s.heap.objs.size=some {cls:=.type "dict",data:=.dict #[]} :=gy.extBut _ _ eA (Heap.get?_push_of_some _ (iI▸Heap.get?_push_size _ rfl))
 have ho:∀b∈fp,∃o,s.heap.get? b=some o:=fun b hb=>let ⟨o,e,_⟩:=T.obj _ _ st b hb;⟨o,e⟩
 have I1:Inv (aS X N' scope h0.objs.size s H fp) [] (gk ts aR σ) H {s with heap:=aO,toks:=s.toks+([]:List (Str×Value)).length} :=UY S I hf ho jq jh old
 have fresh:=I.ah.fresh (a:=s.heap.objs.size) (Nat.le_refl _)
 have uo:∀b∈fp,aT (aS X N' scope h0.objs.size s H fp) [] H b:=fun b hb=>by
  obtain⟨f0,f1,f2,f3,f4,f5⟩:=hf b hb
  refine⟨f0,(I1.ok.gF b hb).1,I1.ok.gi b hb,.inl hb,(I1.ok.gF b hb).2,fun p hp=>absurd (show p∈([]:List (Addr×Obj)) from hp) (by simp)⟩
 have fD:aT (aS X N' scope h0.objs.size s H fp) [] H s.heap.objs.size:=by
  refine⟨fresh,eA,fun z=> ?_,.inr (Nat.le_refl _),fun x c e z=> ?_,fun p hp=>absurd (show p∈([]:List (Addr×Obj)) from hp) (by simp)⟩
  ·obtain⟨_,o,bA,_⟩:=I.stack.mem z
   exact absurd (Heap.lt_size bA) (Nat.lt_irrefl _)
  ·obtain⟨e1,e2⟩:=Z5 e
   obtain⟨c',bM⟩:=I.ok.has x (S.free _ e2 rfl)
   obtain⟨v,q⟩:=I.cell x c' bM
   rw[bM]at e1
   have e3:c=c':=e1
   have l:=q.lt
   rw[←e3,z]at l
   exact absurd l (Nat.lt_irrefl _)
 have aD:AccAt X.prog X.w aO s.heap.objs.size []:=⟨[],rfl,Nat.zero_le _,by have:=I.big;exact beq_eq_false_iff_ne.mpr (Nat.ne_of_gt this),[],.nil,(Heap.DictOf.new s.heap).at fun o e=>gy.extBut _ _ eA (Heap.get?_push_of_some _ (iI▸e))⟩
 have uf:s.heap.objs.size∉fp:=fun z=>by obtain⟨o,e⟩:=ho _ z;exact absurd (Heap.lt_size e) (Nat.lt_irrefl _)
 have cj:tn 0 aO:=T.keep _ _ _ st fun b _ o e=>old b o e
 have run:=uN (elt:=elt) (gens:=⟨tg,iter,ifs,0⟩::rest) (scope:=scope) (pos:=pos) (d:=0) rfl T cj
  (uO (Y:=aS X N' scope h0.objs.size s H fp) (D:=s.heap.objs.size) (Q:=fun ys _ H2=>Q ys H2) (elt:=elt) (gens:=⟨tg,iter,ifs,0⟩::rest) (scope:=scope) (pos:=pos) (d:=0) rfl hc rfl T uo cj uf h2 (pg _) (pt _) (pi _ _) I1 fD aD h)
 refine codeAny_mono run fun r s' hr=> ?_
 cases r with
 |error e=>exact hr.elim
 |ok fl=>
  obtain⟨aV,af,H',q1,q2,q3,q4⟩:=hr
  exact ud _ _ s' af H' aV fl jq (Nat.le_refl _) eA q1 q2.1 q3 q4
end
def AY (wi:TI) (ts:Nat) (aR:List Nat) (g:TG) (tt:TT) (ti:TC):TE:=fun σ H Q=>wi σ H fun J H1=>fN g tt ti J [] (gk ts aR σ) H1 fun ys _ H2=> ∀ps,ys=fh ps→∀p,H2 p=none→Q (.ref p) (upd H2 p (.dK (fg ps)))
section
variable {X:Cx}{elt:Expr×Expr}{tg iter:Expr}{ifs:List Expr}{rest:List Comprehension}{scope:Scope}{pos:Pos}{wi:TI}{g:TG}{tt:TT}{ti:TC}
theorem B0 (N':List Str) (ts:Nat) (aR:List Nat) {i:Nat}{x:Str}{px kP:Pos}(hN:X.N.Nodup) (ma:X.N[i]? =some x) (hx:Loc X.env.scope x) (hi:PI X tg iter wi) (pg:∀C s H fp,PG (aS X N' scope C s H fp) tg g) (pt:∀C s H fp,hV (aS X N' scope C s H fp) ifs tt)
  (pi:∀C s H fp D,gH (aS X N' scope C s H fp) D (inner elt (⟨tg,iter,ifs,0⟩::rest) scope pos 0 (.ref D) (aS X N' scope C s H fp).env) ti)
  (lV:swapsWith (.DictComp elt.1 elt.2 (⟨tg,iter,ifs,0⟩::rest) scope pos) (some (.Name x px)) kP.line X.env=pure true:=by rfl)
  (ok:mH X.env.scope scope X.N N' ts aR=true:=by rfl) (hc:X.calm=true:=by rfl) (h2:∀g',(Comprehension.mk tg iter ifs 0::rest)[0+1]? =some g'→g'.is_async=0:=by(intro g' h;cases h<;>rfl))
  (hs:∀x,foldedSetIterable iter X.env x=pure x:=by intro _;rfl) (fc:X.fn x=true∨X.env.scope.names.lookup x=some .local:=by first |exact .inl rfl |exact .inr rfl |assumption):
  PS X (.Assign [.Name x px] (.DictComp elt.1 elt.2 (⟨tg,iter,ifs,0⟩::rest) scope pos) kP) (kK (AY wi ts aR g tt ti) (iJ i)):=by
 intro pins s σ H D I h
 have S:=JF ok
 rw[exec_Assign_Name_used _ _ _ _ lV]
 refine wpAny_bind (wpAny_standAt (wpAny_bind ?_))
 show wpAny _ X.A (do let _ ←comprehension (.DictComp elt.1 elt.2 (⟨tg,iter,ifs,0⟩::rest) scope pos) scope X.env _ newDict false (eval iter X.env) (some (assign (.Name x px) X.env))) _ _ s
 refine wpAny_bind (wpAny_mono (wpAny_comprehension_free (use:=some (assign (.Name x px) X.env)) (Q:=fun _ s'=> ∃af H',Inv X pins af H' s'∧D.nx af H') rfl hs (ZZ fun y hy e=>I.ok.has _ (S.free y hy e)) S.kind S.names
  (ao (hi pins s σ H _ I h) fun v s1 h1=>ao h1 fun gX s2 kq=> ?_)) (fun _ s' hq=>wpAny_pure (wpAny_pure hq)) fun _ _ e=>e)
 obtain⟨it,fp,tn,J,H2,e,I2,T,bH,f2,q2⟩:=kq
 subst e
 refine pU (RR:=fun acc C=>compPost (model X.prog X.w) X.A X.xe (some (assign (.Name x px) X.env)) _ acc C) S hc I2 T bH f2 h2 (fun C=>pg C _ _ _) (fun C=>pt C _ _ _) (fun C D=>pi C _ _ _ D) q2 ?_
 intro C B s' af H' ys fl hC hB mj J' n a q
 obtain⟨m,hn,_⟩:=J'.loc
 obtain⟨ps,ey,a⟩:=a
 have IX:Inv X pins σ (upd H' B (.dK (fg ps))) s':=pW I2 f2 hC hB mj J' n a (Heap.SameBut.refl C s'.heap)
 have fC:=I2.mw (H':=upd H' B (.dK (fg ps))) (b:=C) hC (by rw[Zh (Ne.symm mj)];exact J'.free)
 obtain⟨f0,f1,E9,f3,f4,f5⟩:=fC
 show wpAny _ X.A (assign (.Name x px) X.env (.ref B)) _ _ s'
 refine wpAny_assign_Name (YV (v:=.ref B) (u:=.ref B) IX hN ma hx rfl (fun dc vE ⟨c,sb,ft⟩=> ?_) fc)
 have ug:C≠c:=by
  rcases ft with z |z
  ·rw[z];exact f1
  ·exact(f4 x c z).symm
 refine⟨m,Heap.Ns.sameBut hn sb ug,fun h' ra=> ?_⟩
 refine⟨σ.set i (some (.ref B)),_,vE.turned (t':=dc.toks) (it:=C) (fun b o hb e=> (ra.2 b hb).trans e) f0 f1 f3 f4 f5,q ps ey B n⟩
end
end L2.DC
namespace L2
open PySem PySem.Spec PyProof.Rows
section
variable {X:Cx}
def AQ (tb tc td te:TE):TE:=fun σ H Q=>tb σ H fun v2 H2=> ∃n:Int,v2=.int n∧n.natAbs.log2<1920∧(Str.empty++(Str.ofString (toString n))).length≤sizeLine∧
 tc σ H2 fun v3 H3=> ∃x3,v3=.str x3∧(Str.empty++(Str.ofString (toString n))++x3).length≤sizeLine∧td σ H3 fun v4 H4=> ∃m:Int,v4=.int m∧m.natAbs.log2<1920∧(Str.empty++(Str.ofString (toString n))++x3++(Str.ofString (toString m))).length≤sizeLine∧
 te σ H4 fun v5 H5=> ∃x5,v5=.str x5∧(Str.empty++(Str.ofString (toString n))++x3++(Str.ofString (toString m))++x5).length≤sizeLine∧Q (.str (Str.empty++(Str.ofString (toString n))++x3++(Str.ofString (toString m))++x5)) H5
theorem Kq {b c d e:Expr}{tb tc td te:TE}{p p' pos:Pos}(hb:PE X b tb) (hc:PE X c tc) (hd:PE X d td) (he:PE X e te):PE X (.JoinedStr [.FormattedValue b (-1) none p,c,.FormattedValue d (-1) none p',e] pos) (AQ tb tc td te):=by
 intro pins s σ H Q I h
 refine JoinedStr_many (joinParts_cons (FormattedValue_plain (ao (hb pins s σ H _ I h) fun u s2 h3=> ?_)))
 obtain⟨v,H2,I2,r2,n,rfl,hn,eo,h4⟩:=h3
 obtain⟨t2,rfl⟩:=r2
 refine formatField_int_small hn ⟨eo,?_⟩
 refine joinParts_cons (ao (hc pins _ σ H2 _ (I2.tok _) h4) fun u s3 h5=> ?_)
 obtain⟨v,H3,I3,r3,x3,rfl,lP,h6⟩:=h5
 obtain⟨t3,rfl⟩:=r3
 refine⟨lP,joinParts_cons (FormattedValue_plain (ao (hd pins s3 σ H3 _ I3 h6) fun u s4 h7=> ?_))⟩
 obtain⟨v,H4,I4,r4,m,rfl,hm,lO,h8⟩:=h7
 obtain⟨t4,rfl⟩:=r4
 refine formatField_int_small hm ⟨lO,?_⟩
 refine joinParts_cons (ao (he pins _ σ H4 _ (I4.tok _) h8) fun u s5 h9=> ?_)
 obtain⟨v,H5,I5,r5,x5,rfl,jd,q⟩:=h9
 obtain⟨t5,rfl⟩:=r5
 refine⟨jd,joinParts_nil ?_ jd⟩
 exact⟨.str _,H5,I5.tok _,⟨_,rfl⟩,q⟩
end
end L2
namespace L2
open PySem PySem.StrLaws
def cG (c:Nat):List Nat→List (List Nat)
 | []=> [[]]
 |d::l=>if d=c then []::cG c l else match cG c l with
  |p::r=> (d::p)::r
  | []=> [[d]]
theorem Y9 {c:Nat} :∀{l:List Nat},c∉l→cG c l=[l]
 | [],_=>rfl
 |d::l,h=>by
  have h1:d≠c:=fun z=>h (by rw[z];exact List.mem_cons_self)
  unfold cG
  rw[if_neg h1,Y9 fun z=>h (List.mem_cons_of_mem _ z)]
theorem JE {c:Nat}{r:List Nat} :∀{l:List Nat},c∉l→cG c (l++c::r)=l::cG c r
 | [],_=>by
  show cG c (c::r)=_
  rw[cG,if_pos rfl]
 |d::l,h=>by
  have h1:d≠c:=fun z=>h (by rw[z];exact List.mem_cons_self)
  show cG c (d::(l++c::r))=_
  rw[cG,if_neg h1,JE fun z=>h (List.mem_cons_of_mem _ z)]
def dg (x y:Str) (hi i:Nat):Bool:=decide (i+1≤hi)&&Builtin.Str.subAt x y i
theorem Jf {x y:Str}(hw:y.length=1) (hi limit:Nat):∀(k lo:Nat) (st:Array Nat×Nat),st.2≤lo→st.1.size+k≤limit→(forIn (List.range' lo k) st (occBody x y hi limit)).run.fst.toList=st.1.toList++(List.range' lo k).filter (dg x y hi)
 |0,lo,st,_,_=>by
  show(st.1.toList)=st.1.toList++[]
  rw[List.append_nil]
 |k+1,lo,st,h1,h2=>by
  rw[List.range'_succ,List.forIn_cons,List.filter_cons]
  unfold occBody
  by_cases c:lo+y.length≤hi∧Builtin.Str.subAt x y lo=true
  ·rw[if_pos ⟨⟨⟨by omega,h1⟩,c.1⟩,c.2⟩]
   have hp:dg x y hi lo=true:=by
    unfold dg
    rw[c.2,decide_eq_true (by omega:lo+1≤hi)]
    rfl
   rw[hp,if_pos rfl]
   have:=Jf (x:=x) hw hi limit k (lo+1) (st.1.push lo,lo+y.length) (by show lo+y.length≤lo+1;omega) (by show(st.1.push lo).size+k≤limit;rw[Array.size_push];omega)
   refine this.trans ?_
   show(st.1.push lo).toList++_=_
   rw[Array.toList_push,List.append_assoc]
   rfl
  ·rw[if_neg fun z=>c ⟨z.1.2,z.2⟩]
   have hp:dg x y hi lo=false:=by
    unfold dg
    rw[Bool.and_eq_false_iff]
    by_cases c1:lo+1≤hi
    ·refine .inr ?_
     cases hs:Builtin.Str.subAt x y lo with
     |false=>rfl
     |true=>exact absurd ⟨by omega,hs⟩ c
    ·exact .inl (decide_eq_false c1)
   rw[hp,if_neg Bool.false_ne_true]
   exact Jf hw hi limit k (lo+1) (st.1,st.2) (by show st.2≤lo+1;omega) (by show st.1.size+k≤limit;omega)
theorem Ye (x:Str) (i j:Nat):(Builtin.Str.strSub x i j).cps.toList=(x.cps.toList.drop i).take (j - i):=by
 show(x.cps.extract i j).toList=_
 rw[Array.toList_extract,List.extract_eq_take_drop]
theorem HE {x:Str}{c i:Nat}(h:i<x.length):Builtin.Str.subAt x ⟨#[c]⟩ i=true↔x.cps.toList[i]? =some c:=by
 have hl:i<x.cps.toList.length:=by rw[Array.length_toList];exact h
 have e:(x.cps.extract i (i+1)).toList=[x.cps.toList[i]]:=by
  rw[Array.toList_extract,List.extract_eq_take_drop,Nat.add_sub_cancel_left,List.drop_eq_getElem_cons hl]
  rfl
 show(x.cps.extract i (i+1)== #[c])=true↔_
 rw[beq_iff_eq,List.getElem?_eq_getElem hl]
 constructor
 ·intro z
  rw[z]at e
  have:c=x.cps.toList[i]:=List.cons.inj e|>.1
  rw[←this]
 ·intro z
  have z':=Option.some.inj z
  rw[z']at e
  exact Array.toList_inj.mp e
theorem Ux (x:Str) {a:Nat}(h:a<x.length):∀(r:List Nat),(∀i∈r,a+1≤i∧i≤x.length)→∃p q,(partsFrom x 1 (a+1) r).map (·.cps.toList)=p::q∧(partsFrom x 1 a r).map (·.cps.toList)=(x.cps.toList[a]'(by rw[Array.length_toList];exact h)::p)::q:=by
 have hl:a<x.cps.toList.length:=by rw[Array.length_toList];exact h
 have hd:∀j,a+1≤j→(x.cps.toList.drop a).take (j - a)=x.cps.toList[a]::(x.cps.toList.drop (a+1)).take (j - (a+1)):=fun j hj=>by
  rw[List.drop_eq_getElem_cons hl,show j - a=(j - (a+1))+1 by omega,List.take_succ_cons]
 intro r hr
 cases r with
 |nil=>
  refine⟨_,[],rfl,?_⟩
  show [(Builtin.Str.strSub x a x.length).cps.toList]=[_::(Builtin.Str.strSub x (a+1) x.length).cps.toList]
  rw[Ye,Ye,hd _ (by omega)]
 |cons c r=>
  refine⟨_,_,rfl,?_⟩
  show(Builtin.Str.strSub x a c).cps.toList::_=(_::(Builtin.Str.strSub x (a+1) c).cps.toList)::_
  rw[Ye,Ye,hd _ (hr c List.mem_cons_self).1]
theorem JU (x:Str) (c:Nat):∀(k a:Nat),a+k=x.length→(partsFrom x 1 a ((List.range' a (k+1)).filter (dg x ⟨#[c]⟩ x.length))).map (·.cps.toList)=cG c (x.cps.toList.drop a)
 |0,a,h=>by
  have e:(List.range' a (0+1)).filter (dg x ⟨#[c]⟩ x.length)=[]:=by
   show [a].filter _=[]
   have:dg x ⟨#[c]⟩ x.length a=false:=by
    unfold dg
    rw[decide_eq_false (by omega)]
    rfl
   rw[List.filter_cons,this]
   rfl
  rw[e]
  show [(Builtin.Str.strSub x a x.length).cps.toList]=_
  rw[Ye,List.drop_of_length_le (by rw[Array.length_toList];show x.length≤a;omega),List.take_nil]
  rfl
 |k+1,a,h=>by
  have ha:a<x.length:=by omega
  have hl:a<x.cps.toList.length:=by rw[Array.length_toList];exact ha
  have ih:=JU x c k (a+1) (by omega)
  rw[List.range'_succ,List.filter_cons,List.drop_eq_getElem_cons hl]
  have so:=HE (x:=x) (c:=c) ha
  rw[List.getElem?_eq_getElem hl]at so
  by_cases hc:x.cps.toList[a]=c
  ·have hp:dg x ⟨#[c]⟩ x.length a=true:=by
    unfold dg
    rw[so.mpr (congrArg some hc),decide_eq_true (by omega:a+1≤x.length)]
    rfl
   rw[hp,if_pos rfl,cG,if_pos hc,←ih]
   show(Builtin.Str.strSub x a a).cps.toList::_=_
   rw[Ye,Nat.sub_self]
   rfl
  ·have hp:dg x ⟨#[c]⟩ x.length a=false:=by
    unfold dg
    rw[Bool.and_eq_false_iff]
    refine .inr ?_
    cases hs:Builtin.Str.subAt x ⟨#[c]⟩ a with
    |false=>rfl
    |true=>exact absurd (Option.some.inj (so.mp hs)) hc
   rw[hp,if_neg Bool.false_ne_true,cG,if_neg hc,←ih]
   obtain⟨p,q,e1,e2⟩:=Ux x ha ((List.range' (a+1) (k+1)).filter (dg x ⟨#[c]⟩ x.length)) fun i hi=>by
    obtain⟨h1,h2⟩:=List.mem_filter.mp hi
    have:=List.mem_range'_1.mp h1
    omega
   rw[e1,e2]
theorem KC (x:Str):1≤Builtin.Str.strKind x:=by
 unfold Builtin.Str.strKind
 split
 ·exact Nat.le_refl _
 ·split<;>omega
theorem Yy {z:Str}{c:Nat}(hc:c<256):(Txt.split z ⟨#[c]⟩).map (·.cps.toList)=cG c z.cps.toList:=by
 have hw:(⟨#[c]⟩:Str).length=1:=rfl
 have hk:Builtin.Str.strKind ⟨#[c]⟩=1:=by
  unfold Builtin.Str.strKind
  rw[if_pos (by simp[hc])]
 have pc:=JU z c z.length 0 (by omega)
 rw[List.drop_zero]at pc
 have oc:Builtin.Str.occurrences z ⟨#[c]⟩ 0 z.length (z.length+1)=(List.range' 0 (z.length+1)).filter (dg z ⟨#[c]⟩ z.length):=by
  rw[occ_eq,Nat.sub_zero,Jf hw z.length (z.length+1) (z.length+1) 0 (#[],0) (Nat.le_refl _) (by show 0+(z.length+1)≤_;omega)]
  rfl
 have whole:(⟨z.cps.extract 0 z.length⟩:Str)=z:=sub_whole z
 unfold Txt.split
 split
 ·rename_i h
  rw[Bool.or_eq_true,decide_eq_true_eq,decide_eq_true_eq,hw,hk]at h
  have:=KC z
  have hz:z.length=0:=by omega
  have he:z.cps.toList=[]:=List.eq_nil_of_length_eq_zero (by rw[Array.length_toList];exact hz)
  show [z.cps.toList]=_
  rw[he]
  rfl
 ·split
  ·rename_i h
   rw[oc]at h
   rw[List.isEmpty_iff.mp h]at pc
   refine Eq.trans ?_ pc
   show [z.cps.toList]=[(Builtin.Str.strSub z 0 z.length).cps.toList]
   rw[show Builtin.Str.strSub z 0 z.length=z from whole]
  ·rw[partsBetween_eq,oc,hw]
   exact pc
theorem HC {a b:Str}(h:a.cps.toList=b.cps.toList):a=b:=by
 obtain⟨a⟩:=a
 obtain⟨b⟩:=b
 exact congrArg _ (Array.toList_inj.mp h)
theorem Y6:∀{as bs:List Str},as.map (·.cps.toList)=bs.map (·.cps.toList)→as=bs
 | [],[],_=>rfl
 | [],_::_,h=>by cases h
 |_::_,[],h=>by cases h
 |a::as,b::bs,h=>by
  injection h with h1 h2
  rw[HC h1,Y6 h2]
theorem Uk {c:Nat}(hc:c<256):∀(ws:List Str) (h:Str),(∀w∈h::ws,c∉w.cps.toList)→Txt.split (Str.join ⟨#[c]⟩ (h::ws)) ⟨#[c]⟩=h::ws:=fun ws h hf=>by
 refine Y6 ?_
 rw[Yy hc]
 have key:∀(ws:List Str) (h:Str),(∀w∈h::ws,c∉w.cps.toList)→cG c (Str.join ⟨#[c]⟩ (h::ws)).cps.toList=(h::ws).map (·.cps.toList):=fun ws=>by
  induction ws with
  |nil=>
   intro h hf
   exact Y9 (hf h List.mem_cons_self)
  |cons w ws ih=>
   intro h hf
   have e:(Str.join ⟨#[c]⟩ (h::w::ws)).cps.toList=h.cps.toList++c::(Str.join ⟨#[c]⟩ (w::ws)).cps.toList:=by
    show(h++⟨#[c]⟩++Str.join ⟨#[c]⟩ (w::ws)).cps.toList=_
    show(h.cps++ #[c]++(Str.join ⟨#[c]⟩ (w::ws)).cps).toList=_
    simp
   rw[e,JE (hf h List.mem_cons_self),ih w fun u hu=>hf u (List.mem_cons_of_mem _ hu)]
   rfl
 exact key ws h hf
end L2
namespace L2
open PySem PySem.Spec PyProof.Rows
section
variable {X:Cx}
def BO:R2:=fun x y H Q=> ∃a b:Str,x=.str a∧y=.str b∧a.length+b.length≤sizeLine∧Q (.str (a++b)) H
theorem Zs:aZ X (binaryOp .Add) BO:=by
 intro pins s σ H x y v u Q I rx ry h
 obtain⟨a,b,rfl,rfl,hz,q⟩:=h
 obtain⟨t,rfl⟩:=rx
 obtain⟨t',rfl⟩:=ry
 exact SB.add (fun t' k=> ⟨.str _,H,I.tok _,⟨_,rfl⟩,q⟩) hz
theorem Kf {f:Expr}{as:List Expr}{ks:List Keyword}{p:Pos}{es:List Expr}{env:Env} :starEach (.Call f as ks p::es) env=(false,eval (.Call f as ks p) env)::starEach es env:=rfl
theorem KA {a b:Expr}{op:Operator}{p:Pos}{es:List Expr}{env:Env} :starEach (.BinOp a op b p::es) env=(false,eval (.BinOp a op b p) env)::starEach es env:=rfl
theorem Il {f:Expr}{as:List Expr}{ks:List Keyword}{p:Pos}{es:List Expr}{te:TE}{t:TA}(h:PE X (.Call f as ks p) te) (hr:PA X es t):PA X (.Call f as ks p::es) (cg te t):=Za h hr Kf
theorem GD {a b:Expr}{op:Operator}{p:Pos}{es:List Expr}{te:TE}{t:TA}(h:PE X (.BinOp a op b p) te) (hr:PA X es t):PA X (.BinOp a op b p::es) (cg te t):=Za h hr KA
end
abbrev qh (w:World) (e:DictEntry) (kv:Key×V):Prop:=iw kv.1 e.key=true∧e.hash=sT w kv.1∧RelV kv.2 e.val
inductive fE (K:PySem.W.Frag) (w:World) (a:Addr) (ag:List (Key×V)):Prop
 |mk (o:Obj) (es:Array DictEntry) (ep:Nat) (hk:K.lookup a=some o) (hx:o.ExactDict) (hd:o.data=.dict es ep) (hs:(a==sysModules)=false) (hp:Paired (qh w) es.toList ag) (nd:(ag.map (·.1)).Nodup)
theorem WV {P:Program}{w:World} :∀{es:List DictEntry}{ag:List (Key×V)},Paired (qh w) es ag→∃vs,KV ag vs∧Pairs (du P w) es vs∧vs.map (·.1)=ag.map (·.1)
 |_,_,.nil=> ⟨[],.nil,.nil,rfl⟩
 |e::_,kv::_,.cons h r=>by
  obtain⟨vs,h1,h2,h3⟩:=WV (P:=P) r
  exact⟨(kv.1,e.val)::vs,.cons ⟨rfl,h.2.2⟩ h1,.cons h.1 rfl h2,by rw[List.map_cons,List.map_cons,h3]⟩
theorem zj {w:World} :∀{es:List DictEntry}{ag:List (Key×V)},Paired (qh w) es ag→∀e∈es,∃k,iw k e.key=true∧e.hash=sT w k
 |_,_,.cons h r,e,m=>by
  rcases List.mem_cons.mp m with rfl |m
  ·exact⟨_,h.1,h.2.1⟩
  ·exact zj r e m
theorem fE.at {K:PySem.W.Frag}{w:World}{a:Addr}{ag:List (Key×V)}(d:fE K w a ag) {h:Heap}(hi:K.In h) (P:Program):(a==sysModules)=false∧(∃ob,h.get? a=some ob∧ob.dict=none)∧∃vs,KV ag vs∧h.DictOf (du P w) a vs:=by
 obtain⟨o,es,ep,hk,hx,hd,hs,hp,nd⟩:=d
 obtain⟨vs,h1,h2,h3⟩:=WV (P:=P) hp
 refine⟨hs,⟨o,hi _ _ hk,hx.2.1⟩,vs,h1,o,es,ep,hi _ _ hk,hx,hd,fun e he=> ?_,h2,by rw[h3];exact nd⟩
 exact zj hp e (by simpa using he)
section
variable {X:Cx}{o e i:Expr}{apos aY pos:Pos}{td ty:TE}
inductive BU (K:PySem.W.Frag) (w:World) (x y:V) (H:Hp) (Q:VK):Prop
 |mk (a:Addr) (ag:List (Key×V)) (k:Key) (ex:x=kV k) (ey:y=.ref a) (d:fE K w a ag) (q:Q (.bl (bh ag k).isSome) H)
theorem GA:aZ X (compareOp .In) (BU X.K X.w):=by
 intro pins s σ H x y v u Q I rx ry h
 obtain⟨a,ag,k,rfl,rfl,d,q⟩:=h
 cases ry
 obtain⟨hs,_,vs,rel,dd⟩:=d.at I.aW X.prog
 refine wpAny_in_of (JZ rx) hs dd.mapOf ?_
 exact⟨.bl (bh ag k).isSome,H,I.tok _,by rw[(rel.val k).CM];rfl,q⟩
inductive GK (K:PySem.W.Frag) (w:World) (y:V) (Q:VK) (x:V) (H:Hp):Prop
 |mk (a:Addr) (ag:List (Key×V)) (k:Key) (v:V) (ex:x=.ref a) (ey:y=kV k) (d:fE K w a ag) (l:bh ag k=some v) (q:Q v H)
def AW (K:PySem.W.Frag) (w:World) (td ty:TE):TE:=fun σ H Q=>td σ H fun x H1=>ty σ H1 fun y H2=>GK K w y Q x H2
theorem WJ (ho:PE X o td) (hi:PE X i ty) (hs:zK i):PE X (.Subscript o i pos) (AW X.K X.w td ty):=by
 intro pins s σ H Q I h
 refine HD PySem.F.slot_dict_getitem.lookup hs (ao (ho pins s σ H _ I h) fun u s1 ⟨x,H1,I1,rx,q1⟩=>ao (hi pins s1 σ H1 _ I1 q1) fun iv s2 ⟨y,H2,I2,ry,a,ag,k,v,ex,ey,d,l,q2⟩=> ?_)
 subst ex ey
 obtain rfl:u=Value.ref a:=rx
 obtain⟨_,_,vs,rel,dd⟩:=d.at I2.aW X.prog
 obtain⟨w',hw,eO⟩:=dm.some_of (v:=v) (o:=valueAt vs k) (by rw[←l];exact rel.val k)
 exact⟨dd.typeIs,wpAny_getItem_of (JZ ry) dd.mapOf hw ⟨v,H2,I2.tok _,eO,q2⟩⟩
inductive K4 (K:PySem.W.Frag) (w:World) (ty:TE) (σ:St) (Q:VK) (x:V) (H:Hp):Prop
 |mk (a:Addr) (ag:List (Key×V)) (ex:x=.ref a) (d:fE K w a ag) (q:ty σ H fun y H2=> ∃k,y=kV k∧Q ((bh ag k).getD .ae) H2)
def AV (K:PySem.W.Frag) (w:World) (td ty:TE):TE:=fun σ H Q=>td σ H (K4 K w ty σ Q)
theorem Ka (ho:PE X o td) (he:PE X e ty) (m:M1 X o "get" apos e aY):PE X (.Call (.Attribute o "get" apos) [e] [] aY) (AV X.K X.w td ty):=by
 intro pins s σ H Q I h
 refine wpAny_Call_method m.base m.br m.line PySem.F.plainAttrs_dict PySem.F.slot_dict_get PySem.F.type_dict_get (ao (ho pins s σ H _ I h) fun u s1 ⟨x,H1,I1,rx,a,ag,ex,d,q1⟩=> ?_)
 subst ex
 obtain rfl:u=Value.ref a:=rx
 obtain⟨_,t2,vs,_,dd⟩:=d.at I1.aW X.prog
 refine⟨dd.typeIs,fun b q=>by cases q;exact t2,?_⟩
 rw[m.trees]
 refine Calls.callWith_builtin rfl (Calls.evalArgs_plain (Calls.spliced_cons (ao (he pins s1 σ H1 _ I1 q1) fun iv s2 ⟨y,H2,I2,ry,k,ey,q2⟩=>Calls.spliced_nil ?_)))
 subst ey
 obtain⟨hs,_,vs,rel,dd⟩:=d.at I2.aW X.prog
 refine call_meetsIn PySem.F.slot_dict_get dd.typeIs PySem.F.entry_dict_get (PySem.F.args_dict_get_2 _ _) (meets_dict_get (du X.prog X.w) a (JZ ry) hs) ⟨_,dd.mapOf,?_⟩
 exact⟨_,H2,I2.tok _,(rel.val k).getD (d:=.ae) rfl,q2⟩
end
section
variable {prog:Program}{w:World}{A:Around}{E:Value→Shared→Prop}
theorem J7 {it l:Addr}{items:Array Value}(cm:l≠it):∀(n i:Nat) (s:Shared) (Q:List Value→Shared→Prop),s.heap.IsListIter it l i→s.heap.IsList l items→i+n≤items.size→
  (∀h':Heap,h'.IsListIter it l (i+n)→Heap.SameBut it s.heap h'→Q ((items.toList.drop i).take n) {s with heap:=h'})→wpAny (model prog w) A (draw (.ref it) n) Q E s
 |0,i,s,Q,hit,_,_,hQ=>by
  show wpAny _ _ (pure []) Q E s
  exact wpAny_pure (by simpa using hQ s.heap hit (Heap.SameBut.refl ..))
 |n+1,i,s,Q,hit,ht,hle,hQ=>by
  have aJ:i<items.size:=by omega
  show wpAny _ _ (pyNext (.ref it) >>=_) Q E s
  refine wpAny_bind (wpAny_pyNext_list_item hit ht (x:=items[i]) (by simp[aJ]) fun aO kd dO=> ?_)
  refine wpAny_bind (wpAny_holding (J7 cm n (i+1) _ _ kd (ht.extBut dO.extBut cm) (by omega) fun eY DJ Dc=>wpAny_pure ?_))
  have hd:items.toList.drop i=items[i]::items.toList.drop (i+1):=by simp[List.drop_eq_getElem_cons,aJ]
  have:=hQ eY (by rw[show i+(n+1)=i+1+n by omega];exact DJ) (dO.trans Dc)
  rw[hd,List.take_succ_cons]at this
  exact this
theorem YU {s:Shared}{l:Addr}{items:Array Value}{Q:List Value→Shared→Prop}(hh:bb s.heap A.handled) (ht:s.heap.IsList l items)
  (hQ:∀h',Heap.ExtBut s.heap.objs.size s.heap h'→Q items.toList {s with heap:=h'}):wpAny (model prog w) A (unpackItems (.ref l) items.size none) Q E s:=by
 have aJ:l≠s.heap.objs.size:=by obtain⟨o,ho,_⟩:=ht;exact Nat.ne_of_lt (Heap.lt_size ho)
 unfold unpackItems
 refine wpAny_bind ?_
 ·unfold notIterableAtAll
  refine wpAny_bind (wpAny_specialOf ht.typeIs slot_list_iter.lookup ?_)
  refine wpAny_pure ?_
  simp only[Bool.false_eq_true,if_false]
  refine wpAny_bind (wpAny_holding (wpAny_pyIter_list ht ?_))
  refine wpAny_bind (wpAny_holding (J7 aJ items.size 0 _ _ ⟨_,Heap.get?_push_size _ rfl,rfl,rfl⟩ (ht.push _) (by omega) fun aO kd dO=> ?_))
  have jo:List.take items.size (List.drop 0 items.toList)=items.toList:=by
   rw[List.drop_zero];exact List.take_of_length_le (by simp)
  rw[jo]
  rw[if_neg (by simp)]
  have C6:aO.IsList l items:=(ht.push _).extBut dO.extBut aJ
  rw[Nat.zero_add]at kd
  refine wpAny_bind (wpAny_holding (YO (hh.keeps fun b o q=>dO.extBut b o (Nat.ne_of_lt (Heap.lt_size q)) (Heap.get?_push_of_some _ q)) kd C6 (by simp) fun eY kg=> ?_))
  simp only[Option.isSome_none,Bool.false_eq_true,if_false]
  refine wpAny_pure (hQ eY fun b o hb e=>kg b o hb (dO.extBut b o hb (Heap.get?_push_of_some _ e)))
end
section
variable {X:Cx}{pos:Pos}
inductive EM (K:PySem.W.Frag) (n:Nat) (t:hU) (v:V) (σ:St) (H:Hp) (Q:St→Hp→Prop):Prop
 |mk (a:Addr) (xs:List V) (ev:v=.ref a) (h:ak K H a xs) (en:xs.length=n) (q:t xs σ H Q)
theorem UQ {es:List Expr}{k:Nat}{t:hU}{n:Nat}(hc:X.calm=true) (h:mS X es t)
  (hn:(assignEach es X.env).length=n:=by rfl) (dA:(assignEach es X.env).findIdx? (·.1)=none:=by rfl):PG X (.Tuple es k pos) (EM X.K n t):=by
 intro pins s σ H v u Q I r hw
 obtain⟨a,xs,e1,hq,hl,hw⟩:=hw
 subst e1
 cases r
 obtain⟨aa,rv,pl,hz⟩:=I.list hq
 rw[assign_Tuple]
 refine wpAny_bind (wpAny_standAt ?_)
 unfold unpack
 have hlen:(assignEach es X.env).length=aa.toArray.size:=by rw[hn,←hl,rv.length];simp
 rw[hlen,dA]
 refine wpAny_bind (wpAny_holding (YU (I.cw hc) pl.isList fun h' hx=> ?_))
 have I1:Inv X pins σ H {s with heap:=h'} :=I.kept (t':=s.toks) fun b o e=>hx b o (Nat.ne_of_lt (Heap.lt_size e)) e
 exact h pins _ σ H xs _ Q I1 (by simpa using rv) hw
end
theorem ar.any {P:Program}{w:World}{K:PySem.W.Frag}{mg:Str→Option Value}{base:Heap}{CX:dH}{k:Nat}{f:Addr}{fd:FuncData}{ps:List Str}{sp:Sp}(F:ar P w K mg base aC k f fd ps sp):ar P w K mg base CX k f fd ps sp:=
 ⟨F.len,fun A outer s H args us vs Q E hr he hb hv hs=>codeAny_mono (F.run A outer s H args us vs Q E hr he hb hv hs) fun r s' h=>by
  cases r with
  |error e=>exact False.elim h
  |ok fl=>cases fl<;>exact h⟩
section
variable {X:Cx}{CX:dH}{E:XK}{x:Str}{p pos:Pos}{e:Expr}{es:List Expr}{t:TA}
def zG (X:Cx) (CX:dH) (f:Addr) (sp:Sp):Prop:=∃(k:Nat) (fd:FuncData) (ps:List Str),ar X.prog X.w X.K X.mg X.base CX k f fd ps sp∧aK k X.A∧PySem.W.keepIn X.K (.ref f)=true∧Binds X.K fd ps []
inductive A0 (X:Cx) (CX:dH) (i:Nat) (E:XK) (t:TA) (σ:St) (H:Hp) (Q:VK):Prop
 |mk (f:Addr) (sp:Sp) (e:σ[i]? =some (some (.ref f))) (F:zG X CX f sp) (q:gp sp [] E t σ H Q)
theorem WK {i:Nat}(hv:PE X (.Name x p) (fm i)) (hx:Passes CX X E) (ha:PA X (e::es) t) (he:starEach (e::es) X.env=(false,eval e X.env)::starEach es X.env:=by rfl) (bz:(backTo pos (starEach es X.env)).any (·.1)=false:=by rfl) (hc:X.calm=true:=by rfl):
  PE X (.Call (.Name x p) (e::es) [] pos) (A0 X CX i E t):=by
 intro pins s σ H Q I h
 obtain⟨f,sp,dz,⟨k,fd,ps,F,hr,hk,hb⟩,h⟩:=h
 exact Uv F hr hv hk hb .nil hx ha he bz hc pins s σ H Q I ⟨dz,h⟩
end
abbrev Cx.f9 (X:Cx) (e:Addr) (o:Obj):Cx:= {X with A:=X.A.mark (some (.ref e)),calm:=false,xe:=fun _ _=>False,pn:=(e,o)::X.pn}
def mT (o:Obj):Prop:=∃C vs,o.cls=.ref C∧o.data=.fields vs∧vs[2]? =some .none
def vF (X:Cx):Prop:=∀pins σ H s,Inv X pins σ H s→bb s.heap X.A.handled∧∀a∈gh X.A.handled,H a=none∧a∉aA X.stack
theorem HQ {X:Cx}(hc:X.calm=true):vF X:=fun _ _ _ _ I=> ⟨I.cw hc,I.Ea hc⟩
theorem HS {X:Cx}{e:Addr}{o:Obj}(ok:mT o):vF (X.f9 e o):=fun pins σ H s I=>by
 obtain⟨C,vs,h1,h2,h3⟩:=ok
 obtain⟨p1,p2,p3,p4,_⟩:=I.pin (e,o) (.head _)
 refine⟨⟨e,o,vs,C,rfl,p1,h1,h2,h3⟩,fun a m=> ?_⟩
 cases m with
 |head=>
  refine⟨p2,fun z=> ?_⟩
  rcases List.mem_cons.mp (I.kN e z) with q |q
  ·exact p3 q
  ·exact p4 q
 |tail _ m=>cases m
theorem aK.mark {k:Nat}{A:Around}(r:aK k A) (h:k<100) (e:Value):aK k (A.mark (some e)):=⟨fun z=>absurd (Nat.lt_of_lt_of_le h z) (Nat.lt_irrefl _),r.dp,r.un,r.gd⟩
section
variable {X:Cx}{pins:List (Addr×Obj)}{σ:St}{H H':Hp}{s s':Shared}
theorem Inv.f9 {e:Addr}{o:Obj}(I:Inv X pins σ H s) (p:s.heap.get? e=some o∧H e=none∧e≠X.env.locals∧e∉X.fs∧∀v,o.data≠.cell v):Inv (X.f9 e o) pins σ H s:=
 ⟨⟨I.ok.mod,I.ok.kind,I.ok.glob,I.ok.blt,I.ok.above,I.ok.inj,I.ok.has,I.ok.gG,fun h=>Bool.noConfusion h,I.ok.frames,I.ok.ig,I.ok.gF,I.ok.bs,I.ok.fj,I.ok.gR,I.ok.gi,I.ok.bY,I.ok.dU⟩,I.os,I.bare,I.base,I.loc,I.cell,I.free,I.dC,fun q hq=>by
  rcases List.mem_cons.mp hq with rfl |hq
  ·exact p
  ·exact I.pin q hq,I.ah,I.len⟩
theorem Inv.nE {e:Addr}{o:Obj}(I:Inv (X.f9 e o) pins σ H s) (hd:X.calm=true→bb X.base X.A.handled):Inv X pins σ H s:=
 ⟨⟨I.ok.mod,I.ok.kind,I.ok.glob,I.ok.blt,I.ok.above,I.ok.inj,I.ok.has,I.ok.gG,hd,I.ok.frames,I.ok.ig,I.ok.gF,I.ok.bs,I.ok.fj,I.ok.gR,I.ok.gi,I.ok.bY,I.ok.dU⟩,I.os,I.bare,I.base,I.loc,I.cell,I.free,I.dC,fun q hq=>I.pin q (List.mem_cons_of_mem _ hq),I.ah,I.len⟩
theorem Inv.yZ {e C:Addr}{B h':Heap}{o:Obj}(I:Inv X pins σ H s) (un:Un (aA X.stack) [] H H' s.heap s'.heap) (os:s'.os=s.os) (bare:AllBare s'.gens) (ah:bc X.prog X.w H' s'.heap)
  (ba:∀b o,s.heap.get? b=some o→b∉aA X.stack→∃u,B.get? b=some u) (cz:∀b o,H' b=some o→∃u,B.get? b=some u) (be:B.get? e=none) (k1:B.StaysIn s'.heap) (k2:B.StaysIn h') (up:s'.heap.UpToSlots h')
  (he:h'.get? e=some o) (hd:∃vs,o.data=.fields vs):Inv X pins σ H' {s' with heap:=h'}∧h'.get? e=some o∧H' e=none∧e≠X.env.locals∧e∉X.fs∧∀v,o.data≠.cell v:=by
 have n0:H' e=none:=by
  cases q:H' e with
  |none=>rfl
  |some u=>
   obtain⟨u',hu⟩:=cz e u q
   rw[be]at hu
   cases hu
 have gu:∀b o,s.heap.get? b=some o→b∈aA X.stack→∃sl,h'.get? b=some {o with slots:=sl} :=fun b o hb hm=>by
  obtain⟨_,o',bA,nf⟩:=I.stack.mem hm
  rw[hb]at bA
  cases bA
  obtain⟨cF,e1⟩:=un.slot b o hb (I.jO b hm) hm (by simp)
  obtain⟨cQ,e2⟩:=up b _ e1 nf
  exact⟨cQ,e2⟩
 have oG:∀b u,s.heap.get? b=some u→e≠b:=fun b u hb z=>by
  rw[←z]at hb
  by_cases hm:e∈aA X.stack
  ·obtain⟨_,o',bA,nf⟩:=I.stack.mem hm
   rw[hb]at bA
   cases bA
   obtain⟨sl,q⟩:=gu e u hb hm
   rw[he]at q
   cases q
   obtain⟨vs,hv⟩:=hd
   exact nf vs hv
  ·obtain⟨u',hu⟩:=ba e u hb hm
   rw[be]at hu
   cases hu
 have lH:∀b o u,s'.heap.get? b=some o→B.get? b=some u→h'.get? b=some o:=fun b o u hb hu=>by
  have e1:=k1 b u hu
  rw[hb]at e1
  cases e1
  exact k2 b _ hu
 refine⟨I.pV (s':= {s' with heap:=h'}) (ch:=[]) os ⟨fun b u hb hn hf _=> ?_,fun b u hb hn hm _=>gu b u hb hm,fun b u hb hn h=>un.free b u hb hn h,fun b u hb _=> ?_,un.dJ,un.dB,un.dq⟩ (Yk ah cz k1 k2) bare (fun b hb=>absurd hb (by simp)),he,n0,?_,?_,fun v z=> ?_⟩
 ·have e1:=un.keep b u hb hn hf (by simp)
  obtain⟨u',hu⟩:=ba b u hb hf
  exact lH b u u' e1 hu
 ·by_cases hm:b∈aA X.stack
  ·obtain⟨sl,q⟩:=gu b u hb hm
   exact⟨_,q⟩
  ·obtain⟨u',hu⟩:=ba b u hb hm
   exact⟨u',k2 b u' hu⟩
 ·obtain⟨m,⟨o1,_,_,tK,_⟩,_⟩:=I.loc
  exact oG _ _ tK
 ·intro hm
  obtain⟨_,o1,tK,_⟩:=I.ok.bY.mem hm
  obtain⟨o2,gY⟩:=I.base.there e o1 tK (fun z=>I.ok.gi _ z hm)
  exact oG _ _ gY rfl
 ·obtain⟨vs,hv⟩:=hd
  rw[hv]at z
  cases z
end
def As (X:Cx) (ix iy:Nat) (C:Addr) (m:Str) (cS:Addr) (sp:Sp) (ts:TS):TS:=fun D σ H=> ∃a dx fs y,σ[ix]? =some (some (.ref a))∧σ[iy]? =some (some y)∧H a=some (.ins C dx fs)∧fs.lookup m=none∧
 sp [.ref a,y] H D.rt fun ev c H'=> ∃e C',ev=.ref e∧c=some C'∧PySem.W.exmOne X.K (.ref C') (.ref cS)=some true∧ts D σ H'
theorem Iq {X:Cx}{ix iy k:Nat}{x y m S:Str}{C cS f:Addr}{fd:FuncData}{sp:Sp}{ps:List Str}{b0:Stmt}{kL:List Stmt}{ts:TS}{p1 p2 p3 p4 p5 p6 p7 p8:Pos}{pl:Sem Bool}(tZ:X.calm=true) (Ds:X.A.handled=none) (dA:X.stack=X.env::X.outer) (bT:X.env.frame=some X.env.locals)
    (ma:X.N[ix]? =some x) (C1:jy X.env.scope x) (DI:X.N[iy]? =some y) (C0:jy X.env.scope y) (c:fk X.K C) (hm:Meth X.K C m f) (F:ar X.prog X.w X.K X.mg X.base (aG X.prog X.w) k f fd ps sp) (hr:aK k X.A) (hb:Binds X.K fd ps [])
    (hS:X.mg S=some (.ref cS)) (tR:Gl X S) (tw:∀e o,mT o→cK (X.f9 e o) (b0::kL) ts)
    (D7:(x==("__debug__" :Str))=false:=by decide) (DZ:(x==("__classdict__" :Str))=false:=by decide) (DY:(y==("__debug__" :Str))=false:=by decide) (DX:(y==("__classdict__" :Str))=false:=by decide) (tX:(S==("__debug__" :Str))=false:=by decide)
    (Df:starEach [.Name y p3] X.env=(false,eval (.Name y p3) X.env)::starEach [] X.env:=by rfl)
    (ht:eval (.Call (.Attribute (.Name x p1) m p2) [.Name y p3] [] p4) X.env=(do
      let ov ←eval (.Name x p1) X.env
      standAt p2.atName
      let (f,first) ←holding [ov] (getMethod ov m pl)
      callWith p4 f first (backTo p4 (starEach [.Name y p3] X.env)) (backToKw p4 (keywordEach [] X.env))):=by rfl):
    PS X (.Try [.Return (some (.Call (.Attribute (.Name x p1) m p2) [.Name y p3] [] p4)) p5] [.ExceptHandler (some (.Name S p6)) none (b0::kL) p7] [] [] p8) (As X ix iy C m cS sp ts):=by
  intro pins s σ H D I h
  obtain⟨a,dx,fs,yv,CT,CS,ha,hl,bX⟩:=h
  refine wpAny_Try_except ?_
  refine wpAny_execs_cons (wpAny_Return_some ?_)
  refine PySem.W.methodCall_KW (pl:=pl) ?_ ht
  have nm:=YW (X:=X.dn (fun _ _=>False)) (i:=ix) (x:=x) (pos:=p1) ma C1 D7 DZ pins s σ H (fun v H2=>v=.ref a∧H2=H) (I.dn _) ⟨_,CT,rfl,rfl⟩
  refine wpAny_mono nm (fun u s1 h1=> ?_) (fun _ _ z=>z.elim)
  obtain⟨v,H1,I1,r1,rfl,rfl⟩:=h1
  have I1:=I1.fJ
  obtain rfl:u=Value.ref a:=r1
  refine YD I1 ha c hm hl ?_
  have pa:PA (X.dn (fun _ _=>False)) [.Name y p3] _:=Za (YW (i:=iy) (x:=y) (pos:=p3) DI C0 DY DX) Zb
  have qa:=pa p4 pins s1 σ H1 (fun vs H2=>vs=[yv]∧H2=H1) (I1.dn _) ⟨yv,CS,rfl,rfl⟩
  refine PySem.W.callWith_K (first:=[.ref a]) (h₀:=X.base) I.ok.mod.gU hm.kp (wpAny_mono qa (fun us s2 h2=> ?_) fun _ _ z=>z.elim) Df rfl
  obtain⟨vs,H2,I2,r2,rfl,rfl⟩:=h2
  have I2:=I2.fJ
  refine⟨I2.aW,?_⟩
  have r3:Vals [.ref a,yv] (.ref a::us):=.cons rfl r2
  have jj:(Value.ref a::us).length=ps.length:=by rw[←r3.length];exact F.len _ _ _ _ bX
  refine wpAny_call (codeAny_mono (F.run X.A X.stack s2 H2 ⟨.ref a::us,[]⟩ (.ref a::us) [.ref a,yv] _ _ hr (I2.pO tZ) (by have:=hb s2 (.ref a::us) I2.aW (by rw[List.append_nil];exact jj);rw[List.append_nil]at this;exact this) r3 bX) fun r s3 hq=> ?_)
  cases r with
  |ok fl=>
   cases fl with
   |ret u=>
    obtain⟨v,H',J,rv,z⟩:=I2.after hq
    exact⟨v,σ,H',J,rv,z⟩
   |next=>exact hq.elim
   |brk=>exact hq.elim
   |cont=>exact hq.elim
  |error ev=>
   obtain⟨e,C',H3,rfl,FL,e',Mj,q1,q2,hx,hk⟩:=hq
   cases q1
   cases q2
   obtain⟨B,a0,c0,fl,mf,ba,cz⟩:=FL.pI
   have:=mf Ds
   subst this
   rw[dA]at fl
   show wpAny (model X.prog X.w) X.A (noteFrame (.ref e) X.env) _ X.xe s3
   have mq:X.A.frames=some (X.env::X.outer):=by rw[←dA];exact I.ok.frames
   refine xp (L:=X.env.locals) mq bT fl fun h4 ⟨⟨m1,m2,m3,m4⟩,mc⟩ kH=> ?_
   refine oI m1 m2 m3 m4 mc fun h5 mx kG=> ?_
   obtain⟨⟨n1,n2,n3,n4⟩,nc⟩:=mx
   obtain⟨o5,Ae,_,_,_,ml,pH,um,_⟩:=id n4
   have c5:=I2.yZ (h':=h5) (C:=C') FL.un FL.os FL.bare FL.ah ba cz fl.1.2.1 fl.1.1 n1 (kH.trans kG) ml ⟨_,um⟩
   have I5:=c5.1.f9 c5.2
   refine wpAny_handleBy_cons (codeAny_handlers_test ?_) (by intro q;cases q)
   refine Yo (X:=X.f9 e o5) I5 tR hS ?_ tX
   have LX:=PySem.W.exm_one (M:=model X.prog X.w) (c:=.ref cS) (e:=e) I5.aW (YE ml pH.1) hx
   refine LX.at ?_
   refine codeAny_handlers_suite ?_
   refine oI (s:= {s3 with heap:=h5}) n1 n2 n3 n4.at nc fun h6 pJ qp=> ?_
   obtain⟨⟨k1,k2,k3,k4⟩,kc⟩:=pJ
   obtain⟨o6,Ad,_,_,_,pG,uk,uj,_⟩:=id k4
   have c6:=I2.yZ (h':=h6) (C:=C') FL.un FL.os FL.bare FL.ah ba cz fl.1.2.1 fl.1.1 k1 ((kH.trans kG).trans qp) pG ⟨_,uj⟩
   have I6:=c6.1.f9 c6.2
   have lu:mT o6:=by
     obtain⟨o7,Ac,z1,z2,z3⟩:=kc
     rw[pG]at z1
     cases z1
     exact⟨C',Ac,uk.1,z2,z3⟩
   refine wpAny_mono (tw e o6 lu pins _ _ _ _ I6 hk) (fun uq s8 h8=> ?_) fun _ _ z=>z.elim
   have dh:=fun z=>I.ok.hd z
   cases uq with
   |ret u=>obtain⟨v8,dX,H8,I8,q8⟩:=h8;exact⟨v8,dX,H8,I8.nE dh,q8⟩
   |brk=>obtain⟨dX,H8,I8,q8⟩:=h8;exact⟨dX,H8,I8.nE dh,q8⟩
   |cont=>obtain⟨dX,H8,I8,q8⟩:=h8;exact⟨dX,H8,I8.nE dh,q8⟩
   |next=>obtain⟨dX,H8,I8,q8⟩:=h8;exact⟨dX,H8,I8.nE dh,q8⟩
end L2
namespace L2
open PySem PySem.Spec PyProof.Rows SeqAt
section
variable {X:Cx}
def qg (K:PySem.W.Frag) (H:Hp) (x y:V):Prop:=(∃z:Str,x=.str z∧y=.str z)∨z7 K H x y
theorem G6 {pins:List (Addr×Obj)}{σ:St}{H:Hp}{s:Shared}{x y:V}{u v:Value}(A:Around) (hu:A.units<cLine) (I:Inv X pins σ H s) (h:qg X.K H x y) (ru:RelV x u) (rv:RelV y v):EqAt A s u v true:=by
 rcases h with ⟨z,rfl,rfl⟩ |h
 ·obtain⟨t1,rfl⟩:=ru
  obtain⟨t2,rfl⟩:=rv
  have q:=EqAt.str_str (A:=A) (s:=s) z t1 z t2
  simpa using q
 ·exact G5 A hu I h ru rv
def sI (K:PySem.W.Frag) (r:Bool):R2:=fun x y H Q=> ∃(a b:Addr) (xs ys:List V),x=.ref a∧y=.ref b∧ak K H a xs∧ak K H b ys∧Paired (qg K H) xs ys∧Q (.bl r) H
theorem U9 {pins:List (Addr×Obj)}{σ:St}{H:Hp}{s:Shared}{xs ys:List V}{us vs:List Value}(A:Around) (hu:A.units<cLine) (I:Inv X pins σ H s) (pr:Paired (qg X.K H) xs ys) (r1:Vals xs us) (r2:Vals ys vs):∀j (h1:j<us.toArray.size) (h2:j<vs.toArray.size),EqAt A s us.toArray[j] vs.toArray[j] true:=fun j h1 h2=>by
 have l1:=r1.length
 have hj:j<xs.length:=by simp at h1;omega
 obtain⟨y,hy,e⟩:=zo pr (List.getElem?_eq_getElem hj)
 obtain⟨u,C5,ru⟩:=r1.get (List.getElem?_eq_getElem hj)
 obtain⟨v,lQ,rv⟩:=r2.get hy
 have e1:us.toArray[j]=u:=by simpa using (List.getElem?_eq_some_iff.mp C5).2
 have e2:vs.toArray[j]=v:=by simpa using (List.getElem?_eq_some_iff.mp lQ).2
 rw[e1,e2]
 exact G6 A hu I e ru rv
theorem Gy (hu:X.A.units+1<cLine):aZ X (compareOp .Eq) (sI X.K true):=by
 intro pins s σ H x y u v Q I rx ry h
 obtain⟨a,b,xs,ys,rfl,rfl,ha,hb,pr,q⟩:=h
 cases rx
 cases ry
 obtain⟨us,r1,p1,_⟩:=I.list ha
 obtain⟨vs,r2,p2,_⟩:=I.list hb
 have hsz:us.toArray.size=vs.toArray.size:=by have:=r1.length;have:=r2.length;have:=Paired.length pr;simp at *;omega
 refine eq_listAt (e:=fun _=>true) p1.isList p2.isList hsz (Nat.lt_of_succ_lt hu) (U9 X.A.in1 hu I pr r1 r2) ?_
 have e:(List.range us.toArray.size).all (fun _=>true)=true:=by simp
 rw[e]
 exact⟨.bl true,H,I,rfl,q⟩
theorem Ys (hu:X.A.units+1<cLine):aZ X (compareOp .NotEq) (sI X.K false):=by
 intro pins s σ H x y u v Q I rx ry h
 obtain⟨a,b,xs,ys,rfl,rfl,ha,hb,pr,q⟩:=h
 cases rx
 cases ry
 obtain⟨us,r1,p1,_⟩:=I.list ha
 obtain⟨vs,r2,p2,_⟩:=I.list hb
 have hsz:us.toArray.size=vs.toArray.size:=by have:=r1.length;have:=r2.length;have:=Paired.length pr;simp at *;omega
 refine RcNeAt.lists (e:=fun _=>true) p1.isList p2.isList hsz (Nat.lt_of_succ_lt hu) (U9 X.A.in1 hu I pr r1 r2) _ _ _ _ ?_
 have e:(List.range us.toArray.size).all (fun _=>true)=true:=by simp
 rw[e]
 exact⟨.bl false,H,I,rfl,q⟩
end
end L2
namespace U
open PySem L2 PyProof.Rows
def top (i:Nat):Stmt:=PySem.Challenge.pw_unlikesteps_k93_desks_refuse_lines.main.body.getD i (.Pass ⟨0,0,0,0⟩)
structure Gs (mg:Str→Option Value):Prop where
 isinstance:mg "isinstance" =none
 int:mg "int" =none
 bool:mg "bool" =none
 tuple:mg "tuple" =none
 list:mg "list" =none
 len:mg "len" =none
 all:mg "all" =none
 set:mg "set" =none
 range:mg "range" =none
 max:mg "max" =none
 min:mg "min" =none
 zip:mg "zip" =none
 str:mg "str" =none
 dict:mg "dict" =none
 longest:∃t,mg "LONGEST_SIDE" =some (.int 12 t)
 Cp:∃t,mg "MOST_WIDE" =some (.int 6 t)
 Cq:∃t,mg "MOST_HIGH" =some (.int 7 t)
section
variable {P:Program}{w:World}{K:PySem.W.Frag}{mg:Str→Option Value}{base:Heap}
abbrev rg:Stmt:=top 19
def nI (K:PySem.W.Frag):Sp:=fun vs H Q _=> ∃x,vs=[x]∧iO K H x∧Q (.bl (whole x)) H
theorem Bc:aF ["thing"] ["thing"] (aq rg):=⟨rfl,rfl,rfl,by decide+kernel,rfl,by decide+kernel,by decide+kernel⟩
theorem Km {f:Addr}{fd:FuncData}(F:az K "is_whole" "is_whole" rg f fd) (G:Gs mg):ar P w K mg base aC 1 f fd ["thing"] (nI K):=by
 refine F.ok Bc (fun vs H Q E h=> ?_) (fun ai A outer s H vs Q E hr h=> ?_)
 ·obtain⟨x,rfl,_⟩:=h
  rfl
 ·obtain⟨x,rfl,⟨T,t⟩,q⟩:=h
  refine⟨_,Zj (Zv (YX (Zn (Z9 (c:= "int")) rfl G.isinstance boot_isinstance (Za (pv 0) (Za (YL (v:=.ty "int") rfl G.int boot_int rfl) Zb)))
   (YA (GI (Zn (Z9 (c:= "bool")) rfl G.isinstance boot_isinstance (Za (pv 0) (Za (YL (v:=.ty "bool") rfl G.bool boot_bool rfl) Zb))))))),?_⟩
  refine⟨x,rfl,x,_,_,rfl,t,HY t,_,rfl,?_⟩
  rw[WX]at q
  cases e:sY x with
  |false=>rw[e]at q;exact ay q
  |true=>rw[e]at q;exact aH ⟨x,rfl,x,_,_,rfl,t,KD t,_,rfl,q⟩
abbrev rf:Stmt:=top 20
def jP (K:PySem.W.Frag):Sp:=fun vs H Q _=> ∃x a b,vs=[x,.int a,.int b]∧iO K H x∧Q (.bl (bK x a b)) H
theorem Bb:aF ["thing", "least", "most"] ["thing", "least", "most"] (aq rf):=⟨rfl,rfl,rfl,by decide+kernel,rfl,by decide+kernel,by decide+kernel⟩
theorem I9 {f:Addr}{fd:FuncData}(F:az K "is_whole_within" "is_whole_within" rf f fd) (D1:Def P w K mg base 1 "is_whole" ["thing"] (nI K)):ar P w K mg base aC 2 f fd ["thing", "least", "most"] (jP K):=by
 refine F.ok Bb (fun vs H Q E h=> ?_) (fun ai A outer s H vs Q E hr h=> ?_)
 ·obtain⟨x,a,b,rfl,_⟩:=h
  rfl
 ·obtain⟨x,a,b,rfl,t,q⟩:=h
  refine⟨_,Zj (Zv (YX (Zk D1 hr (Za (pv 0) Zb)) (YA (Ko zm zm (pv 1) (pv 0) (pv 2))))),?_⟩
  refine⟨x,rfl,x,rfl,t,_,rfl,?_⟩
  cases x with
  |int i=>
   refine aH ⟨_,rfl,_,rfl,_,_,rfl,rfl,_,rfl,?_⟩
   have e:bK (.int i) a b=(decide (a≤i)&&decide (i≤b)):=rfl
   rw[e]at q
   cases e1:decide (a≤i) with
   |false=>rw[e1]at q;exact ay q
   |true=>rw[e1]at q;exact aH ⟨_,rfl,_,_,rfl,rfl,q⟩
  |_=>exact ay q
abbrev rk:Stmt:=top 22
def nK (K:PySem.W.Frag):Sp:=fun vs H Q _=> ∃x n,vs=[x,.int n]∧iO K H x∧Q (.bl (match cn H x with |some xs=>decide ((xs.length:Int)=n) |none=>false)) H
theorem Bf:aF ["thing", "many"] ["thing", "many"] (aq rk):=⟨rfl,rfl,rfl,by decide+kernel,rfl,by decide+kernel,by decide+kernel⟩
theorem Kl {f:Addr}{fd:FuncData}(F:az K "is_tuple_of" "is_tuple_of" rk f fd) (G:Gs mg):ar P w K mg base aC 1 f fd ["thing", "many"] (nK K):=by
 refine F.ok Bf (fun vs H Q E h=> ?_) (fun ai A outer s H vs Q E hr h=> ?_)
 ·obtain⟨x,n,rfl,_⟩:=h
  rfl
 ·obtain⟨x,n,rfl,⟨T,t⟩,q⟩:=h
  refine⟨_,Zj (Zv (YX (Zn (Z9 (c:= "tuple")) rfl G.isinstance boot_isinstance (Za (pv 0) (Za (YL (v:=.ty "tuple") rfl G.tuple boot_tuple rfl) Zb)))
   (YA (Je WN (Zn ZD rfl G.len boot_len (Za (pv 0) Zb)) (pv 1) (bw _))))),?_⟩
  refine⟨x,rfl,x,_,_,rfl,t,IS t,_,rfl,?_⟩
  cases e:cn H x with
  |none=>rw[e]at q;exact ay q
  |some xs=>
   rw[e]at q
   obtain⟨a,rfl,ha⟩:=Zy e
   refine aH ⟨_,rfl,a,xs,rfl,.inr (au.of ha),_,rfl,rfl,?_⟩
   have z:decide (V.int (xs.length:Int)=V.int n)=decide ((xs.length:Int)=n):=by simp
   rw[z]
   exact q
abbrev sk:Stmt:=top 23
def jc:Option (List V)→Bool
 |some [a,b]=>bK a 1 12&&bK b 1 12
 |_=>false
def pZ (K:PySem.W.Frag) (H:Hp) (x:V):Prop:=iO K H x∧∀xs,cn H x=some xs→∀y∈xs,iO K H y
def nW (K:PySem.W.Frag):Sp:=fun vs H Q _=> ∃x,vs=[x]∧pZ K H x∧∀H',aj H H'→Q (.bl (jc (cn H x))) H'
theorem By:aF ["thing"] ["thing"] (aq sk):=⟨rfl,rfl,rfl,by decide+kernel,rfl,by decide+kernel,by decide+kernel⟩
theorem KO {f:Addr}{fd:FuncData}(F:az K "is_board" "is_board" sk f fd) (G:Gs mg) (D1:Def P w K mg base 1 "is_tuple_of" ["thing", "many"] (nK K)) (D2:Def P w K mg base 2 "is_whole_within" ["thing", "least", "most"] (jP K)):
  ar P w K mg base aC 3 f fd ["thing"] (nW K):=by
 obtain⟨tk,hL⟩:=G.longest
 refine F.ok By (fun vs H Q E h=> ?_) (fun ai A outer s H vs Q E hr h=> ?_)
 ·obtain⟨x,rfl,_⟩:=h
  rfl
 ·obtain⟨x,rfl,⟨t,hi⟩,q⟩:=h
  refine⟨_,Zj (Zv (YX (Zk D1 (hr.mono (by decide)) (Za (pv 0) (Za Zf Zb)))
   (YA (Zn Uc rfl G.all boot_all (Za (Ym ["side"] 1 [] (Jq (pv 0)) (fun C s H fp=>pb 0) (fun C s H fp=>ZV)
    (fun C s H fp D=>dr rfl (Zk D2 (hr.mono (by decide)) (Za (pv 0) (Za Zf (Za (ZF (v:=.int 12) rfl hL ⟨_,rfl⟩) Zb)))))) Zb))))),?_⟩
  refine⟨x,rfl,x,2,rfl,t,_,rfl,?_⟩
  cases e:cn H x with
  |none=>rw[e]at q;exact ay (q H (aj.refl H))
  |some xs=>
   rw[e]at q
   obtain⟨a,rfl,ha⟩:=Zy e
   show if decide ((xs.length:Int)=2)=true then _ else _
   by_cases h2:xs.length=2
   ·rw[decide_eq_true (show(xs.length:Int)=2 by omega)]
    refine aH ⟨_,rfl,a,rfl,⟨xs,au.of ha⟩,?_⟩
    refine YM (xs:=xs) (fun i ys σ H2=>ys=(xs.take i).map (fun y=>V.bl (bK y 1 12))∧H2=H∧∃v,σ=[v]) ⟨rfl,rfl,none,rfl⟩ (fun i ys σ H2 _ ⟨_,e2,_⟩=>by rw[e2];exact au.of ha) ?_ ?_
    ·rintro i y ys σ H2 hy ⟨rfl,rfl,v,rfl⟩
     have my:y∈xs:=List.mem_of_getElem? hy
     refine⟨y,rfl,y,1,12,rfl,hi xs e y my,?_,?_⟩
     ·rw[List.length_map,sizeLine_eq,List.length_take];omega
     ·refine⟨?_,rfl,_,rfl⟩
      rw[List.take_add_one,hy,List.map_append]
      rfl
    ·rintro ys σ H2 ⟨rfl,rfl,v,rfl⟩ p hp
     rw[List.take_length]
     refine⟨p,xs.map (fun y=>bK y 1 12),rfl,?_,?_⟩
     ·rw[List.map_map];exact ak.of Zc
     ·have e3:jc (some xs)=(xs.map (fun y=>bK y 1 12)).all id:=by
       match xs,h2 with
       | [a,b],_=>simp[jc]
      rw[←e3]
      exact q _ fun b o hb=>by rw[Zh (Zg hb hp)];exact hb
   ·rw[decide_eq_false (show ¬(xs.length:Int)=2 by omega)]
    have e3:jc (some xs)=false:=by
     match xs,h2 with
     | [],_=>rfl
     | [a],_=>rfl
     | [a,b],h=>exact absurd rfl h
     |a::b::c::r,_=>rfl
    rw[e3]at q
    exact ay (q H (aj.refl H))
end
section
theorem Yu (val:Nat→Int):∀n,((PyProof.Rows.firstMet val n).length=n↔((List.range n).map val).Nodup)
 |0=>by simp[PyProof.Rows.firstMet_zero]
 |n+1=>by
  have ih:=Yu val n
  have le:=PyProof.Rows.firstMet_length_le val n
  rw[PyProof.Rows.firstMet_succ,PyProof.Rows.step_length,PyProof.Rows.firstMet_any,List.range_succ,List.map_append]
  have e:(((List.range n).map val).any (· ==val n))=true↔val n∈(List.range n).map val:=by
   rw[List.any_eq_true]
   constructor
   ·rintro⟨x,hx,q⟩
    have:x=val n:=by simpa using q
    rw[←this];exact hx
   ·intro h;exact⟨_,h,by simp⟩
  have nd:((List.range n).map val++List.map val [n]).Nodup↔((List.range n).map val).Nodup∧¬val n∈(List.range n).map val:=by
   rw[List.nodup_append]
   constructor
   ·rintro⟨h1,_,h3⟩
    exact⟨h1,fun m=>h3 _ m (val n) (by simp) rfl⟩
   ·rintro⟨h1,h2⟩
    refine⟨h1,by simp,fun a ha b hb q=>h2 ?_⟩
    have kn:b=val n:=by simpa using hb
    rw[←kn,←q];exact ha
  rw[nd,←ih]
  by_cases m:val n∈(List.range n).map val
  ·rw[if_pos (e.mpr m)]
   constructor
   ·intro h;omega
   ·rintro⟨_,h⟩;exact absurd m h
  ·rw[if_neg (fun z=>m (e.mp z))]
   constructor
   ·intro h;exact⟨by omega,m⟩
   ·rintro⟨h,_⟩;omega
theorem Uo (ns:List Int):jU ns=ns.length↔ns.Nodup:=by
 unfold jU
 rw[Yu]
 have e:(List.range ns.length).map (fun i=>ns.getD i 0)=ns:=by
  refine List.ext_getElem (by simp) fun i h1 h2=> ?_
  rw[List.getElem_map,List.getElem_range,List.getD_eq_getElem?_getD,List.getElem?_eq_getElem h2,Option.getD_some]
 rw[e]
def rowsOf (xs:List V):List V:=xs.filter fun x=> !decide (x=.ae)
def oV (wd hg:Int):Option (List V)→Bool
 |some xs=>decide ((xs.length:Int)=wd)&&((rowsOf xs).all fun r=>bK r 0 (hg - 1))&&decide (rowsOf xs).Nodup
 |none=>false
def cY (H:Hp) (x:V) (wd hg:Int):Prop:=cn H x=some [.int wd,.int hg]∧1≤wd∧wd≤12∧1≤hg∧hg≤12
theorem cY.same {H H':Hp}{x:V}{wd hg:Int}(b:cY H x wd hg) (s:aj H H'):cY H' x wd hg:=⟨s.cn b.1,b.2⟩
theorem cY.is {H:Hp}{x:V}{wd hg:Int}(b:cY H x wd hg):jc (cn H x)=true:=by
 obtain⟨h,h1,h2,h3,h4⟩:=b
 rw[h]
 show(decide (1≤wd)&&decide (wd≤12)&&(decide (1≤hg)&&decide (hg≤12)))=true
 simp[h1,h2,h3,h4]
theorem cY.pl {K:PySem.W.Frag}{H:Hp}{x:V}{wd hg:Int}(b:cY H x wd hg):pZ K H x:=by
 obtain⟨a,rfl,ha⟩:=Zy b.1
 refine⟨⟨_,.tup ha⟩,fun xs e y hy=> ?_⟩
 rw[b.1]at e
 cases e
 rcases List.mem_cons.mp hy with z |hy
 ·rw[z];exact⟨_,.int wd⟩
 ·rw[List.mem_singleton.mp hy];exact⟨_,.int hg⟩
theorem WY {xs:List V}{lo hi:Int}(h:(xs.all fun r=>bK r lo hi)=true):∃ns:List Int,xs=ns.map V.int:=by
 induction xs with
 |nil=>exact⟨[],rfl⟩
 |cons x xs ih=>
  rw[List.all_cons,Bool.and_eq_true]at h
  obtain⟨ns,e⟩:=ih h.2
  cases x with
  |int i=>exact⟨i::ns,by rw[e];rfl⟩
  |_=>cases h.1
theorem JW (ns:List Int):(ns.map V.int).Nodup↔ns.Nodup:=by
 induction ns with
 |nil=>simp
 |cons n ns ih=>rw[List.map_cons,List.nodup_cons,List.nodup_cons,ih];simp
end
section
variable {P:Program}{w:World}{K:PySem.W.Frag}{mg:Str→Option Value}{base:Heap}
abbrev rH:Stmt:=top 24
def qF (K:PySem.W.Frag):Sp:=fun vs H Q _=> ∃x wd hg,vs=[x]∧cY H x wd hg∧∀H',aj H H'→Q .ae H'
theorem Bm:aF ["board"] ["board"] (aq rH):=⟨rfl,rfl,rfl,by decide+kernel,rfl,by decide+kernel,by decide+kernel⟩
theorem Ws {f:Addr}{fd:FuncData}(F:az K "need_board" "need_board" rH f fd) (D1:Def P w K mg base 3 "is_board" ["thing"] (nW K)):ar P w K mg base aC 4 f fd ["board"] (qF K):=by
 refine F.ok Bm (fun vs H Q E h=> ?_) (fun ai A outer s H vs Q E hr h=> ?_)
 ·obtain⟨x,wd,hg,rfl,_⟩:=h
  rfl
 ·obtain⟨x,wd,hg,rfl,b,q⟩:=h
  refine⟨_,Zj (ZN (Yz (Yb (Zk D1 hr (Za (pv 0) Zb)))) ZO ZA),?_⟩
  refine⟨x,rfl,x,rfl,b.pl,fun H' sm=> ⟨_,rfl,?_⟩⟩
  rw[b.is]
  exact ay (q H' sm)
abbrev rP:Stmt:=top 26
def qJ (K:PySem.W.Frag):Sp:=fun vs H Q _=> ∃x y wd hg,vs=[x,y]∧cY H x wd hg∧pZ K H y∧∀H',aj H H'→Q (.bl (oV wd hg (cn H y))) H'
theorem n8:aF ["board", "thing", "wide", "high", "rows"] ["board", "thing"] (aq rP):=⟨rfl,rfl,rfl,by decide+kernel,rfl,by decide+kernel,by decide+kernel⟩
theorem Hm {f:Addr}{fd:FuncData}(F:az K "is_lay" "is_lay" rP f fd) (G:Gs mg) (D1:Def P w K mg base 4 "need_board" ["board"] (qF K)) (D2:Def P w K mg base 1 "is_tuple_of" ["thing", "many"] (nK K))
  (D3:Def P w K mg base 2 "is_whole_within" ["thing", "least", "most"] (jP K)):ar P w K mg base aC 5 f fd ["board", "thing"] (qJ K):=by
 refine F.ok n8 (fun vs H Q E h=> ?_) (fun ai A outer s H vs Q E hr h=> ?_)
 ·obtain⟨x,y,wd,hg,rfl,_⟩:=h
  rfl
 ·obtain⟨x,y,wd,hg,rfl,b,⟨ty,hy⟩,q⟩:=h
  refine⟨_,Ze (ZS (Zk D1 hr (Za (pv 0) Zb)))
   (Ze (Yq (pv 0) (Uu rfl (ZT (ZK (i:=2) n8.nd rfl (Or.inl rfl)) (ZT (ZK (i:=3) n8.nd rfl (Or.inr rfl)) YJ))))
   (Ze (ZN (Yz (Yb (Zk D2 (hr.mono (by decide)) (Za (pv 1) (Za (pv 2) Zb))))) (Zj (Zv Y4)) ZA)
   (Ze (Yl ["row"] 1 [] (i:=4) n8.nd rfl (Or.inl rfl) (Jq (pv 1)) (fun C s H fp=>pb 0) (fun C s H fp=>Jb (Jp (Wq (pv 0)))) (fun C s H fp D=>dr rfl (pv 0)))
   (Zj (Zv (YX (Zn Uc rfl G.all boot_all (Za (Ym ["row", "high"] 1 [3] (Z7 (pv 4)) (fun C s H fp=>pb 0) (fun C s H fp=>ZV)
     (fun C s H fp D=>dr rfl (Zk D3 (hr.mono (by decide)) (Za (pv 0) (Za Zf (Za (Zm Yr (pv 1) Zf) Zb)))))) Zb))
    (YA (Je WN (Zn JL rfl G.len boot_len (Za (Zr JJ rfl G.set boot_set (Za (pv 4) Zb)) Zb)) (Zn ZD rfl G.len boot_len (Za (pv 4) Zb)) (bw _))))))))),?_⟩
  refine⟨x,rfl,x,wd,hg,rfl,b,fun H1 s1=> ?_⟩
  have b1:=b.same s1
  obtain⟨a,rfl,ha⟩:=Zy b1.1
  refine⟨_,rfl,a,_,rfl,au.of ha,rfl,_,_,rfl,_,_,rfl,rfl,?_⟩
  refine⟨y,rfl,_,rfl,y,wd,rfl,s1.wY ty,_,rfl,?_⟩
  cases e:cn H y with
  |none=>
   have e1:cn H1 y=none:=by
    obtain⟨T,t⟩:=ty
    cases t with
    |tup e2=>rw[ZH e2]at e;cases e
    |lst e2=>rw[Z1,s1 _ _ e2];rfl
    |bZ e2=>rw[Z1,s1 _ _ e2];rfl
    |dK e2=>rw[Z1,s1 _ _ e2];rfl
    |dT e2=>rw[Z1,s1 _ _ e2];rfl
    |_=>rfl
   rw[e1]
   rw[e]at q
   exact aH (q H1 s1)
  |some xs=>
   have e1:=s1.cn e
   rw[e1]
   rw[e]at q
   obtain⟨l,rfl,hl⟩:=Zy e1
   by_cases hw:(xs.length:Int)=wd
   ·refine(show if (!decide ((xs.length:Int)=wd))=true then _ else _ from ?_)
    rw[decide_eq_true hw]
    refine ay ?_
    have Lz:=b.2.2.1
    have hlen:xs.length≤12:=by omega
    refine⟨_,rfl,l,rfl,⟨xs,au.of hl⟩,?_⟩
    refine YM (xs:=xs) (fun i ys σ H2=>ys=rowsOf (xs.take i)∧H2=H1∧∃v,σ=[v]) ⟨rfl,rfl,none,rfl⟩ (fun i ys σ H2 _ ⟨_,e2,_⟩=>by rw[e2];exact au.of hl) ?_ ?_
    ·rintro i r ys σ H2 fZ ⟨rfl,rfl,v,rfl⟩
     have et:rowsOf (xs.take (i+1))=rowsOf (xs.take i)++(if (!decide (r=V.ae))=true then [r] else []):=by
      unfold rowsOf
      rw[List.take_add_one,fZ,List.filter_append]
      cases hh:(!decide (r=V.ae)) with
      |true=>simp[hh]
      |false=>simp[hh]
     refine⟨r,rfl,_,rfl,?_⟩
     cases hh:(!decide (r=V.ae)) with
     |true=>
      rw[hh]at et
      refine aH ?_
      refine⟨r,rfl,?_,?_⟩
      ·have:=List.length_filter_le (fun x=> !decide (x=V.ae)) (xs.take i)
       unfold rowsOf
       rw[sizeLine_eq]
       rw[List.length_take]at this
       omega
      ·exact⟨by rw[et,if_pos rfl],rfl,_,rfl⟩
     |false=>
      rw[hh]at et
      exact ay ⟨by rw[et,if_neg Bool.false_ne_true,List.append_nil],rfl,_,rfl⟩
    ·rintro ys σ H2 ⟨rfl,rfl,v,rfl⟩ p hp
     rw[List.take_length]
     have LA:(rowsOf xs).length≤12:=Nat.le_trans (List.length_filter_le _ _) hlen
     have s2:aj H2 (upd H2 p (.lst (rowsOf xs))):=fun b o hb=>by rw[Zh (Zg hb hp)];exact hb
     refine⟨_,rfl,p,rfl,⟨rowsOf xs,ak.of Zc⟩,?_⟩
     generalize EC:upd H2 p (HO.lst (rowsOf xs))=H3 at s2
     have l6:H3 p=some (.lst (rowsOf xs)):=by rw[←EC];exact Zc
     refine Yh (xs:=rowsOf xs) (fun i ys σ H4=>ys=((rowsOf xs).take i).map (fun r=>V.bl (bK r 0 (hg - 1)))∧H4=H3∧∃v,σ=[v,some (.int hg)]) ⟨rfl,rfl,none,rfl⟩ (fun i ys σ H4 _ ⟨_,e2,_⟩=>by rw[e2];exact ak.of l6) ?_ ?_
     ·rintro i r ys σ H4 fZ ⟨rfl,rfl,v,rfl⟩
      have mr:r∈xs:=(List.mem_filter.mp (List.mem_of_getElem? fZ)).1
      refine⟨r,rfl,_,rfl,_,_,rfl,rfl,r,0,hg - 1,rfl,(s1.trans s2).wY (hy xs e r mr),?_,?_⟩
      ·rw[List.length_map,sizeLine_eq,List.length_take];omega
      ·refine⟨?_,rfl,_,rfl⟩
       rw[List.take_add_one,fZ,List.map_append]
       rfl
     ·rintro ys σ H4 ⟨rfl,rfl,v,rfl⟩ p' Dn
      rw[List.take_length]
      have s3:∀o,aj H4 (upd H4 p' o):=fun o b u hb=>by rw[Zh (Zg hb Dn)];exact hb
      refine⟨p',(rowsOf xs).map (fun r=>bK r 0 (hg - 1)),rfl,?_,?_⟩
      ·rw[List.map_map];exact ak.of Zc
      ·have Ff:((rowsOf xs).map (fun r=>bK r 0 (hg - 1))).all id=(rowsOf xs).all fun r=>bK r 0 (hg - 1):=by rw[List.all_map];rfl
       rw[Ff]
       have Fe:oV wd hg (some xs)=(((rowsOf xs).all fun r=>bK r 0 (hg - 1))&&decide (rowsOf xs).Nodup):=by
        show(decide ((xs.length:Int)=wd)&&_&&_)=_
        rw[decide_eq_true hw,Bool.true_and]
       rw[Fe]at q
       refine⟨_,rfl,?_⟩
       cases jo:((rowsOf xs).all fun r=>bK r 0 (hg - 1)) with
       |false=>
        rw[jo]at q
        exact ay (q _ (s1.trans (s2.trans (s3 _))))
       |true=>
        rw[jo,Bool.true_and]at q
        obtain⟨ns,en⟩:=WY jo
        have bz:(upd H4 p' (.lst (((rowsOf xs).map (fun r=>V.bl (bK r 0 (hg - 1))))))) p=some (.lst (rowsOf xs)):=s3 _ _ _ l6
        refine aH ?_
        have LG:ns.length=(rowsOf xs).length:=by rw[en,List.length_map]
        refine⟨_,rfl,p,ns,rfl,by rw[←en];exact ak.of bz,by omega,fun q2 S lZ=> ⟨q2,S,jU ns,rfl,Zc,_,rfl,p,rowsOf xs,rfl,.inl (ak.of ?_),rfl,?_⟩⟩
        ·rw[Zh (Zg bz lZ)];exact bz
        ·have ed:decide (V.int (jU ns:Int)=V.int ((rowsOf xs).length:Int))=decide (rowsOf xs).Nodup:=by
          rw[decide_eq_decide]
          rw[en,JW,←Uo,List.length_map]
          constructor
          ·intro h;injection h with h;omega
          ·intro h;rw[h]
         rw[ed]
         exact q _ (s1.trans (s2.trans ((s3 _).trans fun b o hb=>by rw[Zh (Zg hb lZ)];exact hb)))
   ·refine(show if (!decide ((xs.length:Int)=wd))=true then _ else _ from ?_)
    rw[decide_eq_false hw]
    have e3:oV wd hg (some xs)=false:=by
     show(decide ((xs.length:Int)=wd)&&_&&_)=false
     rw[decide_eq_false hw,Bool.false_and,Bool.false_and]
    rw[e3]at q
    exact aH (q H1 s1)
abbrev sj:Stmt:=top 65
def qT (K:PySem.W.Frag):Sp:=fun vs H Q _=> ∃(a:Addr) (ns:List Int) (k:Nat),vs=[.ref a,.int k]∧ak K H a (ns.map V.int)∧∀n:Int,Q (.int n) H
theorem Bx:aF ["_law_script", "_law_k"] ["_law_script", "_law_k"] (aq sj):=⟨rfl,rfl,rfl,by decide+kernel,rfl,by decide+kernel,by decide+kernel⟩
theorem Ih {f:Addr}{fd:FuncData}(F:az K "_law_cell_at" "_law_cell_at" sj f fd) (G:Gs mg):ar P w K mg base aC 1 f fd ["_law_script", "_law_k"] (qT K):=by
 refine F.ok Bx (fun vs H Q E h=> ?_) (fun ai A outer s H vs Q E hr h=> ?_)
 ·obtain⟨a,ns,k,rfl,_⟩:=h
  rfl
 ·obtain⟨a,ns,k,rfl,hs,q⟩:=h
  refine⟨_,Ze (ZN (Zw GV (pv 1) (Zn ZD rfl G.len boot_len (Za (pv 0) Zb)) (bw _)) (Zj (Zv (Zz ZM (pv 0) (pv 1) (fun _ _=>rfl)))) ZA) (Zj (Zv Zf)),?_⟩
  refine⟨_,rfl,_,rfl,a,ns.map V.int,rfl,.inl hs,_,_,rfl,rfl,_,rfl,?_⟩
  by_cases hk:k<ns.length
  ·rw[decide_eq_true (by rw[List.length_map];omega)]
   refine aH ⟨_,rfl,_,rfl,a,ns.map V.int,k,V.int ns[k],rfl,rfl,hs,YT ?_,q _⟩
   rw[List.getElem?_map,List.getElem?_eq_getElem hk]
   rfl
  ·rw[decide_eq_false (by rw[List.length_map];omega)]
   exact ay (q 0)
def bP (H:Hp) (p:Addr):Prop:=∃u v:Int,H p=some (.lst [.int u,.int v])∧0≤u∧0≤v∧v<2147483647
abbrev rC:Stmt:=top 66
def qE (K:PySem.W.Frag):Sp:=fun vs H Q _=> ∃(a:Addr) (ns:List Int) (k:Nat),vs=[.ref a,.int k]∧ak K H a (ns.map V.int)∧∀p H',H p=none→aj H H'→bP H' p→Q (.ref p) H'
theorem wA:aF ["_law_script", "_law_k", "_law_cell"] ["_law_script", "_law_k"] (aq rC):=⟨rfl,rfl,rfl,by decide+kernel,rfl,by decide+kernel,by decide+kernel⟩
theorem Kk {f:Addr}{fd:FuncData}(F:az K "_law_state" "_law_state" rC f fd) (G:Gs mg) (D1:Def P w K mg base 1 "_law_cell_at" ["_law_script", "_law_k"] (qT K)):ar P w K mg base aC 102 f fd ["_law_script", "_law_k"] (qE K):=by
 refine F.ok wA (fun vs H Q E h=> ?_) (fun ai A outer s H vs Q E hr h=> ?_)
 ·obtain⟨a,ns,k,rfl,_⟩:=h
  rfl
 ·obtain⟨a,ns,k,rfl,hs,q⟩:=h
  refine⟨_,Ze (Zx (i:=2) wA.nd rfl (Or.inl rfl) (Zk D1 (hr.mono (by decide)) (Za (pv 0) (Za (pv 1) Zb))))
   (Zj (Zv (Zq (Za (Zn (J9 (hr.hd (by decide))) rfl G.max boot_max (Za Zf (Za (Zm Yr (pv 2) (Zm zq Zf Zf)) Zb))) (Za (Zm Yt (pv 2) Zf) Zb))))),?_⟩
  refine⟨_,rfl,_,rfl,a,ns,k,rfl,hs,fun n=> ?_⟩
  refine⟨_,rfl,_,_,rfl,rfl,⟨by decide,by decide,by decide⟩,_,_,rfl,rfl,_,_,rfl,?_⟩
  refine⟨_,rfl,_,_,rfl,rfl,(by show(0:Int)<2147483647;decide),(by show 2≤sizeLine;decide),fun p hp=>q p _ hp (fun b o hb=>by rw[Zh (Zg hb hp)];exact hb) ?_⟩
  refine⟨_,_,Zc,?_,Int.emod_nonneg _ (by decide),Int.emod_lt_of_pos _ (by decide)⟩
  split<;>omega
abbrev rp:Stmt:=top 67
def jQ:Sp:=fun vs H Q _=> ∃(p:Addr) (m:Int),vs=[.ref p,.int m]∧bP H p∧0<m∧m<1000∧∀r o,0≤r→r<m→bP (upd H p o) p→Q (.int r) (upd H p o)
theorem nX:aF ["_law_state_here", "_law_many", "_law_found", "_law_stirred"] ["_law_state_here", "_law_many"] (aq rp):=⟨rfl,rfl,rfl,by decide+kernel,rfl,by decide+kernel,by decide+kernel⟩
theorem eE {x y:V} :dW [x,y] 0=some x:=rfl
theorem cI {x y:V} :dW [x,y] 1=some y:=rfl
theorem Ii {f:Addr}{fd:FuncData}(F:az K "_law_take" "_law_take" rp f fd):ar P w K mg base aC 1 f fd ["_law_state_here", "_law_many"] jQ:=by
 refine F.ok nX (fun vs H Q E h=> ?_) (fun ai A outer s H vs Q E hr h=> ?_)
 ·obtain⟨p,m,rfl,_⟩:=h
  rfl
 ·obtain⟨p,m,rfl,⟨u,v,hp,hu,hv,C3⟩,hm,bL,q⟩:=h
  refine⟨_,Ze (ZN (Zw WM (Zz ZM (pv 0) Zf (fun _ _=>rfl)) Zf (bw _))
    (Ze (Zx (i:=2) nX.nd rfl (Or.inl rfl) (Zm Yt (Zz ZM (pv 0) Zf (fun _ _=>rfl)) (pv 1)))
    (Ze (Yq (Zm UT (Zz ZM (pv 0) Zf (fun _ _=>rfl)) (pv 1)) (zr (pv 0) Zf WD)) (Zj (Zv (pv 2))))) ZA)
   (Ze (Yq (Zm Yt (Zm Yd (Zm Ju (Zz ZM (pv 0) Zf (fun _ _=>rfl)) Zf) Zf) Zf) (zr (pv 0) Zf WD))
   (Ze (Zx (i:=3) nX.nd rfl (Or.inl rfl) (Zm Yt (Zm Yd (Zm Yd (Zm Ju (Zz ZM (pv 0) Zf (fun _ _=>rfl)) (Zz ZM (pv 0) Zf (fun _ _=>rfl))) (Zm Ju Zf (Zz ZM (pv 0) Zf (fun _ _=>rfl)))) Zf) Zf))
   (Ze (Zx (i:=3) nX.nd rfl (Or.inl rfl) (Zm Yt (Zm Yd (Zm Ju (pv 3) (pv 3)) (Zm Ju Zf (pv 3))) Zf))
   (Zj (Zv (Zm Yt (Zm UT (pv 3) Zf) (pv 1))))))),?_⟩
  have s0:=ak.of (K:=K) hp
  refine⟨_,rfl,p,_,_,_,rfl,rfl,s0,eE,_,_,rfl,rfl,_,rfl,?_⟩
  by_cases h0:0<u
  ·rw[decide_eq_true h0]
   refine aH ?_
   refine⟨_,rfl,p,_,_,_,rfl,rfl,s0,eE,_,rfl,_,_,rfl,rfl,hm,?_⟩
   refine⟨_,rfl,p,_,_,_,rfl,rfl,s0,eE,_,rfl,_,_,rfl,rfl,⟨hm,by omega⟩,?_⟩
   refine⟨_,rfl,p,_,0,0,rfl,rfl,hp,rfl,?_⟩
   refine⟨_,rfl,q _ _ (Int.emod_nonneg _ (by omega)) (Int.emod_lt_of_pos _ hm) ?_⟩
   exact⟨u/m,v,Zc,Int.ediv_nonneg hu (by omega),hv,C3⟩
  ·rw[decide_eq_false h0]
   refine ay ?_
   refine⟨_,rfl,p,_,_,_,rfl,rfl,s0,cI,_,_,rfl,rfl,.inr ⟨by decide,by decide⟩,_,_,rfl,rfl,_,_,rfl,rfl,(by show(0:Int)<2147483647;decide),?_⟩
   refine⟨_,rfl,p,_,1,1,rfl,rfl,hp,rfl,?_⟩
   have b1:0≤((v*48271+29)%2147483647):=Int.emod_nonneg _ (by decide)
   have b2:((v*48271+29)%2147483647)<2147483647:=Int.emod_lt_of_pos _ (by decide)
   have s1:ak K (upd H p (.lst (([V.int u,V.int v]:List V).set 1 (V.int ((v*48271+29)%2147483647))))) p [.int u,.int ((v*48271+29)%2147483647)]:=ak.of Zc
   have lo:∀{t:Int},0≤t→ -(2^64)<t:=fun h=>Int.lt_of_lt_of_le (by decide) h
   have hi:∀{t:Int},t<2147483647→t<2^64:=fun h=>Int.lt_trans h (by decide)
   refine⟨_,rfl,p,_,_,_,rfl,rfl,s1,cI,_,rfl,p,_,_,_,rfl,rfl,s1,cI,_,_,rfl,rfl,.inl ⟨lo b1,hi b2⟩,?_⟩
   refine⟨_,rfl,p,_,_,_,rfl,rfl,s1,cI,_,_,rfl,rfl,.inl ⟨by decide,by decide⟩,_,_,rfl,rfl,_,_,rfl,rfl,_,_,rfl,rfl,(by show(0:Int)<2147483629;decide),?_⟩
   have c1:0≤((((v*48271+29)%2147483647)*((v*48271+29)%2147483647)+39373*((v*48271+29)%2147483647)+7)%2147483629):=Int.emod_nonneg _ (by decide)
   have c2:((((v*48271+29)%2147483647)*((v*48271+29)%2147483647)+39373*((v*48271+29)%2147483647)+7)%2147483629)<2147483647:=Int.lt_trans (Int.emod_lt_of_pos _ (by decide)) (by decide)
   refine⟨_,rfl,_,rfl,_,_,rfl,rfl,.inl ⟨lo c1,hi c2⟩,_,rfl,_,_,rfl,rfl,.inl ⟨by decide,by decide⟩,_,_,rfl,rfl,_,_,rfl,rfl,(by show(0:Int)<2147483587;decide),?_⟩
   refine⟨_,rfl,_,_,rfl,rfl,⟨by decide,by decide⟩,_,rfl,_,_,rfl,rfl,hm,?_⟩
   refine q _ _ (Int.emod_nonneg _ (by omega)) (Int.emod_lt_of_pos _ hm) ?_
   exact⟨u,_,Zc,hu,b1,b2⟩
abbrev sg:Stmt:=top 69
def qS:Sp:=fun vs H Q _=> ∃(p:Addr) (m:Int),vs=[.ref p,.int m]∧bP H p∧0<m∧m<1000∧
 ∀(b:Addr) (H':Hp) (wd hg:Int),1≤wd→wd≤m→1≤hg→hg≤m→aw p H H'→bP H' p→H' b=some (.tup [.int wd,.int hg])→b≠p→Q (.ref b) H'
theorem wD:aF ["_law_state_here", "_law_upto", "_law_way", "_law_wide", "_law_high"] ["_law_state_here", "_law_upto"] (aq sg):=⟨rfl,rfl,rfl,by decide+kernel,rfl,by decide+kernel,by decide+kernel⟩
theorem KP {f:Addr}{fd:FuncData}(F:az K "_law_board" "_law_board" sg f fd) (D1:Def P w K mg base 1 "_law_take" ["_law_state_here", "_law_many"] jQ):ar P w K mg base aC 2 f fd ["_law_state_here", "_law_upto"] qS:=by
 refine F.ok wD (fun vs H Q E h=> ?_) (fun ai A outer s H vs Q E hr h=> ?_)
 ·obtain⟨p,m,rfl,_⟩:=h
  rfl
 ·obtain⟨p,m,rfl,st,hm,bL,q⟩:=h
  refine⟨_,Ze (UP (i:=2) (j:=3) (k:=4) rfl wD.nd rfl rfl rfl rfl rfl rfl
    (Za (Zk D1 hr (Za (pv 0) (Za Zf Zb))) (Za (Zm Yd Zf (Zk D1 hr (Za (pv 0) (Za (pv 1) Zb)))) (Za (Zm Yd Zf (Zk D1 hr (Za (pv 0) (Za (pv 1) Zb)))) Zb))))
   (Zj (Zv (Js (Zw WN (pv 2) Zf (bw _)) (ZY (Za (pv 3) (Za (pv 3) Zb))) (ZY (Za (pv 3) (Za (pv 4) Zb)))))),?_⟩
  refine⟨_,rfl,p,3,rfl,st,by decide,by decide,fun r1 o1 h1 yu cj=> ?_⟩
  refine⟨_,rfl,_,rfl,p,m,rfl,cj,hm,bL,fun r2 o2 h2 kq bH=> ⟨_,_,rfl,rfl,?_⟩⟩
  refine⟨_,rfl,_,rfl,p,m,rfl,bH,hm,bL,fun r3 o3 h3 uh cu=> ⟨_,_,rfl,rfl,_,_,_,rfl,?_⟩⟩
  have sx:aw p H (upd (upd (upd H p o1) p o2) p o3):=(aw.upd.trans aw.upd).trans aw.upd
  have fin:∀wd hg:Int,1≤wd→wd≤m→1≤hg→hg≤m→∀b,upd (upd (upd H p o1) p o2) p o3 b=none→Q (.ref b) (upd (upd (upd (upd H p o1) p o2) p o3) b (.tup [.int wd,.int hg])):=fun wd hg a1 a2 a3 a4 b hb=>by
   obtain⟨u,v,e,x1,x2,x3⟩:=cu
   have xJ:p≠b:=Zg e hb
   exact q b _ wd hg a1 a2 a3 a4 (fun c o hc hn=>by rw[Zh (Zg (sx c o hc hn) hb)];exact sx c o hc hn) ⟨u,v,by rw[Zh xJ];exact e,x1,x2,x3⟩ Zc xJ.symm
  refine⟨_,rfl,rfl,_,rfl,?_⟩
  refine xA (fun _=> ?_) (fun _=> ?_)
  ·exact⟨_,rfl,_,rfl,(by show 2≤sizeLine;decide),fun b hb=>fin (1+r2) (1+r2) (by omega) (by omega) (by omega) (by omega) b hb⟩
  ·exact⟨_,rfl,_,rfl,(by show 2≤sizeLine;decide),fun b hb=>fin (1+r2) (1+r3) (by omega) (by omega) (by omega) (by omega) b hb⟩
structure bD (wd hg:Int) (xs:List V):Prop where
 len:(xs.length:Int)=wd
 row:∀r∈rowsOf xs,bK r 0 (hg - 1)=true
 nd:(rowsOf xs).Nodup
theorem bD.is {wd hg:Int}{xs:List V}(h:bD wd hg xs):oV wd hg (some xs)=true:=by
 show(decide ((xs.length:Int)=wd)&&((rowsOf xs).all fun r=>bK r 0 (hg - 1))&&decide (rowsOf xs).Nodup)=true
 rw[decide_eq_true h.len,decide_eq_true h.nd,List.all_eq_true.mpr h.row]
 rfl
abbrev sf:Stmt:=top 70
def qR (K:PySem.W.Frag):Sp:=fun vs H Q _=> ∃(p b:Addr) (wd hg:Int),vs=[.ref p,.ref b]∧bP H p∧cY H (.ref b) wd hg∧
 ∀(l:Addr) (H':Hp) (xs:List V),aw p H H'→bP H' p→H' l=some (.tup xs)→l≠p→bD wd hg xs→Q (.ref l) H'
theorem n9:aF ["_law_state_here", "_law_board_here", "_law_way", "_law_left", "_law_found", "_law_line", "_law_share", "_law_spot"] ["_law_state_here", "_law_board_here"] (aq sf):=⟨rfl,rfl,rfl,by decide+kernel,rfl,by decide+kernel,by decide+kernel⟩
theorem EX {v:Int}(h:0≤v) (h':v<5):∃c:Int,dW ([V.int 4,.int 4,.int 3,.int 1,.int 0]:List V) v=some (.int c):=by
 have:v=0∨v=1∨v=2∨v=3∨v=4:=by omega
 rcases this with rfl |rfl |rfl |rfl |rfl<;>exact⟨_,rfl⟩
theorem Gg {n:Nat}{i:Int}(h:0≤i) (h':i<n):seqIndex? i n=some i.toNat:=by
 have e:fY n i=some i.toNat:=by unfold fY;rw[if_pos h,if_pos h']
 exact(Ww e).1
theorem Z6 (xs:List V) (y:V):rowsOf (xs++[y])=rowsOf xs++(if (!decide (y=V.ae))=true then [y] else []):=by
 unfold rowsOf
 rw[List.filter_append]
 cases hh:(!decide (y=V.ae))<;>simp[hh]
theorem Jr:∀(l:List V) (k:Nat) (h:k<l.length),(l[k]::l.eraseIdx k).Perm l
 |x::l,0,_=> .refl _
 |x::l,k+1,h=>by
  have h':k<l.length:=by simpa using h
  show(l[k]::x::l.eraseIdx k).Perm (x::l)
  exact(List.Perm.swap x l[k] _).trans (List.Perm.cons x (Jr l k h'))
theorem Ki {f:Addr}{fd:FuncData}(F:az K "_law_lay" "_law_lay" sf f fd) (G:Gs mg) (D1:Def P w K mg base 1 "_law_take" ["_law_state_here", "_law_many"] jQ):ar P w K mg base aC 102 f fd ["_law_state_here", "_law_board_here"] (qR K):=by
 refine F.ok n9 (fun vs H Q E h=> ?_) (fun ai A outer s H vs Q E hr h=> ?_)
 ·obtain⟨p,b,wd,hg,rfl,_⟩:=h
  rfl
 ·obtain⟨p,b,wd,hg,rfl,st,bd,q⟩:=h
  refine⟨_,Ze (UP (i:=2) (j:=3) (k:=4) rfl n9.nd rfl rfl rfl rfl rfl rfl
    (Za (Zk D1 (hr.mono (by decide)) (Za (pv 0) (Za Zf Zb))) (Za (Zr (JK (hr.hd (by decide))) rfl G.list boot_list (Za (Zr Ub rfl G.range boot_range (Za (Zz ZI (pv 1) Zf (fun _ _=>rfl)) Zb)) Zb)) (Za (Zq Zb) Zb))))
   (Ze (Wo PassesOwn.never rfl (Z3 rfl G.range (Za (Zz ZI (pv 1) Zf (fun _ _=>rfl)) Zb)) (ZK (i:=5) n9.nd rfl (Or.inl rfl))
    (Ze (zt (i:=6) (j:=7) rfl n9.nd rfl rfl (by decide) rfl rfl (Za (Zk D1 (hr.mono (by decide)) (Za (pv 0) (Za Zf Zb))) (Za (Zk D1 (hr.mono (by decide)) (Za (pv 0) (Za Zf Zb))) Zb)) rfl)
    (Zj (ZN (PW.pt (Y3 (Zw (Gz hr.Ag) (pv 3) (Zq Zb) (bw _)) (Yp (Zw GU (pv 6) (Zz ZM (Zq (Za Zf (Za Zf (Za Zf (Za Zf (Za Zf Zb)))))) (pv 2) (fun _ _=>rfl)) (bw _)))))
     (Zj (ZS (JS PySem.F.plainAttrs_list PySem.F.slot_list_append PySem.F.type_list_append Y0 (pv 4) (Za Yc Zb))))
     (Zj (ZS (JS PySem.F.plainAttrs_list PySem.F.slot_list_append PySem.F.type_list_append Y0 (pv 4)
      (Za (JS PySem.F.plainAttrs_list PySem.F.slot_list_pop PySem.F.type_list_pop KL (pv 3) (Za (Zm Yt (pv 7) (Zn ZD rfl G.len boot_len (Za (pv 3) Zb))) Zb)) Zb))))))))
   (Zj (Zv (Zr Yx rfl G.tuple boot_tuple (Za (pv 4) Zb))))),?_⟩
  obtain⟨a,e,hb⟩:=Zy bd.1
  cases e
  obtain⟨_,w1,w2,g1,g2⟩:=id bd
  obtain⟨u0,v0,e0,_⟩:=id st
  have Eg:b≠p:=Gh hb e0 (by intro z;cases z)
  refine⟨_,rfl,p,5,rfl,st,by decide,by decide,fun way o1 h1 yu cj=> ?_⟩
  have x1:aw p H (upd H p o1):=aw.upd
  have gB:=x1 _ _ hb Eg
  refine⟨_,rfl,b,_,_,_,rfl,rfl,au.of gB,cI,hg,rfl,fun q1 Dl=> ⟨q1,hg,rfl,Zc,by omega,by omega,fun L hL=> ⟨Nat.zero_le _,fun M hM=> ⟨_,_,_,rfl,?_⟩⟩⟩⟩
  generalize yt:upd (upd (upd (upd H p o1) q1 (.eQ 0 hg)) L (.lst (L2.upTo hg.toNat))) M (.lst [])=H0
  have sA:aj (upd H p o1) (upd (upd H p o1) q1 (.eQ 0 hg)):=fun c o hc=>by rw[Zh (Zg hc Dl)];exact hc
  have sB:aj (upd (upd H p o1) q1 (.eQ 0 hg)) (upd (upd (upd H p o1) q1 (.eQ 0 hg)) L (.lst (L2.upTo hg.toNat))):=fun c o hc=>by rw[Zh (Zg hc hL)];exact hc
  have sC:aj (upd (upd (upd H p o1) q1 (.eQ 0 hg)) L (.lst (L2.upTo hg.toNat))) H0:=fun c o hc=>by rw[←yt,Zh (Zg hc hM)];exact hc
  have s0:aj (upd H p o1) H0:=sA.trans (sB.trans sC)
  have Eu:H0 M=some (.lst []):=by rw[←yt];exact Zc
  have Ex:H0 L=some (.lst (L2.upTo hg.toNat)):=sC _ _ Zc
  obtain⟨u1,v1,e1,y1,y2,y3⟩:=id cj
  have A8:bP H0 p:=⟨u1,v1,s0 _ _ e1,y1,y2,y3⟩
  have ju:=s0 _ _ e1
  have ue:L≠M:=Zg (by exact Zc) hM
  have xK:p≠L:=Zg (sA _ _ e1) hL
  have tH:p≠M:=Zg (sB _ _ (sA _ _ e1)) hM
  have Em:H0 b=some (.tup [.int wd,.int hg]):=s0 _ _ gB
  have xt:∀H2,(∀c o,H0 c=some o→c≠p→c≠L→c≠M→H2 c=some o)→aw p H H2:=fun H2 k c o hc hn=>by
   have c1:=x1 c o hc hn
   exact k c o (s0 _ _ c1) hn (Zg (sA _ _ c1) hL) (Zg (sB _ _ (sA _ _ c1)) hM)
  refine⟨_,rfl,b,_,_,_,rfl,rfl,au.of Em,eE,wd,rfl,by omega,by omega,?_⟩
  refine J5 (n:=wd.toNat) (fun i σ H2=> ∃(ls fs:List V) (x5 x6 x7:Option V),σ=[some (.ref p),some (.ref b),some (.int way),some (.ref L),some (.ref M),x5,x6,x7]∧
    (∀c o,H0 c=some o→c≠p→c≠L→c≠M→H2 c=some o)∧bP H2 p∧H2 L=some (.lst ls)∧H2 M=some (.lst fs)∧fs.length=i∧(∀r∈rowsOf fs++ls,bK r 0 (hg - 1)=true)∧(rowsOf fs++ls).Nodup)
   ⟨L2.upTo hg.toNat,[],none,none,none,rfl,fun c o hc _ _ _=>hc,A8,Ex,Eu,rfl,?_,?_⟩ ?_ ?_
  ·intro r fZ
   have oX:r∈L2.upTo hg.toNat:=fZ
   unfold L2.upTo at oX
   obtain⟨j,hj,rfl⟩:=List.mem_map.mp oX
   have:=List.mem_range.mp hj
   show(decide ((0:Int)≤(j:Int))&&decide ((j:Int)≤hg - 1))=true
   rw[decide_eq_true (by omega),decide_eq_true (by omega)]
   rfl
  ·show(L2.upTo hg.toNat).Nodup
   unfold L2.upTo
   have e:((List.range hg.toNat).map fun(i:Nat)=>V.int (i:Int))=(((List.range hg.toNat).map fun(i:Nat)=> (i:Int))).map V.int:=by rw[List.map_map];rfl
   rw[e,JW]
   exact List.Pairwise.map _ (fun x y h z=>h (by omega)) List.nodup_range
  ·rintro i σ H2 hi ⟨ls,fs,x5,x6,x7,rfl,k2,bH,jk,bL,tS,lX,fb⟩
   refine⟨_,rfl,p,4,rfl,bH,by decide,by decide,fun sh o3 _ _ cu=> ?_⟩
   refine⟨_,rfl,p,12,rfl,cu,by decide,by decide,fun sp o4 dP tD wg=> ⟨_,_,rfl,?_⟩⟩
   generalize EA:upd (upd H2 p o3) p o4=H4 at wg
   have x4:aw p H2 H4:=by rw[←EA];exact aw.upd.trans aw.upd
   have pf:=x4 _ _ jk xK.symm
   have iA:=x4 _ _ bL tH.symm
   have k4:∀c o,H0 c=some o→c≠p→c≠L→c≠M→H4 c=some o:=fun c o hc a1 a2 a3=>x4 c o (k2 c o hc a1 a2 a3) a1
   have hlen:fs.length<sizeLine:=by rw[sizeLine_eq];omega
   refine⟨_,rfl,Nat.zero_le _,fun q2 lZ=> ⟨L,q2,ls,rfl,rfl,?_,ak.of Zc,_,rfl,?_⟩⟩
   ·exact ak.of (by rw[Zh (Zg pf lZ)];exact pf)
   have sD:aj H4 (upd H4 q2 (.lst [])):=fun c o hc=>by rw[Zh (Zg hc lZ)];exact hc
   generalize LR:upd H4 q2 (HO.lst [])=H5 at sD
   obtain⟨u4,v4,e4,z1,z2,z3⟩:=id wg
   have keep:∀H6,aj H4 H6→(∀c o,H0 c=some o→c≠p→c≠L→c≠M→H6 c=some o)∧bP H6 p:=fun H6 s6=> ⟨fun c o hc a1 a2 a3=>s6 _ _ (k4 c o hc a1 a2 a3),u4,v4,s6 _ _ e4,z1,z2,z3⟩
   have zb:∀H6,aj H4 H6→we K "list" wR (fm 4) (cg (tC .ae) dZ) [some (.ref p),some (.ref b),some (.int way),some (.ref L),some (.ref M),some (.int (0+(i:Int))),some (.int sh),some (.int sp)] H6 (fun _ H7=> ∃(ls fs:List V) (x5 x6 x7:Option V),([some (.ref p),some (.ref b),some (.int way),some (.ref L),some (.ref M),some (.int (0+(i:Int))),some (.int sh),some (.int sp)]:L2.St)=[some (.ref p),some (.ref b),some (.int way),some (.ref L),some (.ref M),x5,x6,x7]∧
     (∀c o,H0 c=some o→c≠p→c≠L→c≠M→H7 c=some o)∧bP H7 p∧H7 L=some (.lst ls)∧H7 M=some (.lst fs)∧fs.length=i+1∧(∀r∈rowsOf fs++ls,bK r 0 (hg - 1)=true)∧(rowsOf fs++ls).Nodup):=fun H6 s6=>by
    obtain⟨k6,t6⟩:=keep H6 s6
    have iz:=s6 _ _ iA
    have ji:=s6 _ _ pf
    refine⟨_,rfl,.inl ⟨rfl,_,ak.of iz⟩,M,fs,.ae,rfl,rfl,iz,hlen,ls,fs++[.ae],_,_,_,rfl,fun c o hc a1 a2 a3=>by rw[Zh a3];exact k6 c o hc a1 a2 a3,?_,by rw[Zh ue];exact ji,Zc,by rw[List.length_append,tS];rfl,?_,?_⟩
    ·obtain⟨u,v,e,r⟩:=t6
     exact⟨u,v,by rw[Zh tH];exact e,r⟩
    ·rw[Z6];simpa using lX
    ·rw[Z6];simpa using fb
   cases ya:ls.isEmpty with
   |true=>exact aH (aH (zb H5 sD))
   |false=>
    refine ay ?_
    have cm:ls≠[]:=fun z=>by rw[z]at ya;cases ya
    have LF:0<ls.length:=List.length_pos_iff.mpr cm
    refine⟨_,rfl,(by show 5≤sizeLine;decide),fun q3 Dj=> ?_⟩
    obtain⟨c5,gZ⟩:=EX h1 yu
    have sE:aj H5 (upd H5 q3 (.lst [.int 4,.int 4,.int 3,.int 1,.int 0])):=fun c o hc=>by rw[Zh (Zg hc Dj)];exact hc
    refine⟨_,rfl,q3,_,_,_,rfl,rfl,ak.of Zc,gZ,_,_,rfl,rfl,_,rfl,?_⟩
    generalize LQ:upd H5 q3 (HO.lst [V.int 4,.int 4,.int 3,.int 1,.int 0])=H6 at sE
    have s6:=sD.trans sE
    refine xA (fun _=>zb H6 s6) (fun _=> ?_)
    obtain⟨k6,t6⟩:=keep H6 s6
    have iz:=s6 _ _ iA
    have ji:=s6 _ _ pf
    have m1:0≤sp%(ls.length:Int):=Int.emod_nonneg _ (by omega)
    have m2:sp%(ls.length:Int)<ls.length:=Int.emod_lt_of_pos _ (by omega)
    have m3:(sp%(ls.length:Int)).toNat<ls.length:=by omega
    have m4:sp%(ls.length:Int)<2^63:=by
     by_cases hh:sp< (ls.length:Int)
     ·rw[Int.emod_eq_of_lt dP hh];omega
     ·omega
    refine⟨_,rfl,.inl ⟨rfl,_,ak.of iz⟩,_,rfl,.inl ⟨rfl,_,ak.of ji⟩,_,rfl,_,rfl,L,ls,rfl,.inl (ak.of ji),_,_,rfl,rfl,(by show(0:Int)< (ls.length:Int);omega),L,ls,_,_,_,rfl,rfl,ji,by omega,m4,Gg m1 m2,List.getElem?_eq_getElem m3,?_⟩
    generalize hk:(sp%(ls.length:Int)).toNat=k at m3
    have pe:upd H6 L (.lst (ls.eraseIdx k)) M=some (.lst fs):=by rw[Zh ue.symm];exact iz
    have my:ls[k]∈ls:=List.getElem_mem m3
    have wy:bK ls[k] 0 (hg - 1)=true:=lX _ (List.mem_append_right _ my)
    have ny:(!decide (ls[k]=V.ae))=true:=by
     cases e:ls[k] with
     |ae=>rw[e]at wy;cases wy
     |_=>rfl
    have pm:(rowsOf fs++[ls[k]]++ls.eraseIdx k).Perm (rowsOf fs++ls):=by
     rw[List.append_assoc]
     exact List.Perm.append_left _ (Jr ls k m3)
    refine⟨M,fs,_,rfl,rfl,pe,hlen,ls.eraseIdx k,fs++[ls[k]],_,_,_,rfl,fun c o hc a1 a2 a3=>by rw[Zh a3,Zh a2];exact k6 c o hc a1 a2 a3,?_,by rw[Zh ue,Zc],Zc,by rw[List.length_append,tS];rfl,?_,?_⟩
    ·obtain⟨u,v,e,r⟩:=t6
     exact⟨u,v,by rw[Zh tH,Zh xK];exact e,r⟩
    ·rw[Z6,if_pos ny]
     intro r fZ
     exact lX r (pm.mem_iff.mp fZ)
    ·rw[Z6,if_pos ny]
     exact pm.nodup_iff.mpr fb
  ·rintro σ H2 ⟨ls,fs,x5,x6,x7,rfl,k2,bH,jk,bL,tS,lX,fb⟩
   refine⟨_,rfl,M,fs,rfl,.inl ⟨ak.of bL,fun l hl=> ?_⟩⟩
   obtain⟨u,v,e,r⟩:=id bH
   have bz:p≠l:=Zg e hl
   refine q l _ fs (fun c o hc hn=> ?_) ⟨u,v,by rw[Zh bz];exact e,r⟩ Zc bz.symm ⟨by omega,fun r fZ=>lX r (List.mem_append_left _ fZ),(List.nodup_append.mp fb).1⟩
   have:=xt H2 k2 c o hc hn
   rw[Zh (Zg this hl)]
   exact this
end
section
def KS (xs:List V):Prop:=∀x∈xs,x=.ae∨∃i,x=.int i
theorem bD.ok {wd hg:Int}{xs:List V}(h:bD wd hg xs):KS xs:=fun x hx=>by
 by_cases e:x=.ae
 ·exact .inl e
 ·have m:x∈rowsOf xs:=List.mem_filter.mpr ⟨hx,by simp[e]⟩
  have q:=h.row x m
  cases x with
  |int i=>exact .inr ⟨i,rfl⟩
  |_=>cases q
def BX (K:PySem.W.Frag):R2:=fun x y H Q=> ∃a b ys,x=.ref a∧y=.ref b∧au K H a []∧au K H b ys∧Q (.ref b) H
def wQ (K:PySem.W.Frag):R2:=fun x y H Q=>BX K x y H Q∨wO K x y H Q
theorem Wr {X:Cx} :aZ X (binaryOp .Add) (wQ X.K):=Kn.or Ij
end
section
variable {P:Program}{w:World}{K:PySem.W.Frag}{mg:Str→Option Value}{base:Heap}
abbrev rG:Stmt:=top 27
def mZ (H:Hp) (x y:V) (wd hg:Int) (xs:List V):Prop:=cY H x wd hg∧cn H y=some xs∧bD wd hg xs
theorem mZ.pl {H:Hp}{x y:V}{wd hg:Int}{xs:List V}(h:mZ H x y wd hg xs):pZ K H y:=by
 obtain⟨a,rfl,ha⟩:=Zy h.2.1
 refine⟨⟨_,.tup ha⟩,fun zs e z hz=> ?_⟩
 rw[h.2.1]at e
 cases e
 rcases h.2.2.ok z hz with rfl |⟨i,rfl⟩
 ·exact⟨_,.ae⟩
 ·exact⟨_,.int i⟩
def nO:Sp:=fun vs H Q _=> ∃x y wd hg xs,vs=[x,y]∧mZ H x y wd hg xs∧∀H',aj H H'→Q .ae H'
theorem Bl:aF ["board", "lay"] ["board", "lay"] (aq rG):=⟨rfl,rfl,rfl,by decide+kernel,rfl,by decide+kernel,by decide+kernel⟩
theorem Uy {f:Addr}{fd:FuncData}(F:az K "need_lay" "need_lay" rG f fd) (D1:Def P w K mg base 5 "is_lay" ["board", "thing"] (qJ K)):ar P w K mg base aC 6 f fd ["board", "lay"] nO:=by
 refine F.ok Bl (fun vs H Q E h=> ?_) (fun ai A outer s H vs Q E hr h=> ?_)
 ·obtain⟨x,y,wd,hg,xs,rfl,_⟩:=h
  rfl
 ·obtain⟨x,y,wd,hg,xs,rfl,l,q⟩:=h
  refine⟨_,Zj (ZN (Yz (Yb (Zk D1 hr (Za (pv 0) (Za (pv 1) Zb))))) ZO ZA),?_⟩
  refine⟨x,rfl,y,rfl,x,y,wd,hg,rfl,l.1,l.pl,fun H' sm=> ⟨_,rfl,?_⟩⟩
  rw[l.2.1,l.2.2.is]
  exact ay (q H' sm)
end
section
def xg:List Str:=["NoBoard", "NoLay", "NoNumber", "NoPoints", "NoPoint", "NoPaper", "NoUnlike", "NoPrime", "NoRoot", "NoTurn", "TooFew", "TooMany", "NoText", "NoLine", "NoDeed"]
structure jC (K:PySem.W.Frag) (mg:Str→Option Value) (cS C:Addr) (iC:Nat):Prop where
 z:jI K C
 ms:mg "StepError" =some (.ref cS)
 xs:PySem.W.exmOne K (.ref C) (.ref cS)=some true
 m:∀i,i<15→∃c,mg (xg.getD i "")=some (.ref c)∧PySem.W.kitOne K (.ref C) (.ref c)=some (decide (i=iC))
 mv:mg "ValueError" =none
 xv:PySem.W.kitOne K (.ref C) (.type "ValueError")=some true
end
section
variable {P:Program}{w:World}{K:PySem.W.Frag}{mg:Str→Option Value}{base:Heap}
abbrev rD:Stmt:=top 68
def kT (P:Program) (w:World) (K:PySem.W.Frag) (mg:Str→Option Value) (base:Heap) (cS:Addr) (k:Nat):Sp:=fun vs H Q _=> ∃f fd sp C iC,vs=[.ref f]∧iC<15∧jC K mg cS C iC∧(∀s,bc P w H s→PySem.W.FnAt f s)∧ar P w K mg base (aG P w) k f fd [] sp∧
 (∀s,BindsTo s fd ⟨[],[]⟩ [])∧(∀Q' E',(∀e H',aj H H'→E' (.ref e) (some C) H')→sp [] H Q' E')∧∀l H',aj H H'→H l=none→H' l=some (.lst [.int (iC:Int)])→Q (.ref l) H'
theorem gO:aF ["_law_call", "_law_error", "e", "_law_marks"] ["_law_call"] (aq rD):=⟨rfl,rfl,rfl,by decide+kernel,rfl,by decide+kernel,by decide+kernel⟩
def bo (iC n:Nat):List V:=(List.range n).map fun i=>V.bl (decide (i=iC))
theorem Zd {H:Hp}{p:Addr}{o:HO}(h:H p=none):aj H (upd H p o):=fun b u hb=>by rw[Zh (Zg hb h)];exact hb
theorem Gu {k:Nat}{f:Addr}{fd:FuncData}{cS:Addr}(F:az K "_law_refused" "_law_refused" rD f fd) (G:Gs mg):ar P w K mg base aC (k+1) f fd ["_law_call"] (kT P w K mg base cS k):=by
 refine F.ok gO (fun vs H Q E h=> ?_) (fun ai A outer s H vs Q E hr h=> ?_)
 ·obtain⟨f,fd,sp,C,iC,rfl,_⟩:=h
  rfl
 ·obtain⟨f,fd,sp,C,iC,rfl,hi,M,fc,Fl,ua,bX,q⟩:=h
  obtain⟨c0,m0,k0⟩:=M.m 0 (by decide)
  obtain⟨c1,m1,k1⟩:=M.m 1 (by decide)
  obtain⟨c2,m2,k2⟩:=M.m 2 (by decide)
  obtain⟨c3,m3,k3⟩:=M.m 3 (by decide)
  obtain⟨c4,m4,k4⟩:=M.m 4 (by decide)
  obtain⟨c5,m5,k5⟩:=M.m 5 (by decide)
  obtain⟨c6,m6,k6⟩:=M.m 6 (by decide)
  obtain⟨c7,m7,k7⟩:=M.m 7 (by decide)
  obtain⟨c8,m8,k8⟩:=M.m 8 (by decide)
  obtain⟨c9,m9,k9⟩:=M.m 9 (by decide)
  obtain⟨c10,Cw,gv⟩:=M.m 10 (by decide)
  obtain⟨c11,Cv,eX⟩:=M.m 11 (by decide)
  obtain⟨c12,Cu,gW⟩:=M.m 12 (by decide)
  obtain⟨c13,j6,lM⟩:=M.m 13 (by decide)
  obtain⟨c14,Ct,fX⟩:=M.m 14 (by decide)
  refine⟨_,Ze (Zx (i:=1) gO.nd rfl (Or.inl rfl) Yc)
   (Ze (Ur (ic:=0) (ie:=2) rfl rfl rfl gO.nd rfl (Or.inl rfl) rfl rfl M.ms rfl hr (fun e=>Zj (Zx (i:=1) gO.nd rfl (Or.inl rfl) (pv 2))))
   (Ze (Zx (i:=3) gO.nd rfl (Or.inr rfl) (Zq (Za (Zn Zt rfl G.isinstance boot_isinstance (Za (pv 1) (Za (ZF (v:=.ref c0) rfl m0 rfl) Zb))) (Za (Zn Zt rfl G.isinstance boot_isinstance (Za (pv 1) (Za (ZF (v:=.ref c1) rfl m1 rfl) Zb))) (Za (Zn Zt rfl G.isinstance boot_isinstance (Za (pv 1) (Za (ZF (v:=.ref c2) rfl m2 rfl) Zb))) Zb)))))
   (Ze (Zx (i:=3) gO.nd rfl (Or.inr rfl) (Zm ZW (pv 3) (Zq (Za (Zn Zt rfl G.isinstance boot_isinstance (Za (pv 1) (Za (ZF (v:=.ref c3) rfl m3 rfl) Zb))) (Za (Zn Zt rfl G.isinstance boot_isinstance (Za (pv 1) (Za (ZF (v:=.ref c4) rfl m4 rfl) Zb))) (Za (Zn Zt rfl G.isinstance boot_isinstance (Za (pv 1) (Za (ZF (v:=.ref c5) rfl m5 rfl) Zb))) Zb))))))
   (Ze (Zx (i:=3) gO.nd rfl (Or.inr rfl) (Zm ZW (pv 3) (Zq (Za (Zn Zt rfl G.isinstance boot_isinstance (Za (pv 1) (Za (ZF (v:=.ref c6) rfl m6 rfl) Zb))) (Za (Zn Zt rfl G.isinstance boot_isinstance (Za (pv 1) (Za (ZF (v:=.ref c7) rfl m7 rfl) Zb))) (Za (Zn Zt rfl G.isinstance boot_isinstance (Za (pv 1) (Za (ZF (v:=.ref c8) rfl m8 rfl) Zb))) Zb))))))
   (Ze (Zx (i:=3) gO.nd rfl (Or.inr rfl) (Zm ZW (pv 3) (Zq (Za (Zn Zt rfl G.isinstance boot_isinstance (Za (pv 1) (Za (ZF (v:=.ref c9) rfl m9 rfl) Zb))) (Za (Zn Zt rfl G.isinstance boot_isinstance (Za (pv 1) (Za (ZF (v:=.ref c10) rfl Cw rfl) Zb))) (Za (Zn Zt rfl G.isinstance boot_isinstance (Za (pv 1) (Za (ZF (v:=.ref c11) rfl Cv rfl) Zb))) Zb))))))
   (Ze (Zx (i:=3) gO.nd rfl (Or.inr rfl) (Zm ZW (pv 3) (Zq (Za (Zn Zt rfl G.isinstance boot_isinstance (Za (pv 1) (Za (ZF (v:=.ref c12) rfl Cu rfl) Zb))) (Za (Zn Zt rfl G.isinstance boot_isinstance (Za (pv 1) (Za (ZF (v:=.ref c13) rfl j6 rfl) Zb))) (Za (Zn Zt rfl G.isinstance boot_isinstance (Za (pv 1) (Za (ZF (v:=.ref c14) rfl Ct rfl) Zb))) Zb))))))
   (Ze (ZN (Yz (Yb (Zn Zt rfl G.isinstance boot_isinstance (Za (pv 1) (Za (YL (v:=.ty "ValueError") rfl M.mv PyProof.Rows.Boot.«ValueError» rfl) Zb))))) (Zj (Zv Yc)) ZA)
   (Zj (Zv (Ym ["_law_k", "_law_marks"] 1 [3] (Z3 rfl G.range (Za Zf Zb)) (fun C s H fp=>pb 0)
    (fun C s H fp=>Jb (Yb (Zz (show jE (aS _ _ _ C s H fp) (wN K) from ZM) (pv 1) (pv 0) (fun _ _=>rfl)))) (fun C s H fp D=>dr rfl (pv 0)))))))))))),?_⟩
  refine⟨f,fd,sp,rfl,fc,Fl,ua,bX _ _ fun e H1 s1=> ⟨e,C,rfl,rfl,M.xs,fun kj=> ⟨_,rfl,?_⟩⟩⟩
  have s2:aj H1 (upd H1 e (iL e C)):=Zd kj
  have he:upd H1 e (iL e C) e=some (iL e C):=Zc
  generalize upd H1 e (iL e C)=H2 at s2 he
  refine⟨_,rfl,e,C,_,_,_,rfl,he,M.z,fun _ h=>h,k0,_,rfl,e,C,_,_,_,rfl,he,M.z,fun _ h=>h,k1,_,rfl,e,C,_,_,_,rfl,he,M.z,fun _ h=>h,k2,(by show 3≤sizeLine;decide),fun l1 bS=> ?_⟩
  have sa:aj H2 (upd H2 l1 (.lst (bo iC 3))):=Zd bS
  have ha:upd H2 l1 (.lst (bo iC 3)) l1=some (.lst (bo iC 3)):=Zc
  show _
  generalize ED:upd H2 l1 (HO.lst (bo iC 3))=Ha at sa ha
  rw[show upd H2 l1 (HO.lst [V.bl (decide (0=iC)),V.bl (decide (1=iC)),V.bl (decide (2=iC))])=Ha from ED]
  have pw:=sa _ _ he
  refine⟨_,rfl,_,rfl,e,C,_,_,_,rfl,pw,M.z,fun _ h=>h,k3,_,rfl,e,C,_,_,_,rfl,pw,M.z,fun _ h=>h,k4,_,rfl,e,C,_,_,_,rfl,pw,M.z,fun _ h=>h,k5,(by show 3≤sizeLine;decide),fun m0 xU=> ⟨l1,m0,bo iC 3,_,rfl,rfl,Zd xU _ _ ha,Zc,(by show 3+3≤sizeLine;decide),fun p0 xQ=> ?_⟩⟩
  have r8:aj Ha (upd Ha m0 (.lst [V.bl (decide (3=iC)),V.bl (decide (4=iC)),V.bl (decide (5=iC))])):=Zd xU
  generalize upd Ha m0 (HO.lst [V.bl (decide (3=iC)),V.bl (decide (4=iC)),V.bl (decide (5=iC))])=nq at r8 xQ
  have rX:aj nq (upd nq p0 (.lst (bo iC 6))):=Zd xQ
  have yr:upd nq p0 (.lst (bo iC 6)) p0=some (.lst (bo iC 6)):=Zc
  generalize EI:upd nq p0 (HO.lst (bo iC 6))=qd at rX yr
  rw[show upd nq p0 (HO.lst (bo iC 3++[V.bl (decide (3=iC)),V.bl (decide (4=iC)),V.bl (decide (5=iC))]))=qd from EI]
  have kj:=rX _ _ (r8 _ _ pw)
  refine⟨_,rfl,_,rfl,e,C,_,_,_,rfl,kj,M.z,fun _ h=>h,k6,_,rfl,e,C,_,_,_,rfl,kj,M.z,fun _ h=>h,k7,_,rfl,e,C,_,_,_,rfl,kj,M.z,fun _ h=>h,k8,(by show 3≤sizeLine;decide),fun m1 cV=> ⟨p0,m1,bo iC 6,_,rfl,rfl,Zd cV _ _ yr,Zc,(by show 6+3≤sizeLine;decide),fun p1 xO=> ?_⟩⟩
  have r6:aj qd (upd qd m1 (.lst [V.bl (decide (6=iC)),V.bl (decide (7=iC)),V.bl (decide (8=iC))])):=Zd cV
  generalize upd qd m1 (HO.lst [V.bl (decide (6=iC)),V.bl (decide (7=iC)),V.bl (decide (8=iC))])=nk at r6 xO
  have rW:aj nk (upd nk p1 (.lst (bo iC 9))):=Zd xO
  have yq:upd nk p1 (.lst (bo iC 9)) p1=some (.lst (bo iC 9)):=Zc
  generalize EH:upd nk p1 (HO.lst (bo iC 9))=qc at rW yq
  rw[show upd nk p1 (HO.lst (bo iC 6++[V.bl (decide (6=iC)),V.bl (decide (7=iC)),V.bl (decide (8=iC))]))=qc from EH]
  have pB:=rW _ _ (r6 _ _ kj)
  refine⟨_,rfl,_,rfl,e,C,_,_,_,rfl,pB,M.z,fun _ h=>h,k9,_,rfl,e,C,_,_,_,rfl,pB,M.z,fun _ h=>h,gv,_,rfl,e,C,_,_,_,rfl,pB,M.z,fun _ h=>h,eX,(by show 3≤sizeLine;decide),fun m2 bL=> ⟨p1,m2,bo iC 9,_,rfl,rfl,Zd bL _ _ yq,Zc,(by show 9+3≤sizeLine;decide),fun p2 oZ=> ?_⟩⟩
  have rZ:aj qc (upd qc m2 (.lst [V.bl (decide (9=iC)),V.bl (decide (10=iC)),V.bl (decide (11=iC))])):=Zd bL
  generalize upd qc m2 (HO.lst [V.bl (decide (9=iC)),V.bl (decide (10=iC)),V.bl (decide (11=iC))])=nj at rZ oZ
  have rV:aj nj (upd nj p2 (.lst (bo iC 12))):=Zd oZ
  have yp:upd nj p2 (.lst (bo iC 12)) p2=some (.lst (bo iC 12)):=Zc
  generalize EG:upd nj p2 (HO.lst (bo iC 12))=qb at rV yp
  rw[show upd nj p2 (HO.lst (bo iC 9++[V.bl (decide (9=iC)),V.bl (decide (10=iC)),V.bl (decide (11=iC))]))=qb from EG]
  have pA:=rV _ _ (rZ _ _ pB)
  refine⟨_,rfl,_,rfl,e,C,_,_,_,rfl,pA,M.z,fun _ h=>h,gW,_,rfl,e,C,_,_,_,rfl,pA,M.z,fun _ h=>h,lM,_,rfl,e,C,_,_,_,rfl,pA,M.z,fun _ h=>h,fX,(by show 3≤sizeLine;decide),fun m3 eu=> ⟨p2,m3,bo iC 12,_,rfl,rfl,Zd eu _ _ yp,Zc,(by show 12+3≤sizeLine;decide),fun p3 l6=> ?_⟩⟩
  have rY:aj qb (upd qb m3 (.lst [V.bl (decide (12=iC)),V.bl (decide (13=iC)),V.bl (decide (14=iC))])):=Zd eu
  generalize upd qb m3 (HO.lst [V.bl (decide (12=iC)),V.bl (decide (13=iC)),V.bl (decide (14=iC))])=ni at rY l6
  have rT:aj ni (upd ni p3 (.lst (bo iC 15))):=Zd l6
  have yo:upd ni p3 (.lst (bo iC 15)) p3=some (.lst (bo iC 15)):=Zc
  generalize EE:upd ni p3 (HO.lst (bo iC 15))=zP at rT yo
  rw[show upd ni p3 (HO.lst (bo iC 12++[V.bl (decide (12=iC)),V.bl (decide (13=iC)),V.bl (decide (14=iC))]))=zP from EE]
  have DV:=rT _ _ (rY _ _ pA)
  refine⟨_,rfl,e,C,_,_,_,rfl,DV,M.z,fun _ h=>h,M.xv,_,rfl,?_⟩
  refine ay ?_
  refine⟨15,rfl,by decide,by decide,?_⟩
  refine Yn (n:=15) (fun i ys σ H4=>ys=((List.range i).filter fun k=>decide (k=iC)).map (fun k:Nat=>V.int (k:Int))∧H4=zP∧∃v,σ=[v,some (.ref p3)]) ⟨rfl,rfl,none,rfl⟩ ?_ ?_
  ·rintro i ys σ H4 DP ⟨rfl,rfl,v,rfl⟩
   have hm:dW (bo iC 15) (0+(i:Int))=some (V.bl (decide (i=iC))):=by
    rw[Int.zero_add]
    refine YT ?_
    unfold bo
    rw[List.getElem?_map,List.getElem?_range DP]
    rfl
   refine⟨_,rfl,_,rfl,p3,_,_,_,rfl,rfl,ak.of yo,hm,_,rfl,?_⟩
   have er:((List.range (i+1)).filter fun k=>decide (k=iC))=((List.range i).filter fun k=>decide (k=iC))++(if decide (i=iC)=true then [i] else []):=by
    rw[List.range_succ,List.filter_append]
    cases hd:decide (i=iC)<;>simp_all
   cases hd:decide (i=iC) with
   |true=>
    rw[hd]at er
    refine aH ⟨_,rfl,?_,?_,rfl,_,rfl⟩
    ·rw[List.length_map,sizeLine_eq]
     have:=List.length_filter_le (fun k=>decide (k=iC)) (List.range i)
     rw[List.length_range]at this
     omega
    ·rw[er,if_pos rfl,List.map_append,Int.zero_add]
     rfl
   |false=>
    rw[hd]at er
    exact ay ⟨by rw[er,if_neg Bool.false_ne_true,List.append_nil],rfl,_,rfl⟩
  ·rintro ys σ H4 ⟨rfl,rfl,v,rfl⟩ p hp
   have ef:((List.range 15).filter fun k=>decide (k=iC)).map (fun k:Nat=>V.int (k:Int))=[V.int (iC:Int)]:=by
    have c:iC=0∨iC=1∨iC=2∨iC=3∨iC=4∨iC=5∨iC=6∨iC=7∨iC=8∨iC=9∨iC=10∨iC=11∨iC=12∨iC=13∨iC=14:=by omega
    rcases c with rfl |rfl |rfl |rfl |rfl |rfl |rfl |rfl |rfl |rfl |rfl |rfl |rfl |rfl |rfl<;>rfl
   rw[ef]
   have wH:=s1.trans (s2.trans (sa.trans (r8.trans (rX.trans (r6.trans (rW.trans (rZ.trans (rV.trans (rY.trans rT)))))))))
   exact q p _ (wH.trans (Zd hp)) (wH.free hp) Zc
theorem ZG {D:Ends}{σ:L2.St}{H:Hp}(h:D.nx σ H):v7 D σ H:=h
theorem Zi {t u:TS}{D:Ends}{σ:L2.St}{H:Hp}(h:t {D with nx:=u D} σ H):qx t u D σ H:=h
theorem Zu {te:TE}{g:TG}{D:Ends}{σ:L2.St}{H:Hp}(h:te σ H fun v H1=>g v σ H1 D.nx):kK te g D σ H:=h
theorem Zo {i:Nat}{v:V}{σ:L2.St}{H:Hp}{Q:L2.St→Hp→Prop}(h:Q (σ.set i (some v)) H):iJ i v σ H Q:=h
end
section
def z9 (Y:Cx) (cl:List (Str×Addr)) (x:Str) (v:V) (H:Hp) (s:Shared):Prop:=∃c u,cl.lookup x=some c∧s.heap.IsCell c (some u)∧RelV v u∧H c=none∧c∉aA Y.stack
def CD (so si:Scope):Bool:=si.names.all fun z=>z.2 !=.free||so.names.lookup z.1==some .cell||so.names.lookup z.1==some .free
theorem ze {X:Cx}{scope:Scope}(h:CD X.env.scope scope=true):∀z∈scope.names,z.2=.free→X.env.kindOf z.1=some .cell∨X.env.kindOf z.1=some .free:=fun z hz e=>by
 have:=List.all_eq_true.mp h z hz
 simp only[Bool.or_eq_true,bne_iff_ne,ne_eq,beq_iff_eq]at this
 rcases this with (h |h) |h
 ·exact absurd e h
 ·exact .inl h
 ·exact .inr h
end
section
variable {Y:Cx}{pins:List (Addr×Obj)}{σ:L2.St}{H:Hp}{s:Shared}
theorem HH {i:Nat}{x:Str}{v:V}{scope:Scope}(I:Inv Y pins σ H s) (hi:Y.N[i]? =some x) (dz:σ[i]? =some (some v)) (hk:Y.env.scope.names.lookup x=some .cell) (fc:Y.fn x=true) (bT:(x,NameKind.free)∈scope.names):z9 Y (cH scope Y.env) x v H s:=by
 obtain⟨m,hn,hl⟩:=I.loc
 obtain⟨u,r,l⟩:=hl i x v hi dz (.inr (.inl hk))
 obtain⟨c,hc⟩:=JG (env:=Y.env) bT
 have e1:=(Z5 hc).1
 rcases l with ⟨gz,_⟩ |⟨_,c',bM,iE⟩
 ·have:Y.env.scope.names.lookup x=some .local:=gz
  rw[hk]at this
  cases this
 ·rw[bM]at e1
  have e2:c=c':=e1
  subst e2
  refine⟨c,u,hc,iE,r,I.dC x c bM,fun hm=> ?_⟩
  rcases List.mem_cons.mp (I.kN c hm) with z |z
  ·exact I.fA x c bM z
  ·obtain⟨_,o,ho,_⟩:=I.ok.bY.mem z
   exact absurd (Nat.lt_of_lt_of_le (Heap.lt_size ho) (I.ok.gG x c fc bM)) (Nat.lt_irrefl _)
theorem G0 {scope:Scope}{env:Env}{z:Str}{c:Addr}(h:(cH scope env).lookup z=some c):(z,NameKind.free)∈scope.names:=(Z5 h).2
end
section
variable {X:Cx}{cS c P fR:Addr}{kf:Nat}
abbrev lq (X:Cx):Str:=X.env.qual++ "<lambda>"
theorem Z4 {H H':Hp}{P:Addr}{q:Str}(h:TabAt H P q) (s:aj H H'):TabAt H' P q:=by
 obtain⟨ps,h1,h2,h3⟩:=h
 exact⟨ps,s _ _ h1,h2,fun pos cv z=>by obtain⟨d,e,g⟩:=h3 pos cv z;exact⟨d,e,s _ _ g⟩⟩
structure LCtx (X:Cx) (cS c P fR:Addr) (kf:Nat):Prop where
 lam:zM X c P
 hd:vF X
 hR:∀b',Def X.prog X.w X.K X.mg b' (kf+2) "_law_refused" ["_law_call"] (kT X.prog X.w X.K X.mg b' cS (kf+1))
 room:aK (kf+2) X.A
 mR:X.mg "_law_refused" =some (.ref fR)
 kR:PySem.W.keepIn X.K (.ref fR)=true
structure LN (X:Cx) (x:Str) (i:Nat):Prop where
 nx:X.N[i]? =some x
 kx:X.env.scope.names.lookup x=some .cell
 fx:X.fn x=true
structure vC (params:Arguments) (body:Expr) (scope:Scope) (N:List Str):Prop where
 kind:scope.kind=.function
 co:scope.isCoroutine=false
 gen:scope.isGenerator=false
 ek:∀z∈scope.names,z.2≠.cell
 only:∀z∈scope.names,z.2=.free→z.1∈N
 free:∀x∈N,scope.names.lookup x=some .free
 bind:∀(q:Str) (cl:List (Str×Addr)) (pm:Value) (c:Addr) (ct:Value),bindArgs (PySem.W.kla_fn "<lambda>" q params body scope cl pm (.ref c) ct) ⟨[],[]⟩=pure []
def vM (X:Cx) (kf:Nat) (C:Addr) (f:Addr) (q:Str) (bd:Expr) (scope:Scope) (cl:List (Str×Addr)) (N:List Str) (ws:List V) (Pre:Hp→Prop):Prop:=
 ∀(eC:Heap) (cc:Addr) (A:Around) (outer:List Env) (s2:Shared) (H2:Hp) (Q2:VK) (E2:XK),aK kf (A.deeper (PySem.W.envX q scope s2.heap.objs.size f (.ref cc) cl))→Pre H2→(∀e H',aj H2 H'→E2 (.ref e) (some C) H')→
  ∃t,PE (mG X.prog X.w X.K X.mg eC N q scope f (.ref cc) cl A outer s2 H2 E2) bd t∧t (ws.map some) H2 Q2
theorem Ky {pins:List (Addr×Obj)}{σ:L2.St}{H:Hp}{s:Shared}{f C:Addr}{iC:Nat}{q:Str}{params:Arguments}{bd:Expr}{scope:Scope}{cl:List (Str×Addr)}{Q:VK}{N:List Str}{ws:List V}{Pre:Hp→Prop}(L:LCtx X cS c P fR kf)
  (LS:vC params bd scope N) (I:Inv X pins σ H s) (hl:vB H f q params bd scope cl) (hlen:ws.length=N.length) (fe:∀(i:Nat) x v,N[i]? =some x→ws[i]? =some v→z9 X cl x v H s) (pd:∀z c,cl.lookup z=some c→(z,NameKind.free)∈scope.names)
  (DK:∀a b c,cl.lookup a=some c→cl.lookup b=some c→a=b) (hi:iC<15) (M:jC X.K X.mg cS C iC) (bad:vM X kf C f q bd scope cl N ws Pre) (pre:Pre H) (hq:∀l H',aj H H'→H l=none→H' l=some (.lst [.int (iC:Int)])→Q (.ref l) H'):
  wpAny (model X.prog X.w) X.A (call (.ref fR) [.ref f]) (EP X pins σ Q) X.xe s:=by
 obtain⟨eC,st,e0,ba⟩:=I.rebase (L.hd _ _ _ _ I).1 (L.hd _ _ _ _ I).2
 obtain⟨pm,cc,ct,hf,hc⟩:=hl
 have T:Cells eC scope cl N ws:=⟨hlen,fun u hu=>by
   rcases hu with hu |hu
   ·exact absurd rfl (LS.ek _ (PySem.mem_of_lookup hu))
   ·exact LS.only _ (PySem.mem_of_lookup hu) rfl,fun i a v h1 h2=>by
   obtain⟨ax,ux,lx,⟨ox,gx,dx⟩,rx,nx,fx⟩:=fe i a v h1 h2
   exact⟨LS.free a (List.mem_of_getElem? h1),ax,ux,lx,⟨ox,ba _ _ gx nx fx,dx⟩,rx⟩,fun u c h=>LS.only _ (pd u c h) rfl,DK⟩
 have FL:ar X.prog X.w X.K X.mg eC (aG X.prog X.w) (kf+1) f (PySem.W.kla_fn "<lambda>" q params bd scope cl pm (.ref cc) ct) []
   (fun vs H2 Q2 E2=> (vs=[]∧H2 f=some (j8 f q params bd scope cl pm cc ct)∧H2 cc=some (eB cc q))∧Pre H2∧∀e H',aj H2 H'→E2 (.ref e) (some C) H'):=by
  refine HZ (k:=kf) T LS.kind LS.co LS.gen LS.ek (fun vs H2 Q2 E2 h=>h.1) fun A outer s2 H2 Q2 E2 oX h=> ?_
  exact bad eC cc A outer s2 H2 Q2 E2 oX h.2.1 h.2.2
 obtain⟨LY,EY,FR,gb,hk,hb⟩:=L.hR eC
 rw[L.mR]at gb
 cases gb
 refine wpAny_call (codeAny_mono (FR.run X.A X.stack s H ⟨[.ref f],[]⟩ [.ref f] [.ref f] Q E0 L.room e0 (hb s [.ref f] I.aW rfl) (.cons rfl .nil)
  ⟨f,_,_,C,iC,rfl,hi,M,fun h ah=> ?_,FL,fun s2=> .of_eq (LS.bind q cl pm cc ct),fun Q' E' hE=> ⟨⟨rfl,hf,hc⟩,pre,hE⟩,hq⟩) fun r s' h=> ?_)
 ·have z:h.get? f=some _:=(ah f _ hf).1
  exact⟨_,_,_,_,z⟩
 ·cases r with
  |error e=>exact h.elim
  |ok fl=>
   cases fl with
   |ret u=>exact I.after h
   |next=>exact False.elim h
   |brk=>exact False.elim h
   |cont=>exact False.elim h
def vZ (X:Cx) (cS P:Addr) (kf:Nat) (bd:Expr) (scope:Scope) (N:List Str) (idx:List Nat):TE:=fun σ H Q=> ∃(ws:List V) (C:Addr) (iC:Nat) (Pre:Hp→Prop),ws.length=idx.length∧(∀(k i:Nat) v,idx[k]? =some i→ws[k]? =some v→σ[i]? =some (some v))∧TabAt H P (lq X)∧iC<15∧jC X.K X.mg cS C iC∧
 (∀f,vM X kf C f (lq X) bd scope (cH scope X.env) N ws Pre)∧(∀H',aw P H H'→Pre H')∧∀l H',aw P H H'→TabAt H' P (lq X)→H l=none→H' l=some (.lst [.int (iC:Int)])→Q (.ref l) H'
theorem UR {params:Arguments}{scope:Scope}{bd:Expr}{p lp pos:Pos}{N:List Str}{idx:List Nat}(L:LCtx X cS c P fR kf) (LS:vC params bd scope N) (hN:idx.length=N.length) (K0:∀(k:Nat) x i,N[k]? =some x→idx[k]? =some i→LN X x i) (hg:Gl X "_law_refused") (tW:defaultsOf params X.env=([],[]))
  (bT:∀z∈scope.names,z.2=.free→X.env.kindOf z.1=some .cell∨X.env.kindOf z.1=some .free):
  PE X (.Call (.Name "_law_refused" p) [.Lambda params bd scope lp] [] pos) (vZ X cS P kf bd scope N idx):=by
 intro pins s σ H Q I h
 obtain⟨ws,C,iC,Pre,CZ,dz,tab,hi,M,bad,pre,q⟩:=h
 refine wpAny_Call_Name_kw (Yo I hg L.mR ?_ (by decide))
 have ha:PA X [.Lambda params bd scope lp] _:=Za (GH L.lam tW bT) Zb
 refine PySem.W.callWith_K (h₀:=X.base) I.ok.mod.gU L.kR (ao (ha pos pins s σ H (fun vs H1=> ∃f,vs=[.ref f]∧aw P H H1∧TabAt H1 P (lq X)∧vB H1 f (lq X) params bd scope (cH scope X.env)) I ⟨tab,fun f H1 sx nf t1 l1=> ⟨f,rfl,sx,t1,l1⟩⟩) fun us s1 ⟨vs,H1,I1,r,f,ev,sx,t1,l1⟩=> ⟨I1.aW,?_⟩) rfl rfl
 subst ev
 obtain⟨u,rfl,ru⟩:=vals1 r
 cases ru
 refine Ky L LS I1 l1 (by rw[CZ,hN]) (fun i x v h1 h2=> ?_) (fun z c h=>G0 h) (fun a b c h1 h2=> ?_) hi M (bad f) (pre H1 sx) fun l H2 s2 nl hl=>q l H2 (sx.trans s2.x) (Z4 t1 s2) ?_ hl
 ·have hi:i<idx.length:=by
   have:=(List.getElem?_eq_some_iff.mp h1).1
   omega
  have ei:=List.getElem?_eq_getElem hi
  have n:=K0 i x _ h1 ei
  exact HH I1 n.nx (dz i _ v ei h2) n.kx n.fx (PySem.mem_of_lookup (LS.free x (List.mem_of_getElem? h1)))
 obtain⟨e1,m1⟩:=Z5 h1
 obtain⟨e2,m2⟩:=Z5 h2
 obtain⟨c1,g1⟩:=I1.ok.has a (bT _ m1 rfl)
 obtain⟨c2,g2⟩:=I1.ok.has b (bT _ m2 rfl)
 rw[g1]at e1
 rw[g2]at e2
 have z1:c1=c2:=by
  have y1:_=c1:=e1
  have y2:_=c2:=e2
  rw[←y1,←y2]
 subst z1
 exact I1.ok.inj _ _ _ g1 g2
 cases hh:H l with
 |none=>rfl
 |some u=>
  by_cases z:l=P
  ·obtain⟨ps,e,_⟩:=t1
   rw[z,e]at nl;cases nl
  ·rw[sx _ _ hh z]at nl;cases nl
end
section
theorem WC {H H':Hp}{P p:Addr}{q:Str}{o:HO}(h:TabAt H P q) (s:aw p H H') (hp:H p=some o) (h1:∀ps,o≠.bt ps) (h2:∀c,o≠eB c q):TabAt H' P q:=by
 obtain⟨ps,e,t,f⟩:=h
 refine⟨ps,s _ _ e fun z=>by rw[z,hp]at e;cases e;exact h1 _ rfl,t,fun pos cv z=> ?_⟩
 obtain⟨d,e1,e2⟩:=f pos cv z
 exact⟨d,e1,s _ _ e2 fun z=>by rw[z,hp]at e2;cases e2;exact h2 _ rfl⟩
abbrev iu:Arguments:= {posonlyargs:=[],args:=[],vararg:=none,kwonlyargs:=[],kw_defaults:=[],kwarg:=none,defaults:=[]}
end
end U
namespace U.T
open PySem L2 PyProof.Rows
section
theorem Aw {t u:TS}{D:Ends}{σ:L2.St}{H:Hp}(R:L2.St→Hp→Prop) (h2:∀af H',R af H'→u D af H') (h1:∀D':Ends,(∀af H',R af H'→D'.nx af H')→t D' σ H):qx t u D σ H:=h1 _ h2
end
end U.T
namespace L2
open PySem PySem.Spec PyProof.Rows
theorem HX {a b:Key}(h:kV a=kV b):a=b:=by
 cases a<;>cases b<;>first |(cases h;rfl) |cases h
theorem DC.yy:∀{ps qs:List (Key×V)},DC.fh ps=DC.fh qs→ps=qs
 | [],[],_=>rfl
 | [],q::qs,h=>by cases h
 |p::ps,[],h=>by cases h
 |(a,v)::ps,(b,w)::qs,h=>by
  have h':kV a::v::DC.fh ps=kV b::w::DC.fh qs:=h
  injection h' with h1 h2
  injection h2 with h2 h3
  rw[HX h1,h2,DC.yy h3]
theorem JQ {j:Nat}(h:j<1000):((j:Int)).natAbs.log2<1920:=by
 rw[Int.natAbs_natCast]
 by_cases h0:j=0
 ·subst h0;decide
 ·exact(Nat.log2_lt h0).mpr (Nat.lt_of_lt_of_le h (Nat.le_trans (by decide:1000≤2^10) (Nat.pow_le_pow_right (by decide) (by decide))))
end L2
namespace U
open PySem L2 PyProof.Rows
def iq (n:Nat):List (Key×V):=(List.range n).map fun(k:Nat)=> (.inr (Str.ofString (toString (k:Int))),.int (k:Int))
theorem IY (n:Nat):iq (n+1)=iq n++[(.inr (Str.ofString (toString (n:Int))),.int (n:Int))]:=by
 unfold iq
 rw[List.range_succ,List.map_append]
 rfl
def dt (z:Str):V:=(bh (DC.fg (iq 100)) (.inr z)).getD .ae
section
variable {P:Program}{w:World}{K:PySem.W.Frag}{mg:Str→Option Value}{base:Heap}
abbrev rL:Stmt:=top 46
theorem wB:aF ["word", "numbers"] ["word"] (aq rL):=⟨rfl,rfl,rfl,by decide+kernel,rfl,by decide+kernel,by decide+kernel⟩
def qG:Sp:=fun vs H Q _=> ∃z:Str,vs=[.str z]∧∀H',aj H H'→Q (dt z) H'
theorem Hq {f:Addr}{fd:FuncData}(F:az K "number_of" "number_of" rL f fd) (G:Gs mg):ar P w K mg base aC 1 f fd ["word"] qG:=by
 refine F.ok wB (fun vs H Q E h=> ?_) (fun ai A outer s H vs Q E hr h=> ?_)
 ·obtain⟨z,rfl,_⟩:=h
  rfl
 ·obtain⟨z,rfl,q⟩:=h
  have hu:=UZ hr
  refine⟨_,Ze (DC.B0 (elt:=(_,_)) ["number"] 1 [] (i:=1) wB.nd rfl (Or.inl rfl) (Z3 rfl G.range (Za Zf Zb)) (fun C s H fp=>pb 0) (fun C s H fp=>ZV) (fun C s H fp D=>DC.dr rfl (Zr Zp rfl G.str PyProof.Rows.Boot.«str» (Za (pv 0) Zb)) (pv 0)))
   (Zj (Zv (Kp hu (pv 1) (pv 0) ⟨rfl,rfl,rfl,rfl⟩))),?_⟩
  refine Zi (Zu ⟨100,rfl,by decide,by decide,?_⟩)
  refine Yn (n:=(100:Int).toNat) (fun j ys af H'=>H'=H∧ys=DC.fh (iq j)∧∃v,af=[v]) ⟨rfl,rfl,none,rfl⟩ ?_ ?_
  ·rintro j ys af H' hj ⟨rfl,rfl,v,rfl⟩
   have LL:j<100:=hj
   rw[Int.zero_add]
   refine Zo ?_
   dsimp only[List.set]
   try unfold jM
   refine aH ⟨_,rfl,(j:Int),rfl,JQ (by omega),_,rfl,.inr (Str.ofString (toString (j:Int))),rfl,?_,rfl,?_,_,rfl⟩
   ·rw[DC.yx]
    unfold iq
    rw[List.length_map,List.length_range,sizeLine_eq]
    omega
   ·rw[IY,DC.yw]
  ·rintro ys af H' ⟨rfl,rfl,v,rfl⟩ ps ep D hD
   have mz:=DC.yy ep
   subst mz
   refine Zo ?_
   dsimp only[List.set]
   have m:=Zd (o:=.dK (DC.fg (iq (100:Int).toNat))) hD
   exact⟨_,rfl,D,rfl,.inl ⟨_,.inl Zc⟩,_,rfl,_,nu.k (k:=.inr z) Zc,q _ m⟩
end
def de:V→Str
 | .int r=>Str.ofString (toString r)
 |_=> "."
def gf (wd hg:Int):Str:=Str.ofString (toString wd)++ "x" ++Str.ofString (toString hg)++ ":"
def dw (wd hg:Int) (xs:List V):Str:=Txt.join " " (gf wd hg::xs.map de)
theorem JC (sep:Str):∀(ws:List Str) (h:Str),(⟨ws.foldl (fun acc p=>acc++sep.cps++p.cps) h.cps⟩:Str)=ws.foldl (fun t w=>t++sep++w) h
 | [],h=>rfl
 |w::ws,h=>JC sep ws (h++sep++w)
theorem Yj (sep h:Str) (ws:List Str):Txt.join sep (h::ws)=ws.foldl (fun t w=>t++sep++w) h:=JC sep ws h
theorem IM (sep h:Str) (ws:List Str) (w:Str):Txt.join sep (h::(ws++[w]))=Txt.join sep (h::ws)++sep++w:=by
 rw[Yj,Yj,List.foldl_append]
 rfl
theorem Z8 {n:Int}(h0:0≤n) (h:n≤12):(Str.ofString (toString n)).length≤2:=by
 have c:n=0∨n=1∨n=2∨n=3∨n=4∨n=5∨n=6∨n=7∨n=8∨n=9∨n=10∨n=11∨n=12:=by omega
 rcases c with rfl |rfl |rfl |rfl |rfl |rfl |rfl |rfl |rfl |rfl |rfl |rfl |rfl<;>decide
theorem WW (sep:Str):∀ws:List Str,(∀w∈ws,w.length≤20)→(ws.map (·.length)).sum≤20*ws.length
 | [],_=>Nat.le_refl _
 |w::ws,h=>by
  have h1:=h w List.mem_cons_self
  have h2:=WW sep ws fun u hu=>h u (List.mem_cons_of_mem _ hu)
  rw[List.map_cons,List.sum_cons,List.length_cons]
  omega
theorem HW {ws:List Str}(h:∀w∈ws,w.length≤20) (hl:ws.length≤1000):JoinOk " " ws=true:=by
 unfold JoinOk Builtin.Str.tooLong
 rw[StrLaws.joinTotal]
 have h1:=WW " " ws h
 have h2:(Str.ofString " ").length=1:=by decide
 rw[h2,decide_eq_false (by rw[sizeLine_eq];omega)]
 rfl
theorem Wk {wd hg:Int}{xs:List V}(ly:bD wd hg xs) (g:hg≤12):∀w∈xs.map de,w.length≤20:=fun w hw=>by
 obtain⟨v,hv,rfl⟩:=List.mem_map.mp hw
 by_cases hn:v=.ae
 ·subst hn;decide
 ·have hm:v∈rowsOf xs:=List.mem_filter.mpr ⟨hv,by simp[hn]⟩
  have q:=ly.row v hm
  cases v with
  |int r=>
   have q':(decide (0≤r)&&decide (r≤hg - 1))=true:=q
   rw[Bool.and_eq_true,decide_eq_true_eq,decide_eq_true_eq]at q'
   have:=Z8 (n:=r) q'.1 (by omega)
   show(Str.ofString (toString r)).length≤20
   omega
  |_=>show(Str.ofString ".").length≤20;decide
theorem W0 {wd hg:Int}(w1:1≤wd) (gn:wd≤12) (g1:1≤hg) (ff:hg≤12):(gf wd hg).length≤6:=by
 have h1:=Z8 (n:=wd) (by omega) gn
 have h2:=Z8 (n:=hg) (by omega) ff
 have h3:(Str.ofString "x").length=1:=by decide
 have h4:(Str.ofString ":").length=1:=by decide
 unfold gf
 rw[Str.length_append,Str.length_append,Str.length_append]
 omega
theorem ZE {i:Int}(h0:0≤i) (h:i<1000):i.natAbs.log2<1920:=by
 obtain⟨j,rfl⟩:∃j:Nat,i=j:=⟨i.toNat,by omega⟩
 exact JQ (by omega)
section
variable {P:Program}{w:World}{K:PySem.W.Frag}{mg:Str→Option Value}{base:Heap}
abbrev rQ:Stmt:=top 47
theorem wC:aF ["board", "lay", "rows"] ["board", "lay"] (aq rQ):=⟨rfl,rfl,rfl,by decide+kernel,rfl,by decide+kernel,by decide+kernel⟩
def jT:Sp:=fun vs H Q _=> ∃(b l:Addr) (wd hg:Int) (xs:List V),vs=[.ref b,.ref l]∧cY H (.ref b) wd hg∧H l=some (.tup xs)∧bD wd hg xs∧∀H',aj H H'→Q (.str (dw wd hg xs)) H'
theorem Gp {f:Addr}{fd:FuncData}(F:az K "lay_text" "lay_text" rQ f fd) (G:Gs mg) (vI:Def P w K mg base 6 "need_lay" ["board", "lay"] nO):ar P w K mg base aC 7 f fd ["board", "lay"] jT:=by
 refine F.ok wC (fun vs H Q E h=> ?_) (fun ai A outer s H vs Q E hr h=> ?_)
 ·obtain⟨b,l,wd,hg,xs,rfl,_⟩:=h
  rfl
 ·obtain⟨b,l,wd,hg,xs,rfl,bd,hl,ly,q⟩:=h
  refine⟨_,Ze (ZS (Zk vI hr (Za (pv 0) (Za (pv 1) Zb))))
   (Ze (Yl ["row"] 1 [] (i:=2) wC.nd rfl (Or.inl rfl) (Jq (pv 1)) (fun C s H fp=>pb 0) (fun C s H fp=>ZV) (fun C s H fp D=>dr rfl (Js (Jp (Uw (pv 0))) Zl (Zr Zp rfl G.str PyProof.Rows.Boot.«str» (Za (pv 0) Zb)))))
   (Zj (Zv (JS PySem.F.plainAttrs_str PySem.F.slot_str_join PySem.F.type_str_join Ib Zl (Za (Zm ZW (Zq (Za (Kq (Zz ZI (pv 0) Zf (fun _ _=>rfl)) Zl (Zz ZI (pv 0) Zf (fun _ _=>rfl)) Zl) Zb)) (pv 2)) Zb))))),?_⟩
  refine Zi ⟨_,rfl,_,rfl,.ref b,.ref l,wd,hg,xs,rfl,⟨bd,ZH hl,ly⟩,fun H1 s1=> ?_⟩
  dsimp only
  have bS:=s1 _ _ hl
  obtain⟨b',eb,hb⟩:=Zy bd.1
  cases eb
  obtain⟨_,w1,gn,g1,ff⟩:=id bd
  have hlen:=ly.len
  refine Zi (Zu ⟨_,rfl,l,rfl,⟨_,au.of bS⟩,?_⟩)
  refine YM (xs:=xs) (fun j ys af H'=>H'=H1∧ys=((xs.take j).map de).map V.str∧∃v,af=[v]) ⟨rfl,rfl,none,rfl⟩ (fun j ys af H' _ ⟨e,_⟩=>by rw[e];exact au.of bS) ?_ ?_
  ·rintro j y ys af H' hy ⟨rfl,rfl,v,rfl⟩
   have hj:=(List.getElem?_eq_some_iff.mp hy).1
   refine Zo ?_
   dsimp only[List.set]
   try unfold jM
   have ln:(List.map V.str (List.map de (List.take j xs))).length<sizeLine:=by rw[List.length_map,List.length_map,List.length_take,sizeLine_eq];omega
   have es:((xs.take (j+1)).map de).map V.str=((xs.take j).map de).map V.str++[V.str (de y)]:=by rw[List.take_add_one,hy,List.map_append,List.map_append];rfl
   refine aH ⟨_,rfl,_,rfl,?_⟩
   rcases ly.ok y (List.mem_of_getElem? hy) with rfl |⟨r,rfl⟩
   ·exact aH ⟨ln,rfl,es.symm,_,rfl⟩
   ·have hm:V.int r∈rowsOf xs:=List.mem_filter.mpr ⟨List.mem_of_getElem? hy,by simp⟩
    have q':(decide (0≤r)&&decide (r≤hg - 1))=true:=ly.row _ hm
    rw[Bool.and_eq_true,decide_eq_true_eq,decide_eq_true_eq]at q'
    exact ay ⟨_,rfl,r,rfl,ZE q'.1 (by omega),ln,rfl,es.symm,_,rfl⟩
  ·rintro ys af H' ⟨rfl,rfl,v,rfl⟩ L hL
   rw[List.take_length]
   have m1:=Zd (o:=.lst ((xs.map de).map V.str)) hL
   have e1:upd H' L (.lst ((xs.map de).map V.str)) L=some (.lst ((xs.map de).map V.str)):=Zc
   generalize upd H' L (.lst ((xs.map de).map V.str))=H2 at m1 e1
   refine Zo ?_
   dsimp only[List.set]
   have fw:=m1 _ _ (s1 _ _ hb)
   have a1:=Z8 (n:=wd) (by omega) gn
   have a2:=Z8 (n:=hg) (by omega) ff
   have a3:(Str.ofString "x").length=1:=by decide
   have a4:(Str.ofString ":").length=1:=by decide
   have a5:Str.empty.length=0:=by decide
   refine⟨rfl,?_⟩
   refine⟨_,rfl,b,_,_,_,rfl,rfl,au.of fw,eE,wd,rfl,ZE (by omega) (by omega),by rw[Str.length_append,sizeLine_eq];omega,_,rfl,by rw[Str.length_append,Str.length_append,sizeLine_eq];omega,_,rfl,b,_,_,_,rfl,rfl,au.of fw,cI,hg,rfl,ZE (by omega) (by omega),by rw[Str.length_append,Str.length_append,Str.length_append,sizeLine_eq];omega,_,rfl,by rw[Str.length_append,Str.length_append,Str.length_append,Str.length_append,sizeLine_eq];omega,?_⟩
   have eh:Str.empty++Str.ofString (toString wd)++ "x" ++Str.ofString (toString hg)++ ":" =gf wd hg:=by
    unfold gf
    rw[Str.empty_append]
   rw[eh]
   refine⟨(by show 1≤sizeLine;decide),fun d hd=> ?_⟩
   have m2:=Zd (o:=.lst [V.str (gf wd hg)]) hd
   refine⟨_,rfl,d,L,_,_,rfl,rfl,Zc,m2 _ _ e1,by rw[List.length_map,List.length_map,sizeLine_eq];show 1+xs.length≤_;omega,fun d2 hd2=> ?_⟩
   have m3:=Zd (o:=.lst ([V.str (gf wd hg)]++(xs.map de).map V.str)) hd2
   refine⟨" ",d2,gf wd hg::xs.map de,rfl,rfl,ak.of Zc,HW (fun u hu=> ?_) (by rw[List.length_cons,List.length_map];omega),q _ (s1.trans (m1.trans (m2.trans m3)))⟩
   rcases List.mem_cons.mp hu with rfl |hu
   ·have:=W0 w1 gn g1 ff;omega
   ·exact Wk ly ff u hu
end
section
variable {P:Program}{w:World}{K:PySem.W.Frag}{mg:Str→Option Value}{base:Heap}{cB cL:Addr}
abbrev rq:Stmt:=top 71
theorem nY:aF ["_law_board_here", "_law_lay_here", "_law_text_here", "_law_row"] ["_law_board_here", "_law_lay_here"] (aq rq):=⟨rfl,rfl,rfl,by decide+kernel,rfl,by decide+kernel,by decide+kernel⟩
theorem WU (wd hg:Int) {xs:List V}{j:Nat}{y:V}(h:xs[j]? =some y):dw wd hg (xs.take (j+1))=dw wd hg (xs.take j)++ " " ++de y:=by
 unfold dw
 rw[List.take_add_one,h]
 show Txt.join " " (gf wd hg::(xs.take j++[y]).map de)=_
 rw[List.map_append]
 exact IM " " (gf wd hg) ((xs.take j).map de) (de y)
theorem JB {wd hg:Int}{xs:List V}(w1:1≤wd) (gn:wd≤12) (g1:1≤hg) (ff:hg≤12) (ly:bD wd hg xs):∀j,j≤xs.length→(dw wd hg (xs.take j)).length≤6+21*j
 |0,_=>by
  have:=W0 w1 gn g1 ff
  show(Txt.join " " [gf wd hg]).length≤_
  rw[Yj]
  exact this
 |j+1,hj=>by
  have ih:=JB w1 gn g1 ff ly j (by omega)
  have hy:xs[j]? =some xs[j]:=List.getElem?_eq_getElem (by omega)
  have hr:=Wk ly ff _ (List.mem_map_of_mem (List.mem_of_getElem? hy))
  have h1:(Str.ofString " ").length=1:=by decide
  rw[WU wd hg hy,Str.length_append,Str.length_append]
  omega
theorem Hx {f:Addr}{fd:FuncData}(F:az K "_law_text" "_law_text" rq f fd) (G:Gs mg):ar P w K mg base aC 1 f fd ["_law_board_here", "_law_lay_here"] jT:=by
 refine F.ok nY (fun vs H Q E h=> ?_) (fun ai A outer s H vs Q E hr h=> ?_)
 ·obtain⟨b,l,wd,hg,xs,rfl,_⟩:=h
  rfl
 ·obtain⟨b,l,wd,hg,xs,rfl,bd,hl,ly,q⟩:=h
  refine⟨_,Ze (Zx (i:=2) nY.nd rfl (Or.inl rfl) (Zm Zs (Zm Zs (Zm Zs (Zr Zp rfl G.str PyProof.Rows.Boot.«str» (Za (Zz ZI (pv 0) Zf (fun _ _=>rfl)) Zb)) Zl) (Zr Zp rfl G.str PyProof.Rows.Boot.«str» (Za (Zz ZI (pv 0) Zf (fun _ _=>rfl)) Zb))) Zl))
   (Ze (Wo PassesOwn.never rfl (Jq (pv 1)) (ZK (i:=3) nY.nd rfl (Or.inl rfl))
    (Zj (Zx (i:=2) nY.nd rfl (Or.inl rfl) (Zm Zs (Zm Zs (pv 2) Zl) (Js (Jp (Uw (pv 3))) Zl (Zr Zp rfl G.str PyProof.Rows.Boot.«str» (Za (pv 3) Zb)))))))
   (Zj (Zv (pv 2)))),?_⟩
  obtain⟨b',eb,hb⟩:=Zy bd.1
  cases eb
  obtain⟨_,w1,gn,g1,ff⟩:=id bd
  have hlen:=ly.len
  have a1:=Z8 (n:=wd) (by omega) gn
  have a2:=Z8 (n:=hg) (by omega) ff
  have a3:(Str.ofString "x").length=1:=by decide
  have a4:(Str.ofString ":").length=1:=by decide
  have a5:(Str.ofString " ").length=1:=by decide
  refine Zi (Zu ?_)
  refine⟨_,rfl,b,_,_,_,rfl,rfl,au.of hb,eE,wd,rfl,ZE (by omega) (by omega),_,_,rfl,rfl,by rw[sizeLine_eq];omega,_,rfl,b,_,_,_,rfl,rfl,au.of hb,cI,hg,rfl,ZE (by omega) (by omega),_,_,rfl,rfl,by rw[Str.length_append,sizeLine_eq];omega,_,_,rfl,rfl,by rw[Str.length_append,Str.length_append,sizeLine_eq];omega,Zo ?_⟩
  dsimp only[List.set]
  refine Zi ⟨_,rfl,l,rfl,⟨xs,au.of hl⟩,?_⟩
  refine ID (xs:=xs) (fun i σ H'=> ∃v3,σ=[some (.ref b),some (.ref l),some (.str (dw wd hg (xs.take i))),v3]∧H'=H) ⟨none,?_,rfl⟩ (fun i σ H' _ ⟨_,_,s'⟩=>by rw[s'];exact au.of hl) ?_ ?_
  ·rfl
  ·rintro i y σ H2 hy ⟨v3,rfl,rfl⟩
   have hi:=(List.getElem?_eq_some_iff.mp hy).1
   have hL:=JB w1 gn g1 ff ly i (by omega)
   have es:=WU wd hg hy
   have hr:=Wk ly ff _ (List.mem_map_of_mem (List.mem_of_getElem? hy))
   refine Zo ?_
   dsimp only[List.set]
   refine Zu ?_
   refine⟨_,rfl,_,_,rfl,rfl,by rw[sizeLine_eq];omega,_,rfl,_,rfl,?_⟩
   rcases ly.ok y (List.mem_of_getElem? hy) with rfl |⟨r,rfl⟩
   ·exact aH ⟨_,_,rfl,rfl,by rw[Str.length_append,sizeLine_eq];have:(Str.ofString ".").length=1:=(by decide);omega,Zo ⟨_,by rw[es];rfl,rfl⟩⟩
   ·have hm:V.int r∈rowsOf xs:=List.mem_filter.mpr ⟨List.mem_of_getElem? hy,by simp⟩
    have q':(decide (0≤r)&&decide (r≤hg - 1))=true:=ly.row _ hm
    rw[Bool.and_eq_true,decide_eq_true_eq,decide_eq_true_eq]at q'
    have fZ:(Str.ofString (toString r)).length≤20:=hr
    exact ay ⟨_,rfl,r,rfl,ZE q'.1 (by omega),_,_,rfl,rfl,by rw[Str.length_append,sizeLine_eq];omega,Zo ⟨_,by rw[es];rfl,rfl⟩⟩
  ·rintro σ H2 ⟨v3,rfl,rfl⟩
   rw[List.take_length]
   exact⟨_,rfl,q _ (aj.refl _)⟩
end
theorem W1:∀(ps d:List (Key×V)),(∀p∈ps,∃i,p.2=V.int i)→(∀j y,bh d j=some y→∃i,y=V.int i)→∀j y,bh (ps.foldl (fun d p=>putK d p.1 p.2) d) j=some y→∃i,y=V.int i
 | [],d,_,h=>h
 |p::ps,d,h,hd=>by
  refine W1 ps _ (fun q hq=>h q (List.mem_cons_of_mem _ hq)) fun j y e=> ?_
  rw[IF]at e
  split at e
  ·cases e;exact h p List.mem_cons_self
  ·exact hd j y e
theorem IZ (z:Str):dt z=.ae∨∃i,dt z=.int i:=by
 unfold dt
 cases h:bh (DC.fg (iq 100)) (.inr z) with
 |none=>exact .inl rfl
 |some y=>
  refine .inr (W1 _ [] (fun p hp=> ?_) (fun j y e=>by cases e) _ _ h)
  obtain⟨k,_,rfl⟩:=List.mem_map.mp hp
  exact⟨_,rfl⟩
theorem HV (sep:Str) (ws:List Str):Txt.join sep ws=Str.join sep ws:=StrLaws.glued_eq_join sep ws
theorem zv:(" " :Str)=⟨#[32]⟩:=by decide+kernel
end U
namespace L2
open PySem PySem.StrLaws
theorem JT (x:Str) (w:Nat):∀(yY:List Nat) (a:Nat),(partsFrom x w a yY).length=yY.length+1
 | [],a=>rfl
 |c::r,a=>congrArg (· +1) (JT x w r _)
theorem Ig (z:Str) (c:Nat):Builtin.Str.occurrences z ⟨#[c]⟩ 0 z.length (z.length+1)=(List.range' 0 (z.length+1)).filter (dg z ⟨#[c]⟩ z.length):=by
 have hw:(⟨#[c]⟩:Str).length=1:=rfl
 rw[occ_eq,Nat.sub_zero,Jf hw z.length (z.length+1) (z.length+1) 0 (#[],0) (Nat.le_refl _) (by show 0+(z.length+1)≤_;omega)]
 rfl
theorem Uj (z:Str) (c:Nat):(Builtin.Str.partsBetween z (Builtin.Str.occurrences z ⟨#[c]⟩ 0 z.length (z.length+1)) (⟨#[c]⟩:Str).length).length≤z.length+2:=by
 rw[partsBetween_eq,JT,Ig]
 have:=List.length_filter_le (dg z ⟨#[c]⟩ z.length) (List.range' 0 (z.length+1))
 rw[List.length_range']at this
 omega
theorem IA (c:Nat):∀l:List Nat,cG c l≠[]
 | [],h=>by cases h
 |d::l,h=>by
  unfold cG at h
  split at h
  ·cases h
  ·split at h<;>cases h
theorem J8 (c:Nat):∀(l:List Nat),(cG c l).length≤l.length+1
 | []=>Nat.le_refl _
 |d::l=>by
  have ih:=J8 c l
  unfold cG
  split
  ·exact Nat.succ_le_succ ih
  ·split
   ·rename_i q r e
    rw[e]at ih
    exact Nat.le_succ_of_le ih
   ·exact Nat.succ_le_succ (Nat.zero_le _)
theorem Kz {z:Str}{c:Nat}(hc:c<256):∃h r,Txt.split z ⟨#[c]⟩=h::r:=by
 have e:=Yy (z:=z) hc
 cases hs:Txt.split z ⟨#[c]⟩ with
 |nil=>rw[hs]at e;exact absurd e.symm (IA c _)
 |cons h r=>exact⟨h,r,rfl⟩
theorem Ke {z:Str}{c:Nat}(hc:c<256):(Txt.split z ⟨#[c]⟩).length≤z.length+1:=by
 have e:=congrArg List.length (Yy (z:=z) hc)
 rw[List.length_map]at e
 rw[e]
 have:=J8 c z.cps.toList
 rw[Array.length_toList]at this
 exact this
end L2
namespace U
open PySem L2 PyProof.Rows
def jZ:List (Key×V):=[(.inr "board",.int 2),(.inr "put",.int 2),(.inr "take",.int 1),(.inr "back",.int 0),(.inr "shown",.int 0),(.inr "like",.int 0),(.inr "free",.int 1),(.inr "many",.int 0),(.inr "first",.int 0)]
def ja (z:Str):V:=(bh jZ (.inr z)).getD .ae
def vz (ns:List V):Prop:=∀v∈ns,v=.ae∨∃i:Int,v=.int i
def dv (z:Str) (ns:List V):Bool:=decide (ja z=.int ns.length)&&(!dy .ae ns&&(!decide (z= "board")||jc (some ns)))
theorem UA (z:Str):ja z=.ae∨∃i:Int,ja z=.int i:=by
 unfold ja
 cases e:bh jZ (.inr z) with
 |none=>exact .inl rfl
 |some v=>
  refine .inr ?_
  unfold bh at e
  obtain⟨kv,h1,rfl⟩:=Option.map_eq_some_iff.mp e
  have m:=List.mem_of_find?_eq_some h1
  unfold jZ at m
  simp only[List.mem_cons,List.not_mem_nil,or_false]at m
  rcases m with rfl |rfl |rfl |rfl |rfl |rfl |rfl |rfl |rfl<;>exact⟨_,rfl⟩
section
variable {P:Program}{w:World}{K:PySem.W.Frag}{mg:Str→Option Value}{base:Heap}
abbrev rO:Stmt:=top 61
theorem Bq:aF ["word", "numbers"] ["word", "numbers"] (aq rO):=⟨rfl,rfl,rfl,by decide+kernel,rfl,by decide+kernel,by decide+kernel⟩
inductive qI (vs:List V) (H:Hp) (Q:VK) (E:XK):Prop
 |mk (z:Str) (L:Addr) (ns:List V) (ev:vs=[.str z,.ref L]) (hl:H L=some (.lst ns)) (ok:vz ns) (br:ns.length≤1000) (q:∀H',aj H H'→Q (.bl (dv z ns)) H')
theorem Gq {f aM:Addr}{fd:FuncData}(F:az K "makes_line" "makes_line" rO f fd) (G:Gs mg) (mM:mg "MANY_NUMBERS" =some (.ref aM)) (dM:fE K w aM jZ) (K9:Def P w K mg base 3 "is_board" ["thing"] (nW K)):ar P w K mg base aC 4 f fd ["word", "numbers"] qI:=by
 refine F.ok Bq (fun vs H Q E h=> ?_) (fun ai A outer s H vs Q E hr h=> ?_)
 ·obtain⟨z,L,ns,rfl,_⟩:=h
  rfl
 ·obtain⟨z,L,ns,rfl,hl,ok,br,q⟩:=h
  refine⟨_,Ze (ZN (PW.pt (Y3 (Zw WL (Ka (ZF (v:=.ref aM) rfl mM rfl) (pv 0) ⟨rfl,rfl,rfl,rfl⟩) (Zn ZD rfl G.len boot_len (Za (pv 1) Zb)) (bw _)) (Yp (Zw JV Yc (pv 1) rfl)))) (Zj (Zv Y4)) ZA)
   (Zj (Zv (GW (Je WL (pv 0) Zl (bw _)) (YA (Zk K9 hr (Za (Zr Yx rfl G.tuple PyProof.Rows.Boot.«tuple» (Za (pv 1) Zb)) Zb)))))),?_⟩
  have hs:qW (ja z) (.int ns.length)=true:=by rcases UA z with h |⟨i,h⟩<;>rw[h]<;>rfl
  have fl:ns.all gE=true:=List.all_eq_true.mpr fun v hv=>by rcases ok v hv with rfl |⟨i,rfl⟩<;>rfl
  refine Zi ⟨aM,jZ,rfl,dM,_,rfl,.inr z,rfl,_,rfl,L,ns,rfl,.inl (ak.of hl),hs,_,rfl,?_⟩
  show if (!decide (ja z=.int ns.length))=true then _ else _
  cases e1:decide (ja z=.int ns.length) with
  |false=>
   have em:dv z ns=false:=by unfold dv;rw[e1];rfl
   rw[em]at q
   exact aH (aH (q H (aj.refl H)))
  |true=>
   refine ay ⟨_,rfl,L,ns,rfl,.inl (ak.of hl),rfl,fl,_,rfl,?_⟩
   cases e2:dy .ae ns with
   |true=>
    have em:dv z ns=false:=by unfold dv;rw[e1,e2];rfl
    rw[em]at q
    exact aH (q H (aj.refl H))
   |false=>
    refine ay (ZG ?_)
    dsimp only
    refine⟨_,rfl,rfl,_,rfl,?_⟩
    show if (!decide (V.str z=V.str "board"))=true then _ else _
    have ez:decide (V.str z=V.str "board")=decide (z= "board"):=by
     by_cases e:z= "board"
     ·rw[e,decide_eq_true rfl,decide_eq_true rfl]
     ·rw[decide_eq_false e,decide_eq_false fun q=>e (by injection q)]
    rw[ez]
    cases e3:decide (z= "board") with
    |false=>
     have em:dv z ns=true:=by unfold dv;rw[e1,e2,e3];rfl
     rw[em]at q
     exact aH (q H (aj.refl H))
    |true=>
     have em:dv z ns=jc (some ns):=by unfold dv;rw[e1,e2,e3];simp
     rw[em]at q
     refine ay ⟨_,rfl,L,ns,rfl,.inl ⟨ak.of hl,fun t ht=> ?_⟩⟩
     have s1:=Zd (o:=.tup ns) ht
     have e4:upd H t (.tup ns) t=some (.tup ns):=Zc
     generalize upd H t (HO.tup ns)=H1 at s1 e4
     refine⟨.ref t,rfl,?_,fun H2 s2=> ?_⟩
     ·refine⟨⟨_,.tup e4⟩,fun xs ex y hy=> ?_⟩
      rw[ZH e4]at ex
      cases ex
      rcases ok y hy with rfl |⟨i,rfl⟩
      ·exact⟨_,.ae⟩
      ·exact⟨_,.int i⟩
     ·rw[ZH e4]
      exact q H2 (s1.trans s2)
end
theorem He (K:PySem.W.Frag):PySem.W.kitOne K (.type "str") (.type "str")=some true:=by rfl
abbrev kz:List Value:=[.type "ValueError",.type "Exception",.type "BaseException",.type "object"]
def cf (z:Str):Str:=(Txt.split z ⟨#[32]⟩).headD Str.empty
def bV (z:Str):List V:=(Txt.split z ⟨#[32]⟩).tail.map dt
theorem Ie (z:Str):vz (bV z):=fun v hv=>by
 obtain⟨u,_,rfl⟩:=List.mem_map.mp hv
 exact IZ u
section
variable {P:Program}{w:World}{K:PySem.W.Frag}{mg:Str→Option Value}{base:Heap}
abbrev rE:Stmt:=top 62
abbrev Ci:List Str:=["line", "word", "others", "numbers"]
theorem nZ:aF Ci ["line"] (aq rE):=⟨rfl,rfl,rfl,by decide+kernel,rfl,by decide+kernel,by decide+kernel⟩
inductive jR (K:PySem.W.Frag) (cL:Addr) (vs:List V) (H:Hp) (Q:VK) (E:XK):Prop
 |txt (z:Str) (ev:vs=[.str z]) (hz:z.length≤1000) (good:dv (cf z) (bV z)=true→∀(t L:Addr) (H':Hp),aj H H'→H' t=some (.tup [.str (cf z),.ref L])→H' L=some (.lst (bV z))→Q (.ref t) H') (bad:dv (cf z) (bV z)=false→∀e H',aj H H'→E (.ref e) (some cL) H')
 |no (x:V) (t:Value) (ev:vs=[x]) (ty:cJ K H x t) (kt:PySem.W.kitOne K t (.type "str")=some false) (bad:∀e H',aj H H'→E (.ref e) (some cL) H')
theorem Ht {f cL:Addr}{fd:FuncData}(F:az K "read_line" "read_line" rE f fd) (G:Gs mg) (mL:mg "NoLine" =some (.ref cL)) (xL:PySem.W.excIn K cL kz "ValueError.__new__" =true) (vH:Def P w K mg base 1 "number_of" ["word"] qG) (vJ:Def P w K mg base 4 "makes_line" ["word", "numbers"] qI):
  ar P w K mg base (aG P w) 5 f fd ["line"] (jR K cL):=by
 refine F.ej nZ (fun vs H Q E h=> ?_) (fun ai A outer s H vs Q E hr h=> ?_)
 ·cases h with
  |txt z ev=>rw[ev];rfl
  |no x t ev=>rw[ev];rfl
 ·refine⟨_,Ze (ZN (Yb (Zn (Z9 (c:= "str")) rfl G.isinstance boot_isinstance (Za (pv 0) (Za (YL (v:=.ty "str") rfl G.str boot_str rfl) Zb))))
   (Ze (Yq (JS PySem.F.plainAttrs_str PySem.F.slot_str_split PySem.F.type_str_split KN (pv 0) (Za Zl Zb)) (Ip rfl (ZK (i:=1) nZ.nd rfl (Or.inl rfl)) (ZK (i:=2) nZ.nd rfl (Or.inl rfl))))
   (Ze (Yl ["other"] 1 [] (i:=3) nZ.nd rfl (Or.inl rfl) (Z7 (pv 2)) (fun C s H fp=>pb 0) (fun C s H fp=>ZV) (fun C s H fp D=>dr rfl (Zk vH (hr.mono (by decide)) (Za (pv 0) Zb))))
   (Zj (ZN (Yb (Zk vJ hr (Za (pv 1) (Za (pv 3) Zb)))) (Zj (Zv (ZY (Za (pv 1) (Za (pv 3) Zb))))) ZA)))) ZA)
   (Zj (Yf PySem.F.excBase_ValueError mL xL rfl (Za Zl Zb))),?_⟩
  cases h with
  |no x t ev ty kt bad=>
   subst ev
   refine Zi ⟨x,rfl,x,t,_,rfl,ty,kt,_,rfl,?_⟩
   exact ay ⟨by show 1≤sizeLine;decide,fun e=>bad e H (aj.refl H)⟩
  |txt z ev hz good bad=>
   subst ev
   obtain⟨h,rs,es⟩:=Kz (z:=z) (c:=32) (by decide)
   have eh:cf z=h:=by unfold cf;rw[es];rfl
   have er:bV z=rs.map dt:=by unfold bV;rw[es];rfl
   rw[eh,er]at good bad
   have Dh:rs.length≤1000:=by
    have:=Ke (z:=z) (c:=32) (by decide)
    rw[es,List.length_cons]at this
    omega
   have Lv:=Uj z 32
   have Cc:vz (rs.map dt):=by rw[←er];exact Ie z
   refine Zi ⟨.str z,rfl,.str z,_,_,rfl,.str z,He K,_,rfl,?_⟩
   refine aH ?_
   refine Zi ⟨_,rfl,rfl,z,⟨#[32]⟩,rfl,(by rw[←zv]),rfl,by rw[sizeLine_eq];omega,by rw[sizeLine_eq];omega,fun D hD=> ?_⟩
   rw[es]
   have m1:=Zd (o:=.lst ((h::rs).map V.str)) hD
   refine⟨D,.str h,rs.map V.str,rfl,ak.of Zc,fun L hL=> ?_⟩
   have m2:=Zd (o:=.lst (rs.map V.str)) hL
   have e2:upd (upd H D (.lst ((h::rs).map V.str))) L (.lst (rs.map V.str)) L=some (.lst (rs.map V.str)):=Zc
   generalize upd (upd H D (.lst ((h::rs).map V.str))) L (.lst (rs.map V.str))=H2 at m2 e2
   have s2:=m1.trans m2
   refine Zo (Zo ?_)
   dsimp only[List.set]
   refine Zi ⟨_,rfl,L,rfl,⟨_,ak.of e2⟩,?_⟩
   refine Yh (xs:=rs.map V.str) (fun j ys af H'=>aj H2 H'∧ys=(rs.take j).map dt∧∃v,af=[v]) ⟨aj.refl _,rfl,none,rfl⟩ (fun j ys af H' _ ⟨sm,_⟩=>ak.of (sm _ _ e2)) ?_ ?_
   ·rintro j y ys af H' hy ⟨sm,rfl,v,rfl⟩
    have hj:=(List.getElem?_eq_some_iff.mp hy).1
    rw[List.length_map]at hj
    rw[List.getElem?_map]at hy
    obtain⟨u,hu,rfl⟩:=Option.map_eq_some_iff.mp hy
    refine Zo ?_
    dsimp only[List.set]
    try unfold jM
    refine aH ⟨.str u,rfl,u,rfl,fun Mh dc=> ⟨?_,sm.trans dc,?_,_,rfl⟩⟩
    ·rw[List.length_map,List.length_take,sizeLine_eq];omega
    ·rw[List.take_add_one,hu,List.map_append];rfl
   ·rintro ys af H' ⟨sm,rfl,v,rfl⟩ N hN
    rw[List.length_map,List.take_length]
    have m3:=Zd (o:=.lst (rs.map dt)) hN
    have e3:upd H' N (.lst (rs.map dt)) N=some (.lst (rs.map dt)):=Zc
    generalize upd H' N (.lst (rs.map dt))=H3 at m3 e3
    have s3:=s2.trans (sm.trans m3)
    dsimp only[List.set]
    refine⟨_,rfl,_,rfl,h,N,_,rfl,e3,Cc,by rw[List.length_map];exact Dh,fun H4 s4=> ⟨_,rfl,?_⟩⟩
    cases hm:dv h (rs.map dt) with
    |true=>
     refine aH ⟨_,rfl,_,rfl,(by show 2≤sizeLine;decide),fun t ht=> ?_⟩
     have m5:=Zd (o:=.tup [.str h,.ref N]) ht
     have g:=good hm t N _ (s3.trans (s4.trans m5)) Zc ((s4.trans m5) _ _ e3)
     exact g
    |false=>
     refine ay (ZG ?_)
     exact⟨by show 1≤sizeLine;decide,fun e=>bad hm e H4 (s3.trans s4)⟩
end
section
variable {P:Program}{w:World}{K:PySem.W.Frag}{mg:Str→Option Value}{base:Heap}{cN cP:Addr}
abbrev rJ:Stmt:=top 21
theorem Bn:aF ["number", "least", "most"] ["number", "least", "most"] (aq rJ):=⟨rfl,rfl,rfl,by decide+kernel,rfl,by decide+kernel,by decide+kernel⟩
inductive nQ (cN:Addr) (vs:List V) (H:Hp) (Q:VK) (E:XK):Prop
 |mk (i:Int) (b:Int) (ev:vs=[.int i,.int 0,.int b]) (b0:0≤b) (b1:b≤12) (good:0≤i→i≤b→Q .ae H) (bad:¬(0≤i∧i≤b)→∀e H',aj H H'→E (.ref e) (some cN) H')
theorem Hr {f:Addr}{fd:FuncData}(F:az K "need_whole_within" "need_whole_within" rJ f fd) (mN:mg "NoNumber" =some (.ref cN)) (xN:PySem.W.excIn K cN kz "ValueError.__new__" =true) (D1:Def P w K mg base 2 "is_whole_within" ["thing", "least", "most"] (jP K)):ar P w K mg base (aG P w) 3 f fd ["number", "least", "most"] (nQ cN):=by
 refine F.ej Bn (fun vs H Q E h=> ?_) (fun ai A outer s H vs Q E hr h=> ?_)
 ·obtain⟨i,b,rfl,_⟩:=h
  rfl
 ·obtain⟨i,b,rfl,b0,b1,good,bad⟩:=h
  refine⟨_,Zj (ZN (Yz (Yb (Zk D1 hr (Za (pv 0) (Za (pv 1) (Za (pv 2) Zb)))))) (Zj (Yf PySem.F.excBase_ValueError mN xN rfl (Za (WI Zl (pv 1) Zl (pv 2) Zl) Zb))) ZA),?_⟩
  refine⟨_,rfl,_,rfl,_,rfl,.int i,0,b,rfl,⟨_,.int i⟩,_,rfl,?_⟩
  have ew:bK (.int i) 0 b=decide (0≤i∧i≤b):=by
   show(decide (0≤i)&&decide (i≤b))=_
   rw[Bool.decide_and]
  rw[ew]
  by_cases hi:0≤i∧i≤b
  ·rw[decide_eq_true hi]
   exact ay (ZG (good hi.1 hi.2))
  ·rw[decide_eq_false hi]
   have hb:=Z8 (n:=b) b0 b1
   have hp:(Str.empty++Str.ofString "a whole number from " ++Str.ofString (toString (0:Int))++Str.ofString " to ").length=25:=by decide+kernel
   have hq:(Str.ofString " is asked for").length=13:=by decide+kernel
   refine aH ⟨_,rfl,by decide,_,rfl,0,rfl,by decide,by decide,_,rfl,by decide,_,rfl,b,rfl,ZE b0 (by omega),?_,_,rfl,?_,fun z=> ⟨by show 1≤sizeLine;decide,fun e=>bad hi e H (aj.refl H)⟩⟩
   ·rw[Str.length_append,hp,sizeLine_eq]
    omega
   ·rw[Str.length_append,Str.length_append,hp,hq,sizeLine_eq]
    omega
end
end U
namespace U.S
open PySem L2 PyProof.Rows
section
theorem ZX {H:Hp}{p:Addr}{o:HO}(h:H p=none):aj H (upd H p o):=fun b u hb=>by rw[Zh (Zg hb h)];exact hb
theorem WG {v:V}(hv:v≠.ae):∀{xs:List V}{i:Nat},xs[i]? =some V.ae→(rowsOf (xs.set i v)).Perm (v::rowsOf xs)
 | [],_,h=>by simp at h
 |x::xs,0,h=>by
  have:x=.ae:=by simpa using h
  subst this
  rw[List.set_cons_zero]
  unfold rowsOf
  rw[List.filter_cons_of_pos (by simpa using hv),List.filter_cons_of_neg (by simp)]
 |x::xs,i+1,h=>by
  have ih:=WG hv (xs:=xs) (i:=i) (by simpa using h)
  rw[List.set_cons_succ]
  unfold rowsOf at ih ⊢
  by_cases z:(!decide (x=V.ae))=true
  ·rw[List.filter_cons_of_pos (p:=fun x=> !decide (x=V.ae)) z,List.filter_cons_of_pos (p:=fun x=> !decide (x=V.ae)) z]
   exact(ih.cons x).trans (List.Perm.swap v x _)
  ·rw[List.filter_cons_of_neg (p:=fun x=> !decide (x=V.ae)) z,List.filter_cons_of_neg (p:=fun x=> !decide (x=V.ae)) z]
   exact ih
theorem J3 {r:Int}{xs:List V}(h:V.int r∈xs):dy (.int r) xs=true:=by
 unfold dy
 exact List.any_eq_true.mpr ⟨_,h,by simp[gj]⟩
theorem Ia {wd hg:Int}{xs:List V}{i:Nat}{r:Int}(h:bD wd hg xs) (hi:xs[i]? =some V.ae) (h0:0≤r) (h1:r<hg) (hn:dy (.int r) xs=false):bD wd hg (xs.set i (.int r)):=by
 have pm:=WG (v:=.int r) (by intro z;cases z) hi
 refine⟨by rw[List.length_set];exact h.len,fun x hx=> ?_,pm.nodup_iff.mpr (List.nodup_cons.mpr ⟨fun m=> ?_,h.nd⟩)⟩
 ·rcases List.mem_cons.mp (pm.mem_iff.mp hx) with rfl |hx
  ·show(decide (0≤r)&&decide (r≤hg - 1))=true
   rw[decide_eq_true h0,decide_eq_true (by omega)]
   rfl
  ·exact h.row x hx
 ·have:=J3 (List.mem_filter.mp m).1
  rw[hn]at this
  cases this
theorem KH {wd hg:Int}{xs:List V}(h:bD wd hg xs):xs.all gE=true:=List.all_eq_true.mpr fun v hv=>by
 rcases h.ok v hv with rfl |⟨i,rfl⟩<;>rfl
theorem UJ {K:PySem.W.Frag}{H:Hp}{a b:Addr}{xs ys:List V}{Q:VK}(h1:H a=some (.tup xs)) (h2:H b=some (.tup ys)) (hl:xs.length+ys.length≤1000) (q:∀t H',aj H H'→H' t=some (.tup (xs++ys))→Q (.ref t) H'):wQ K (.ref a) (.ref b) H Q:=by
 cases xs with
 |nil=>exact .inl ⟨a,b,ys,rfl,rfl,au.of h1,au.of h2,q b H (aj.refl _) h2⟩
 |cons x xs=>
  refine .inr ⟨a,b,_,_,rfl,rfl,au.of h1,au.of h2,by simp,by rw[sizeLine_eq];omega,fun e=> ?_,fun _ p hp=>q p _ (ZX hp) Zc⟩
  subst e
  exact q a H (aj.refl _) (by rw[List.append_nil];exact h1)
theorem zf {xs:List V}{i:Nat}(h:i<xs.length):cW xs none (some (i:Int))=xs.take i:=by
 unfold cW
 rw[HT.wG,HT.oh,Nat.min_eq_left (by omega)]
 simp
theorem W4 {xs:List V}{i:Nat}(h:i<xs.length):cW xs (some ((i:Int)+1)) none=xs.drop (i+1):=by
 unfold cW
 rw[show(i:Int)+1=((i+1:Nat):Int) from rfl,HT.wG,HT.oh,Nat.min_eq_left (by omega)]
 exact List.take_of_length_le (by simp)
end
section
variable {P:Program}{w:World}{K:PySem.W.Frag}{mg:Str→Option Value}{base:Heap}
abbrev rh:Stmt:=top 30
def nJ:Sp:=fun vs H Q _=> ∃(l:Addr) (xs:List V) (i:Nat) (v:V),vs=[.ref l,.int i,v]∧H l=some (.tup xs)∧i<xs.length∧xs.length≤12∧∀t H',aj H H'→H' t=some (.tup (xs.set i v))→Q (.ref t) H'
theorem Bd:aF ["lay", "line", "row"] ["lay", "line", "row"] (aq rh):=⟨rfl,rfl,rfl,by decide+kernel,rfl,by decide+kernel,by decide+kernel⟩
theorem B7 {f:Addr}{fd:FuncData}(F:az K "with_point" "with_point" rh f fd):ar P w K mg base aC 1 f fd ["lay", "line", "row"] nJ:=by
 refine F.ok Bd (fun vs H Q E h=> ?_) (fun ai A outer s H vs Q E hr h=> ?_)
 ·obtain⟨l,xs,i,v,rfl,_⟩:=h
  rfl
 ·obtain⟨l,xs,i,v,rfl,hl,hi,LU,q⟩:=h
  refine⟨_,Zj (Zv (Zm Wr (Zm Wr (YK Ul (pv 0) Jd (Jc (pv 1))) (ZY (Za (pv 2) Zb))) (YK Ul (pv 0) (Jc (Zm Yd (pv 1) Zf)) Jd))),?_⟩
  refine⟨_,rfl,_,rfl,_,rfl,l,xs,rfl,au.of hl,?_,fun p hp=> ?_⟩
  ·rintro⟨_,z⟩
   rw[HT.oh]at z
   omega
  have s1:=ZX (o:=.tup (cW xs none (some (i:Int)))) hp
  have e1:upd H p (.tup (cW xs none (some (i:Int)))) p=some (.tup (cW xs none (some (i:Int)))):=Zc
  generalize upd H p (HO.tup (cW xs none (some (i:Int))))=H1 at s1 e1
  rw[zf hi]at e1
  refine⟨_,rfl,(by show 1≤sizeLine;decide),fun p2 oZ=> ?_⟩
  have s2:=ZX (o:=.tup [v]) oZ
  have e2:upd H1 p2 (.tup [v]) p2=some (.tup [v]):=Zc
  generalize upd H1 p2 (HO.tup [v])=H2 at s2 e2
  refine UJ (s2 _ _ e1) e2 (by rw[List.length_take];simp;omega) fun t3 H3 s3 e3=> ?_
  refine⟨_,rfl,_,rfl,_,_,rfl,rfl,_,rfl,l,xs,rfl,au.of ((s1.trans (s2.trans s3)) _ _ hl),?_,fun p4 Dm=> ?_⟩
  ·rintro⟨z,_⟩
   rw[show(i:Int)+1=((i+1:Nat):Int) from rfl,HT.oh]at z
   omega
  have s4:=ZX (o:=.tup (cW xs (some ((i:Int)+1)) none)) Dm
  have e4:upd H3 p4 (.tup (cW xs (some ((i:Int)+1)) none)) p4=some (.tup (cW xs (some ((i:Int)+1)) none)):=Zc
  generalize upd H3 p4 (HO.tup (cW xs (some ((i:Int)+1)) none))=H4 at s4 e4
  rw[W4 hi]at e4
  refine UJ (s4 _ _ e3) e4 (by rw[List.length_append,List.length_take,List.length_drop];simp;omega) fun t5 H5 s5 e5=> ?_
  refine q t5 H5 (s1.trans (s2.trans (s3.trans (s4.trans s5)))) ?_
  rw[e5,List.append_assoc,List.set_eq_take_append_cons_drop,if_pos hi]
  rfl
end
end U.S
namespace U
open PySem L2 PyProof.Rows U.S
theorem Iv (n:Nat):(List.replicate n [V.ae]).flatten=List.replicate n V.ae:=by
 induction n with
 |zero=>rfl
 |succ n ih=>rw[List.replicate_succ,List.flatten_cons,ih];rfl
theorem Ud {wd hg:Int}(w0:0≤wd):bD wd hg (List.replicate wd.toNat V.ae):=by
 have e:rowsOf (List.replicate wd.toNat V.ae)=[]:=by
  unfold rowsOf
  rw[List.filter_eq_nil_iff]
  intro v hv
  rw[(List.mem_replicate.mp hv).2]
  simp
 refine⟨by rw[List.length_replicate];omega,fun r hr=> ?_,?_⟩
 ·rw[e]at hr;cases hr
 ·rw[e];exact .nil
inductive di (H:Hp) (v:V) (wd hg:Int) (xs:List V):Prop
 |mk (t b l:Addr) (ev:v=.ref t) (ht:H t=some (.tup [.ref b,.ref l])) (bd:cY H (.ref b) wd hg) (hl:H l=some (.tup xs)) (ly:bD wd hg xs)
theorem di.same {H H':Hp}{v:V}{wd hg:Int}{xs:List V}(h:di H v wd hg xs) (s:aj H H'):di H' v wd hg xs:=by
 obtain⟨t,b,l,e,h1,h2,h3,h4⟩:=h
 exact⟨t,b,l,e,s _ _ h1,h2.same s,s _ _ h3,h4⟩
section
variable {P:Program}{w:World}{K:PySem.W.Frag}{mg:Str→Option Value}{base:Heap}{cN cP:Addr}
abbrev cO:List Str:=["board", "lay", "numbers"]
abbrev rM:Stmt:=top 49
theorem qZ:aF ["board", "lay", "numbers", "wide", "high"] cO (aq rM):=⟨rfl,rfl,rfl,by decide+kernel,rfl,by decide+kernel,by decide+kernel⟩
inductive nU (vs:List V) (H:Hp) (Q:VK) (E:XK):Prop
 |mk (x y:V) (L:Addr) (wd hg:Int) (ev:vs=[x,y,.ref L]) (hl:H L=some (.lst [.int wd,.int hg])) (w1:1≤wd) (w2:wd≤12) (g1:1≤hg) (g2:hg≤12) (q:∀v H',aj H H'→di H' v wd hg (List.replicate wd.toNat V.ae)→Q v H')
theorem Ho {f:Addr}{fd:FuncData}(F:az K "new_board" "new_board" rM f fd):ar P w K mg base aC 1 f fd cO nU:=by
 refine F.ok qZ (fun vs H Q E h=> ?_) (fun ai A outer s H vs Q E hr h=> ?_)
 ·obtain⟨x,y,L,wd,hg,rfl,_⟩:=h
  rfl
 ·obtain⟨x,y,L,wd,hg,rfl,hl,w1,w2,g1,g2,q⟩:=h
  refine⟨_,Ze (Yq (pv 2) (UQ rfl (ZT (ZK (i:=3) qZ.nd rfl (Or.inl rfl)) (ZT (ZK (i:=4) qZ.nd rfl (Or.inl rfl)) YJ))))
   (Zj (Zv (ZY (Za (ZY (Za (pv 3) (Za (pv 4) Zb))) (GD (Zm Ik (ZY (Za Yc Zb)) (pv 3)) Zb))))),?_⟩
  refine Zi (Zu ⟨_,rfl,L,_,rfl,ak.of hl,rfl,_,_,rfl,_,_,rfl,rfl,?_⟩)
  dsimp only[List.set]
  refine⟨_,rfl,_,rfl,(by show 2≤sizeLine;decide),fun b hb=> ?_⟩
  have s1:=ZX (o:=.tup [V.int wd,V.int hg]) hb
  have e1:upd H b (.tup [V.int wd,V.int hg]) b=some (.tup [V.int wd,V.int hg]):=Zc
  generalize upd H b (HO.tup [V.int wd,V.int hg])=H1 at s1 e1
  refine⟨(by show 1≤sizeLine;decide),fun t ht=> ⟨_,rfl,t,wd,[.ae],rfl,rfl,Zc,by simp,by omega,by omega,by simp;omega,fun c H3 s3 e3=> ?_⟩⟩
  have kW:=(ZX (o:=.tup [V.ae]) ht).trans s3
  refine⟨(by show 2≤sizeLine;decide),fun p hp=> ?_⟩
  have s4:=ZX (o:=.tup [V.ref b,V.ref c]) hp
  have e4:upd H3 p (.tup [V.ref b,V.ref c]) p=some (.tup [V.ref b,V.ref c]):=Zc
  generalize upd H3 p (HO.tup [V.ref b,V.ref c])=H4 at s4 e4
  refine q _ H4 (s1.trans (kW.trans s4)) ⟨p,b,c,rfl,e4,⟨ZH ((kW.trans s4) _ _ e1),w1,w2,g1,g2⟩,?_,?_⟩
  ·rw[←Iv]
   exact s4 _ _ e3
  ·exact Ud (by omega)
end
theorem Jm:∀(xs:List V) (i:Nat),(rowsOf (xs.set i .ae)).Sublist (rowsOf xs)
 | [],_=>by rw[List.set_nil];exact List.Sublist.refl _
 |x::xs,0=>by
  rw[List.set_cons_zero]
  unfold rowsOf
  rw[List.filter_cons_of_neg (by simp)]
  by_cases z:(!decide (x=V.ae))=true
  ·rw[List.filter_cons_of_pos (p:=fun x=> !decide (x=V.ae)) z]
   exact List.sublist_cons_self _ _
  ·rw[List.filter_cons_of_neg (p:=fun x=> !decide (x=V.ae)) z]
   exact List.Sublist.refl _
 |x::xs,i+1=>by
  have ih:=Jm xs i
  rw[List.set_cons_succ]
  unfold rowsOf at ih ⊢
  by_cases z:(!decide (x=V.ae))=true
  ·rw[List.filter_cons_of_pos (p:=fun x=> !decide (x=V.ae)) z,List.filter_cons_of_pos (p:=fun x=> !decide (x=V.ae)) z]
   exact ih.cons₂ x
  ·rw[List.filter_cons_of_neg (p:=fun x=> !decide (x=V.ae)) z,List.filter_cons_of_neg (p:=fun x=> !decide (x=V.ae)) z]
   exact ih
theorem UK {x:V} :dW [x] 0=some x:=(YT (j:=0) rfl:dW [x] ((0:Nat):Int)=some x)
theorem Wv {wd hg:Int}{xs:List V}(h:bD wd hg xs) (i:Nat):bD wd hg (xs.set i .ae):=
 ⟨by rw[List.length_set];exact h.len,fun r hr=>h.row r ((Jm xs i).mem hr),h.nd.sublist (Jm xs i)⟩
theorem KI {wd hg:Int}{xs:List V}{i:Nat}{r:Int}(h:bD wd hg xs) (hi:i<xs.length) (h0:0≤r) (h1:r<hg) (hn:dy (.int r) (xs.set i .ae)=false):bD wd hg (xs.set i (.int r)):=by
 have:=Ia (i:=i) (r:=r) (Wv h i) (by rw[List.getElem?_set];simp[hi]) h0 h1 hn
 rwa [List.set_set]at this
section
variable {P:Program}{w:World}{K:PySem.W.Frag}{mg:Str→Option Value}{base:Heap}{cN cP:Addr}
abbrev rm:Stmt:=top 51
theorem Bg:aF cO cO (aq rm):=⟨rfl,rfl,rfl,by decide+kernel,rfl,by decide+kernel,by decide+kernel⟩
inductive kS (cN:Addr) (vs:List V) (H:Hp) (Q:VK) (E:XK):Prop
 |mk (b l L:Addr) (wd hg i:Int) (xs:List V) (ev:vs=[.ref b,.ref l,.ref L]) (bd:cY H (.ref b) wd hg) (hl:H l=some (.tup xs)) (ly:bD wd hg xs) (hL:H L=some (.lst [.int i]))
  (good:0≤i→i<wd→∀v H',aj H H'→di H' v wd hg (xs.set i.toNat .ae)→Q v H') (bad:¬(0≤i∧i<wd)→∀e H',aj H H'→E (.ref e) (some cN) H')
theorem Hv {f:Addr}{fd:FuncData}(F:az K "take_point" "take_point" rm f fd) (jA:cE P w K mg base 3 "need_whole_within" ["number", "least", "most"] (nQ cN)) (jJ:Def P w K mg base 1 "with_point" ["lay", "line", "row"] nJ):ar P w K mg base (aG P w) 4 f fd cO (kS cN):=by
 refine F.ej Bg (fun vs H Q E h=> ?_) (fun ai A outer s H vs Q E hr h=> ?_)
 ·obtain⟨b,l,L,wd,hg,i,xs,rfl,_⟩:=h
  rfl
 ·obtain⟨b,l,L,wd,hg,i,xs,rfl,bd,hl,ly,hL,good,bad⟩:=h
  refine⟨_,Ze (ZS (ZR jA hr (Za (Zz ZM (pv 2) Zf (fun _ _=>rfl)) (Za Zf (Za (Zm Yr (Zz ZI (pv 0) Zf (fun _ _=>rfl)) Zf) Zb)))))
   (Zj (Zv (ZY (Za (pv 0) (Za (Zk jJ (hr.mono (by decide)) (Za (pv 1) (Za (Zz ZM (pv 2) Zf (fun _ _=>rfl)) (Za Yc Zb)))) Zb))))),?_⟩
  obtain⟨b',eb,hb⟩:=Zy bd.1
  cases eb
  obtain⟨_,w1,w2,g1,g2⟩:=id bd
  have ll:=ly.len
  refine Zi ⟨_,rfl,L,_,_,_,rfl,rfl,ak.of hL,UK,_,rfl,b,_,_,_,rfl,rfl,au.of hb,eE,_,_,rfl,rfl,i,wd - 1,rfl,by omega,by omega,fun i0 i1=> ?_,fun hi=>bad fun hh=>hi ⟨hh.1,by omega⟩⟩
  have ei:(i.toNat:Int)=i:=by omega
  dsimp only
  refine⟨_,rfl,_,rfl,_,rfl,L,_,_,_,rfl,rfl,ak.of hL,UK,l,xs,i.toNat,.ae,(by rw[ei];rfl),hl,by omega,by omega,fun t H1 s1 e1=> ?_⟩
  refine⟨(by show 2≤sizeLine;decide),fun p hp=> ?_⟩
  have s2:=ZX (o:=.tup [V.ref b,V.ref t]) hp
  exact good i0 (by omega) _ _ (s1.trans s2) ⟨p,b,t,rfl,Zc,bd.same (s1.trans s2),s2 _ _ e1,Wv ly _⟩
abbrev rF:Stmt:=top 50
theorem qX:aF ["board", "lay", "numbers", "line", "row"] cO (aq rF):=⟨rfl,rfl,rfl,by decide+kernel,rfl,by decide+kernel,by decide+kernel⟩
inductive jS (cN cP:Addr) (vs:List V) (H:Hp) (Q:VK) (E:XK):Prop
 |mk (b l L:Addr) (wd hg i r:Int) (xs:List V) (ev:vs=[.ref b,.ref l,.ref L]) (bd:cY H (.ref b) wd hg) (hl:H l=some (.tup xs)) (ly:bD wd hg xs) (hL:H L=some (.lst [.int i,.int r]))
  (good:0≤i→i<wd→0≤r→r<hg→dy (.int r) (xs.set i.toNat .ae)=false→∀v H',aj H H'→di H' v wd hg (xs.set i.toNat (.int r))→Q v H')
  (bad:¬((0≤i∧i<wd)∧0≤r∧r<hg)→∀e H',aj H H'→E (.ref e) (some cN) H')
  (y7:(0≤i∧i<wd)→(0≤r∧r<hg)→dy (.int r) (xs.set i.toNat .ae)=true→∀e H',aj H H'→E (.ref e) (some cP) H')
theorem Hs {f:Addr}{fd:FuncData}(F:az K "put_point" "put_point" rF f fd) (mP:mg "NoPoint" =some (.ref cP)) (xP:PySem.W.excIn K cP kz "ValueError.__new__" =true) (jA:cE P w K mg base 3 "need_whole_within" ["number", "least", "most"] (nQ cN)) (jJ:Def P w K mg base 1 "with_point" ["lay", "line", "row"] nJ):ar P w K mg base (aG P w) 4 f fd cO (jS cN cP):=by
 refine F.ej qX (fun vs H Q E h=> ?_) (fun ai A outer s H vs Q E hr h=> ?_)
 ·obtain⟨b,l,L,wd,hg,i,r,xs,rfl,_⟩:=h
  rfl
 ·obtain⟨b,l,L,wd,hg,i,r,xs,rfl,bd,hl,ly,hL,good,bad,y7⟩:=h
  refine⟨_,Ze (Yq (pv 2) (UQ rfl (ZT (ZK (i:=3) qX.nd rfl (Or.inl rfl)) (ZT (ZK (i:=4) qX.nd rfl (Or.inl rfl)) YJ))))
   (Ze (ZS (ZR jA hr (Za (pv 3) (Za Zf (Za (Zm Yr (Zz ZI (pv 0) Zf (fun _ _=>rfl)) Zf) Zb)))))
   (Ze (ZS (ZR jA hr (Za (pv 4) (Za Zf (Za (Zm Yr (Zz ZI (pv 0) Zf (fun _ _=>rfl)) Zf) Zb)))))
   (Ze (ZN (Zw JV (pv 4) (Zk jJ (hr.mono (by decide)) (Za (pv 1) (Za (pv 3) (Za Yc Zb)))) rfl) (Zj (Yf PySem.F.excBase_ValueError mP xP rfl (Za Zl Zb))) ZA)
   (Zj (Zv (ZY (Za (pv 0) (Za (Zk jJ (hr.mono (by decide)) (Za (pv 1) (Za (pv 3) (Za (pv 4) Zb)))) Zb)))))))),?_⟩
  obtain⟨b',eb,hb⟩:=Zy bd.1
  cases eb
  obtain⟨_,w1,w2,g1,g2⟩:=id bd
  have ll:=ly.len
  refine Zi (Zu ⟨_,rfl,L,_,rfl,ak.of hL,rfl,_,_,rfl,_,_,rfl,rfl,?_⟩)
  dsimp only[List.set]
  refine Zi ⟨_,rfl,_,rfl,b,_,_,_,rfl,rfl,au.of hb,eE,_,_,rfl,rfl,i,wd - 1,rfl,by omega,by omega,fun i0 i1=> ?_,fun hi=>bad fun hh=>hi ⟨hh.1.1,by omega⟩⟩
  dsimp only
  refine Zi ⟨_,rfl,_,rfl,b,_,_,_,rfl,rfl,au.of hb,cI,_,_,rfl,rfl,r,hg - 1,rfl,by omega,by omega,fun r0 r1=> ?_,fun hi=>bad fun hh=>hi ⟨hh.2.1,by omega⟩⟩
  dsimp only
  have ei:(i.toNat:Int)=i:=by omega
  have fl:=KH (Wv ly i.toNat)
  refine Zi ⟨_,rfl,_,rfl,_,rfl,l,xs,i.toNat,.ae,(by rw[ei];rfl),hl,by omega,by omega,fun t H1 s1 e1=> ⟨t,_,rfl,.inr (au.of e1),rfl,fl,_,rfl,?_⟩⟩
  cases hn:dy (.int r) (xs.set i.toNat .ae) with
  |true=>exact aH ⟨by show 1≤sizeLine;decide,fun e=>y7 ⟨i0,by omega⟩ ⟨r0,by omega⟩ hn e H1 s1⟩
  |false=>
   refine ay (ZG ?_)
   dsimp only
   refine⟨_,rfl,_,rfl,_,rfl,_,rfl,l,xs,i.toNat,.int r,(by rw[ei];rfl),s1 _ _ hl,by omega,by omega,fun t2 H2 s2 e2=> ?_⟩
   refine⟨(by show 2≤sizeLine;decide),fun p hp=> ?_⟩
   have s3:=ZX (o:=.tup [V.ref b,V.ref t2]) hp
   have kW:=s1.trans (s2.trans s3)
   exact good i0 (by omega) r0 (by omega) hn _ _ kW ⟨p,b,t2,rfl,Zc,bd.same kW,s3 _ _ e2,KI ly (by omega) r0 (by omega) hn⟩
end
section
variable {P:Program}{w:World}{K:PySem.W.Frag}{mg:Str→Option Value}{base:Heap}{cM:Addr}
theorem Io {X:Cx}{g:Str}{es:List Expr}{te:TE}{p p1 p2 kp xw pos:Pos}(hg:Gl X "min") (hm:X.mg "min" =none) (he:PE X (.Call (.Name g p1) es [] p2) te):
  PE X (.Call (.Name "min" p) [.Call (.Name g p1) es [] p2] [⟨some "default",.Constant .none 0 kp,xw⟩] pos) (fun σ H _=>te σ H fun _ _=>False):=by
 intro pins s σ H Q I h
 refine wpAny_Call_Name_kw (JA I hg hm PyProof.Rows.Boot.«min» ?_ (by decide) (by decide))
 have pa:PA X [.Call (.Name g p1) es [] p2] (cg te dZ):=Za he Zb
 exact PyProof.Rows.callWith_kw (ao (pa pos pins s σ H (fun _ _=>False) I h) fun us s1 ⟨Li,H1,I1,r1,q1⟩=>q1.elim)
structure Exc (K:PySem.W.Frag) (mg:Str→Option Value) (nm:Str) (C:Addr):Prop where
 m:mg nm=some (.ref C)
 x:PySem.W.excIn K C kz "ValueError.__new__" =true
abbrev rN:Stmt:=top 25
theorem Bp:aF ["board", "wide", "high"] ["board", "wide", "high"] (aq rN):=⟨rfl,rfl,rfl,by decide+kernel,rfl,by decide+kernel,by decide+kernel⟩
inductive qH (cM:Addr) (vs:List V) (H:Hp) (Q:VK) (E:XK):Prop
 |mk (x:V) (wd hg:Int) (ev:vs=[x,.int 6,.int 7]) (bd:cY H x wd hg) (gr:6<wd∨7<hg) (q:∀e H',aj H H'→E (.ref e) (some cM) H')
theorem Hn {f:Addr}{fd:FuncData}(F:az K "need_at_most" "need_at_most" rN f fd) (X:Exc K mg "TooMany" cM):ar P w K mg base (aG P w) 1 f fd ["board", "wide", "high"] (qH cM):=by
 refine F.ej Bp (fun vs H Q E h=> ?_) (fun ai A outer s H vs Q E hr h=> ?_)
 ·obtain⟨x,wd,hg,rfl,_⟩:=h
  rfl
 ·obtain⟨x,wd,hg,rfl,bd,gr,q⟩:=h
  obtain⟨b,rfl,hb⟩:=Zy bd.1
  refine⟨_,Zj (ZN (PW.pt (Y3 (Zw WM (Zz ZI (pv 0) Zf (fun _ _=>rfl)) (pv 1) (bw _)) (Yp (Zw WM (Zz ZI (pv 0) Zf (fun _ _=>rfl)) (pv 2) (bw _)))))
   (Zj (Yf PySem.F.excBase_ValueError X.m X.x rfl (Za (WI Zl (pv 1) Zl (pv 2) Zl) Zb))) ZA),?_⟩
  refine⟨_,rfl,b,_,0,.int wd,rfl,rfl,au.of hb,rfl,_,rfl,_,_,rfl,rfl,_,rfl,?_⟩
  by_cases h1:wd>6
  ·rw[decide_eq_true h1]
   refine aH (aH ⟨_,rfl,by decide,_,rfl,6,rfl,by decide,by decide,_,rfl,by decide,_,rfl,7,rfl,by decide,by decide,_,rfl,by decide,fun z=> ⟨by show 1≤sizeLine;decide,fun e=>q e H (aj.refl H)⟩⟩)
  ·rw[decide_eq_false h1]
   refine ay ⟨_,rfl,b,_,1,.int hg,rfl,rfl,au.of hb,rfl,_,rfl,_,_,rfl,rfl,_,rfl,?_⟩
   rw[decide_eq_true (show hg>7 by omega)]
   exact aH ⟨_,rfl,by decide,_,rfl,6,rfl,by decide,by decide,_,rfl,by decide,_,rfl,7,rfl,by decide,by decide,_,rfl,by decide,fun z=> ⟨by show 1≤sizeLine;decide,fun e=>q e H (aj.refl H)⟩⟩
abbrev BL:List Str:=["board", "lay"]
inductive eJ (cM:Addr) (vs:List V) (H:Hp) (Q:VK) (E:XK):Prop
 |mk (x y:V) (wd hg:Int) (xs:List V) (ev:vs=[x,y]) (la:mZ H x y wd hg xs) (gr:6<wd∨7<hg) (q:∀e H',aj H H'→E (.ref e) (some cM) H')
inductive ij (cM:Addr) (vs:List V) (H:Hp) (Q:VK) (E:XK):Prop
 |mk (x y z:V) (wd hg:Int) (xs:List V) (ev:vs=[x,y,z]) (la:mZ H x y wd hg xs) (gr:6<wd∨7<hg) (q:∀e H',aj H H'→E (.ref e) (some cM) H')
abbrev rK:Stmt:=top 40
theorem Bo:aF BL BL (aq rK):=⟨rfl,rfl,rfl,by decide+kernel,rfl,by decide+kernel,by decide+kernel⟩
theorem Gr {f:Addr}{fd:FuncData}(F:az K "need_small" "need_small" rK f fd) (G:Gs mg) (vI:Def P w K mg base 6 "need_lay" BL nO) (vt:cE P w K mg base 1 "need_at_most" ["board", "wide", "high"] (qH cM)):ar P w K mg base (aG P w) 7 f fd BL (eJ cM):=by
 obtain⟨Ll,Ew⟩:=G.Cp
 obtain⟨Lk,pE⟩:=G.Cq
 refine F.ej Bo (fun vs H Q E h=> ?_) (fun ai A outer s H vs Q E hr h=> ?_)
 ·obtain⟨x,y,wd,hg,xs,rfl,_⟩:=h
  rfl
 ·obtain⟨x,y,wd,hg,xs,rfl,la,gr,q⟩:=h
  refine⟨_,Ze (ZS (Zk vI hr (Za (pv 0) (Za (pv 1) Zb))))
   (Zj (ZS (ZR vt (hr.mono (by decide)) (Za (pv 0) (Za (ZF (v:=.int 6) rfl Ew ⟨_,rfl⟩) (Za (ZF (v:=.int 7) rfl pE ⟨_,rfl⟩) Zb)))))),?_⟩
  refine⟨_,rfl,_,rfl,x,y,wd,hg,xs,rfl,la,fun H1 s1=> ?_⟩
  exact⟨x,rfl,x,wd,hg,rfl,la.1.same s1,gr,fun e H' s'=>q e H' (s1.trans s')⟩
abbrev sr:Stmt:=top 42
theorem Bz:aF ["board", "lay", "found", "line"] BL (aq sr):=⟨rfl,rfl,rfl,by decide+kernel,rfl,by decide+kernel,by decide+kernel⟩
theorem Hh {f:Addr}{fd:FuncData}(F:az K "all_fits" "all_fits" sr f fd) (R1:cE P w K mg base 7 "need_small" BL (eJ cM)):ar P w K mg base (aG P w) 8 f fd BL (eJ cM):=by
 refine F.ej Bz (fun vs H Q E h=> ?_) (fun ai A outer s H vs Q E hr h=> ?_)
 ·obtain⟨x,y,wd,hg,xs,rfl,_⟩:=h
  rfl
 ·obtain⟨x,y,wd,hg,xs,rfl,la,gr,q⟩:=h
  refine⟨_,Ze (ZS (ZR R1 hr (Za (pv 0) (Za (pv 1) Zb)))) ZO,?_⟩
  exact⟨x,rfl,y,rfl,x,y,wd,hg,xs,rfl,la,gr,q⟩
abbrev sd:Stmt:=top 43
theorem Bv:aF BL BL (aq sd):=⟨rfl,rfl,rfl,by decide+kernel,rfl,by decide+kernel,by decide+kernel⟩
theorem Hj {f:Addr}{fd:FuncData}(F:az K "fits_many" "fits_many" sd f fd) (G:Gs mg) (R1:cE P w K mg base 8 "all_fits" BL (eJ cM)):ar P w K mg base (aG P w) 9 f fd BL (eJ cM):=by
 refine F.ej Bv (fun vs H Q E h=> ?_) (fun ai A outer s H vs Q E hr h=> ?_)
 ·obtain⟨x,y,wd,hg,xs,rfl,_⟩:=h
  rfl
 ·obtain⟨x,y,wd,hg,xs,rfl,la,gr,q⟩:=h
  refine⟨_,Zj (Zv (Zn ZD rfl G.len boot_len (Za (ZR R1 hr (Za (pv 0) (Za (pv 1) Zb))) Zb))),?_⟩
  exact⟨x,rfl,y,rfl,x,y,wd,hg,xs,rfl,la,gr,q⟩
abbrev se:Stmt:=top 44
theorem Bw:aF BL BL (aq se):=⟨rfl,rfl,rfl,by decide+kernel,rfl,by decide+kernel,by decide+kernel⟩
theorem Hi {f:Addr}{fd:FuncData}(F:az K "first_fit" "first_fit" se f fd) (G:Gs mg) (R1:cE P w K mg base 8 "all_fits" BL (eJ cM)):ar P w K mg base (aG P w) 9 f fd BL (eJ cM):=by
 refine F.ej Bw (fun vs H Q E h=> ?_) (fun ai A outer s H vs Q E hr h=> ?_)
 ·obtain⟨x,y,wd,hg,xs,rfl,_⟩:=h
  rfl
 ·obtain⟨x,y,wd,hg,xs,rfl,la,gr,q⟩:=h
  refine⟨_,Zj (Zv (Io rfl G.min (ZR R1 hr (Za (pv 0) (Za (pv 1) Zb))))),?_⟩
  exact⟨x,rfl,y,rfl,x,y,wd,hg,xs,rfl,la,gr,q⟩
abbrev rA:Stmt:=top 56
theorem Bi:aF cO cO (aq rA):=⟨rfl,rfl,rfl,by decide+kernel,rfl,by decide+kernel,by decide+kernel⟩
theorem Gx {f:Addr}{fd:FuncData}(F:az K "tell_many" "tell_many" rA f fd) (G:Gs mg) (R1:cE P w K mg base 9 "fits_many" BL (eJ cM)):ar P w K mg base (aG P w) 10 f fd cO (ij cM):=by
 refine F.ej Bi (fun vs H Q E h=> ?_) (fun ai A outer s H vs Q E hr h=> ?_)
 ·obtain⟨x,y,z,wd,hg,xs,rfl,_⟩:=h
  rfl
 ·obtain⟨x,y,z,wd,hg,xs,rfl,la,gr,q⟩:=h
  refine⟨_,Zj (Zv (Zr Zp rfl G.str PyProof.Rows.Boot.«str» (Za (ZR R1 hr (Za (pv 0) (Za (pv 1) Zb))) Zb))),?_⟩
  exact⟨x,rfl,y,rfl,x,y,wd,hg,xs,rfl,la,gr,q⟩
abbrev rB:Stmt:=top 57
theorem Bj:aF cO cO (aq rB):=⟨rfl,rfl,rfl,by decide+kernel,rfl,by decide+kernel,by decide+kernel⟩
theorem Gw {f:Addr}{fd:FuncData}(F:az K "tell_first" "tell_first" rB f fd) (G:Gs mg) (vp:cE P w K mg base 1 "words_of" ["numbers"] (fun _ _ _ _=>False)) (R1:cE P w K mg base 9 "first_fit" BL (eJ cM)):ar P w K mg base (aG P w) 10 f fd cO (ij cM):=by
 refine F.ej Bj (fun vs H Q E h=> ?_) (fun ai A outer s H vs Q E hr h=> ?_)
 ·obtain⟨x,y,z,wd,hg,xs,rfl,_⟩:=h
  rfl
 ·obtain⟨x,y,z,wd,hg,xs,rfl,la,gr,q⟩:=h
  refine⟨_,Zj (Zv (ZR vp (hr.mono (by decide)) (Il (ZR R1 hr (Za (pv 0) (Za (pv 1) Zb))) Zb))),?_⟩
  exact⟨x,rfl,y,rfl,x,y,wd,hg,xs,rfl,la,gr,q⟩
theorem Kj {f:Addr}{fd:FuncData}{k:Nat}{ps:List Str} :ar P w K mg base (aG P w) k f fd ps (fun _ _ _ _=>False):=⟨fun _ _ _ _ h=>h.elim,fun _ _ _ _ _ _ _ _ _ _ _ _ _ h=>h.elim⟩
abbrev rz:Stmt:=top 53
theorem Bh:aF cO cO (aq rz):=⟨rfl,rfl,rfl,by decide+kernel,rfl,by decide+kernel,by decide+kernel⟩
inductive nN (vs:List V) (H:Hp) (Q:VK) (E:XK):Prop
 |mk (b l:Addr) (z:V) (wd hg:Int) (xs:List V) (ev:vs=[.ref b,.ref l,z]) (bd:cY H (.ref b) wd hg) (hl:H l=some (.tup xs)) (ly:bD wd hg xs) (q:∀H',aj H H'→Q (.str (dw wd hg xs)) H')
theorem Hw {f:Addr}{fd:FuncData}(F:az K "tell_shown" "tell_shown" rz f fd) (vK:Def P w K mg base 7 "lay_text" BL jT):ar P w K mg base aC 8 f fd cO nN:=by
 refine F.ok Bh (fun vs H Q E h=> ?_) (fun ai A outer s H vs Q E hr h=> ?_)
 ·obtain⟨b,l,z,wd,hg,xs,rfl,_⟩:=h
  rfl
 ·obtain⟨b,l,z,wd,hg,xs,rfl,bd,hl,ly,q⟩:=h
  refine⟨_,Zj (Zv (Zk vK hr (Za (pv 0) (Za (pv 1) Zb)))),?_⟩
  exact⟨_,rfl,_,rfl,b,l,wd,hg,xs,rfl,bd,hl,ly,q⟩
end
structure jK (K:PySem.W.Frag) (C:Addr):Prop where
 cls:fk K C
 ns:iP K C "states"
inductive eH (C:Addr) (H:Hp) (a L:Addr) (ts:List V):Prop
 |mk (dx:Addr) (ha:H a=some (.ins C dx [("states",.ref L)])) (hL:H L=some (.lst ts))
section
variable {P:Program}{w:World}{K:PySem.W.Frag}{mg:Str→Option Value}{base:Heap}{cD C:Addr}
abbrev rj:Stmt:=inClass (top 63) 2
theorem Be:aF ["self"] ["self"] (aq rj):=⟨rfl,rfl,rfl,by decide+kernel,rfl,by decide+kernel,by decide+kernel⟩
inductive qB (C cD:Addr) (vs:List V) (H:Hp) (Q:VK) (E:XK):Prop
 |mk (a L:Addr) (ts:List V) (ev:vs=[.ref a]) (d:eH C H a L ts) (ne:ts≠[]) (br:ts.length≤1000) (good:ts.length≠1→Q .ae (upd H L (.lst ts.dropLast))) (bad:ts.length=1→∀e H',aj H H'→E (.ref e) (some cD) H')
theorem Hy {f:Addr}{fd:FuncData}(F:az K "undo" "Desk.undo" rj f fd) (G:Gs mg) (DC:jK K C) (X:Exc K mg "NoDeed" cD):ar P w K mg base (aG P w) 1 f fd ["self"] (qB C cD):=by
 refine F.ej Be (fun vs H Q E h=> ?_) (fun ai A outer s H vs Q E hr h=> ?_)
 ·obtain⟨a,L,ts,rfl,_⟩:=h
  rfl
 ·obtain⟨a,L,ts,rfl,⟨dx,ha,hL⟩,ne,br,good,bad⟩:=h
  refine⟨_,Ze (ZN (Zw WN (Zn ZD rfl G.len boot_len (Za (Wp (pv 0) rfl) Zb)) Zf (bw _)) (Zj (Yf PySem.F.excBase_ValueError X.m X.x rfl (Za Zl Zb))) ZA)
   (Zj (ZS (GF PySem.F.plainAttrs_list PySem.F.slot_list_pop PySem.F.type_list_pop Hf (Wp (pv 0) rfl)))),?_⟩
  refine Zi ⟨_,rfl,a,C,dx,_,_,rfl,ha,DC.cls,DC.ns,rfl,L,ts,rfl,.inl (ak.of hL),rfl,_,rfl,?_⟩
  by_cases h1:ts.length=1
  ·rw[show decide (V.int (ts.length:Int)=V.int 1)=true from decide_eq_true (by rw[h1];rfl)]
   exact aH ⟨by show 1≤sizeLine;decide,fun e=>bad h1 e H (aj.refl H)⟩
  ·rw[show decide (V.int (ts.length:Int)=V.int 1)=false from decide_eq_false (by intro z;injection z with z;omega)]
   refine ay (ZG ?_)
   have aJ:ts.length - 1<ts.length:=by have:=List.length_pos_iff.mpr ne;omega
   exact⟨_,rfl,a,C,dx,_,_,rfl,ha,DC.cls,DC.ns,rfl,.inl ⟨rfl,_,ak.of hL⟩,L,ts,_,rfl,rfl,hL,List.getElem?_eq_getElem aJ,good h1⟩
abbrev jW:Stmt:=inClass (top 63) 0
theorem Br:aF ["self"] ["self"] (aq jW):=⟨rfl,rfl,rfl,by decide+kernel,rfl,by decide+kernel,by decide+kernel⟩
theorem IT:bD 1 1 [V.ae]:=Ud (wd:=1) (hg:=1) (by decide)
inductive wm (C:Addr) (vs:List V) (H:Hp) (Q:VK) (E:XK):Prop
 |mk (a dx:Addr) (ev:vs=[.ref a]) (ha:H a=some (.ins C dx [])) (q:∀(L:Addr) (v:V) (H':Hp),H L=none→aw a H H'→eH C H' a L [v]→di H' v 1 1 [.ae]→Q .ae H')
theorem Gn {f:Addr}{fd:FuncData}(F:az K "__init__" "Desk.__init__" jW f fd) (DC:jK K C):ar P w K mg base aC 1 f fd ["self"] (wm C):=by
 refine F.ok Br (fun vs H Q E h=> ?_) (fun ai A outer s H vs Q E hr h=> ?_)
 ·obtain⟨a,dx,rfl,_⟩:=h
  rfl
 ·obtain⟨a,dx,rfl,ha,q⟩:=h
  refine⟨_,Zj (GJ (pv 0) (Zq (Za (ZY (Za (ZY (Za Zf (Za Zf Zb))) (Za (ZY (Za Yc Zb)) Zb))) Zb)) rfl),?_⟩
  refine⟨(by show 2≤sizeLine;decide),fun b hb=> ⟨(by show 1≤sizeLine;decide),fun l hl=> ⟨(by show 2≤sizeLine;decide),fun t ht=> ⟨(by show 1≤sizeLine;decide),fun L hL=> ?_⟩⟩⟩⟩
  have s1:=ZX (o:=.tup [V.int 1,V.int 1]) hb
  have e1:upd H b (.tup [V.int 1,V.int 1]) b=some (.tup [V.int 1,V.int 1]):=Zc
  generalize upd H b (HO.tup [V.int 1,V.int 1])=H1 at s1 e1 hl ht hL ⊢
  have s2:=ZX (o:=.tup [V.ae]) hl
  have e2:upd H1 l (.tup [V.ae]) l=some (.tup [V.ae]):=Zc
  generalize upd H1 l (HO.tup [V.ae])=H2 at s2 e2 ht hL ⊢
  have s3:=ZX (o:=.tup [V.ref b,V.ref l]) ht
  have e3:upd H2 t (.tup [V.ref b,V.ref l]) t=some (.tup [V.ref b,V.ref l]):=Zc
  generalize upd H2 t (HO.tup [V.ref b,V.ref l])=H3 at s3 e3 hL ⊢
  have s4:=ZX (o:=.lst [V.ref t]) hL
  have e4:upd H3 L (.lst [V.ref t]) L=some (.lst [V.ref t]):=Zc
  generalize upd H3 L (HO.lst [V.ref t])=H4 at s4 e4 ⊢
  have wJ:=s1.trans (s2.trans (s3.trans s4))
  have yk:=wJ _ _ ha
  refine⟨_,rfl,a,C,dx,_,rfl,yk,DC.cls,DC.ns,by decide,?_⟩
  have ne:∀{p:Addr}{o:HO},H4 p=some o→(∀D dx fs,o≠.ins D dx fs)→p≠a:=fun h hn z=>by
   rw[z,yk]at h
   cases h
   exact hn _ _ _ rfl
  have k:∀{p:Addr}{ys:List V},H4 p=some (.tup ys)→upd H4 a (.ins C dx (df "states" (.ref L) [])) p=some (.tup ys):=fun h=>by
   rw[Zh (ne h fun _ _ _ z=>by cases z)]
   exact h
  refine q L (.ref t) _ ((s1.trans (s2.trans s3)).free hL) (fun p o h hn=>by rw[Zh hn];exact wJ _ _ h) ⟨dx,Zc,?_⟩ ⟨t,b,l,rfl,k (s4 _ _ e3),⟨ZH (k ((s2.trans (s3.trans s4)) _ _ e1)),by decide,by decide,by decide,by decide⟩,k ((s3.trans s4) _ _ e2),IT⟩
  rw[Zh (ne e4 fun _ _ _ z=>by cases z)]
  exact e4
end
section
variable {P:Program}{w:World}{K:PySem.W.Frag}{mg:Str→Option Value}{base:Heap}{cN:Addr}
abbrev rR:Stmt:=top 28
def qN (K:PySem.W.Frag):Sp:=fun vs H Q _=> ∃(l:Addr) (x:V) (xs:List V),vs=[.ref l,x]∧H l=some (.tup xs)∧iO K H x∧Q (.bl (bK x 0 ((xs.length:Int) - 1))) H
theorem Bs:aF ["lay", "thing"] ["lay", "thing"] (aq rR):=⟨rfl,rfl,rfl,by decide+kernel,rfl,by decide+kernel,by decide+kernel⟩
theorem Gm {f:Addr}{fd:FuncData}(F:az K "is_line" "is_line" rR f fd) (G:Gs mg) (D1:Def P w K mg base 2 "is_whole_within" ["thing", "least", "most"] (jP K)):ar P w K mg base aC 3 f fd ["lay", "thing"] (qN K):=by
 refine F.ok Bs (fun vs H Q E h=> ?_) (fun ai A outer s H vs Q E hr h=> ?_)
 ·obtain⟨l,x,xs,rfl,_⟩:=h
  rfl
 ·obtain⟨l,x,xs,rfl,hl,t,q⟩:=h
  refine⟨_,Zj (Zv (Zk D1 hr (Za (pv 1) (Za Zf (Za (Zm Yr (Zn ZD rfl G.len boot_len (Za (pv 0) Zb)) Zf) Zb))))),?_⟩
  exact⟨_,rfl,_,rfl,l,xs,rfl,.inr (au.of hl),_,_,rfl,rfl,x,0,_,rfl,t,q⟩
abbrev rS:Stmt:=top 29
def qO:Sp:=fun vs H Q _=> ∃(l:Addr) (i:Int) (xs:List V),vs=[.ref l,.int i]∧H l=some (.tup xs)∧¬(0≤i∧i≤(xs.length:Int) - 1)∧Q (.bl false) H
theorem Bt:aF ["lay", "thing"] ["lay", "thing"] (aq rS):=⟨rfl,rfl,rfl,by decide+kernel,rfl,by decide+kernel,by decide+kernel⟩
theorem Gk {f:Addr}{fd:FuncData}(F:az K "is_bare_line" "is_bare_line" rS f fd) (D1:Def P w K mg base 3 "is_line" ["lay", "thing"] (qN K)):ar P w K mg base aC 4 f fd ["lay", "thing"] qO:=by
 refine F.ok Bt (fun vs H Q E h=> ?_) (fun ai A outer s H vs Q E hr h=> ?_)
 ·obtain⟨l,x,xs,rfl,_⟩:=h
  rfl
 ·obtain⟨l,i,xs,rfl,hl,no,q⟩:=h
  refine⟨_,Zj (Zv (YX (Zk D1 hr (Za (pv 0) (Za (pv 1) Zb))) (YA (GG (Uw (Zz ZI (pv 0) (pv 1) (fun _ _=>rfl))))))),?_⟩
  refine⟨_,rfl,_,rfl,l,.int i,xs,rfl,hl,⟨_,.int i⟩,_,rfl,?_⟩
  have e:bK (.int i) 0 ((xs.length:Int) - 1)=false:=by
   show(decide (0≤i)&&decide (i≤(xs.length:Int) - 1))=false
   rw[Bool.and_eq_false_iff,decide_eq_false_iff_not,decide_eq_false_iff_not]
   omega
  rw[e]
  exact ay q
abbrev r9:Stmt:=top 55
theorem Bu:aF cO cO (aq r9):=⟨rfl,rfl,rfl,by decide+kernel,rfl,by decide+kernel,by decide+kernel⟩
inductive nV (cN:Addr) (vs:List V) (H:Hp) (Q:VK) (E:XK):Prop
 |mk (b l L:Addr) (i:Int) (xs:List V) (ev:vs=[.ref b,.ref l,.ref L]) (hl:H l=some (.tup xs)) (hL:H L=some (.lst [.int i])) (no:¬(0≤i∧i≤(xs.length:Int) - 1)) (bad:∀e H',aj H H'→E (.ref e) (some cN) H')
theorem Hk {f:Addr}{fd:FuncData}(F:az K "tell_free" "tell_free" r9 f fd) (X:Exc K mg "NoNumber" cN) (D1:Def P w K mg base 4 "is_bare_line" ["lay", "thing"] qO):ar P w K mg base (aG P w) 5 f fd cO (nV cN):=by
 refine F.ej Bu (fun vs H Q E h=> ?_) (fun ai A outer s H vs Q E hr h=> ?_)
 ·obtain⟨b,l,L,i,xs,rfl,_⟩:=h
  rfl
 ·obtain⟨b,l,L,i,xs,rfl,hl,hL,no,bad⟩:=h
  refine⟨_,Ze (ZN (Yz (Yb (Zk D1 hr (Za (pv 1) (Za (Zz ZM (pv 2) Zf (fun _ _=>rfl)) Zb))))) (Zj (Yf PySem.F.excBase_ValueError X.m X.x rfl (Za Zl Zb))) ZA) ZO,?_⟩
  refine Zi ?_
  refine⟨_,rfl,_,rfl,L,_,_,_,rfl,rfl,ak.of hL,UK,l,i,xs,rfl,hl,no,?_⟩
  exact⟨_,rfl,aH ⟨by show 1≤sizeLine;decide,fun e=>bad e H (aj.refl H)⟩⟩
end
def wU (f1 f2 f3 f4 f5:Addr):List (Key×V):=[(.inr "shown",.ref f1),(.inr "like",.ref f2),(.inr "free",.ref f3),(.inr "many",.ref f4),(.inr "first",.ref f5)]
def yW (f1 f2 f3:Addr):List (Key×V):=[(.inr "board",.ref f1),(.inr "put",.ref f2),(.inr "take",.ref f3)]
inductive Out
 |no (i:Nat)
 |tell (z:Str)
 |pop
 |push (wd hg:Int) (xs:List V)
inductive dF (n:Nat) (wd hg:Int) (xs:List V):Str→List V→Out→Prop
 |shown:dF n wd hg xs "shown" [] (.tell (dw wd hg xs))
 |many (h:6<wd∨7<hg):dF n wd hg xs "many" [] (.no 11)
 |first (h:6<wd∨7<hg):dF n wd hg xs "first" [] (.no 11)
 |free (i:Int) (h:¬(0≤i∧i<wd)):dF n wd hg xs "free" [.int i] (.no 2)
 |uY (h:n=0):dF n wd hg xs "back" [] (.no 14)
 |back (h:n≠0):dF n wd hg xs "back" [] .pop
 |uV (a b:Int) (a0:1≤a) (a1:a≤12) (b0:1≤b) (b1:b≤12):dF n wd hg xs "board" [.int a,.int b] (.push a b (List.replicate a.toNat V.ae))
 |take (i:Int) (h0:0≤i) (h1:i<wd):dF n wd hg xs "take" [.int i] (.push wd hg (xs.set i.toNat .ae))
 |vW (i:Int) (h:¬(0≤i∧i<wd)):dF n wd hg xs "take" [.int i] (.no 2)
 |put (i r:Int) (h0:0≤i) (h1:i<wd) (r0:0≤r) (r1:r<hg) (h:dy (.int r) (xs.set i.toNat .ae)=false):dF n wd hg xs "put" [.int i,.int r] (.push wd hg (xs.set i.toNat (.int r)))
 |kY (i r:Int) (h:¬((0≤i∧i<wd)∧0≤r∧r<hg)):dF n wd hg xs "put" [.int i,.int r] (.no 2)
 |wV (i r:Int) (h1:0≤i∧i<wd) (h2:0≤r∧r<hg) (h:dy (.int r) (xs.set i.toNat .ae)=true):dF n wd hg xs "put" [.int i,.int r] (.no 4)
theorem Up {n:Nat}{wd hg:Int}{xs N:List V}{W:Str}{o:Out}(h:dF n wd hg xs W N o):dv W N=true:=by
 cases h with
 |uV a b a0 a1 b0 b1=>
  show(decide (1≤a)&&decide (a≤12)&&(decide (1≤b)&&decide (b≤12)))=true
  simp[a0,a1,b0,b1]
 |_=>rfl
def Ends (cx:Nat→Addr) (H:Hp) (L:Addr) (ts:List V) (v:V) (Q:VK) (E:XK):Out→Prop
 | .no i=> ∀e H',aj H H'→E (.ref e) (some (cx i)) H'
 | .tell z=> ∀H',aj H H'→Q (.str z) H'
 | .pop=> ∀H',aw L H H'→H' L=some (.lst ts)→Q (.str "ok") H'
 | .push wd hg xs=> ∀v' H',aw L H H'→H' L=some (.lst (ts++[v]++[v']))→di H' v' wd hg xs→Q (.str "ok") H'
def jD (H H':Hp):Prop:=∀p xs,H p=some (.tup xs)→H' p=some (.tup xs)
theorem aj.CK {H H':Hp}(s:aj H H'):jD H H':=fun p xs h=>s _ _ h
theorem UW {p:Addr}{ys:List V}{H H':Hp}(s:aw p H H') (h:H p=some (.lst ys)):jD H H':=fun q xs e=>s _ _ e fun z=>by rw[z,h]at e;cases e
theorem di.keep {H H':Hp}{v:V}{wd hg:Int}{xs:List V}(h:di H v wd hg xs) (k:jD H H'):di H' v wd hg xs:=by
 obtain⟨t,b,l,ev,ht,bd,hl,ly⟩:=h
 obtain⟨a,e,ha⟩:=Zy bd.1
 cases e
 exact⟨t,b,l,ev,k _ _ ht,⟨ZH (k _ _ ha),bd.2⟩,k _ _ hl,ly⟩
def iT (P:Program) (w:World) (K:PySem.W.Frag) (mg:Str→Option Value) (base:Heap) (C:Addr) (k:Nat) (m:Str) (ps:List Str) (sp:Sp):Prop:=∃f fd,ar P w K mg base (aG P w) k f fd ps sp∧Meth K C m f∧Binds K fd ps []
def dG (P:Program) (w:World) (K:PySem.W.Frag) (mg:Str→Option Value) (base:Heap) (k:Nat) (f:Addr) (sp:Sp):Prop:=∃fd ps,ar P w K mg base (aG P w) k f fd ps sp∧PySem.W.keepIn K (.ref f)=true∧Binds K fd ps []
section
variable {P:Program}{w:World}{K:PySem.W.Frag}{mg:Str→Option Value}{base:Heap}{C aQ aD fS fL fF fM f1 fB fP fT:Addr}{cx:Nat→Addr}
abbrev og:Stmt:=inClass (top 63) 1
abbrev xm:List Str:=["self", "line", "word", "numbers", "board", "lay", "question", "deed"]
theorem iX:aF xm ["self", "line"] (aq og):=⟨rfl,rfl,rfl,by decide+kernel,rfl,by decide+kernel,by decide+kernel⟩
inductive gK (K:PySem.W.Frag) (C:Addr) (cx:Nat→Addr) (vs:List V) (H:Hp) (Q:VK) (E:XK):Prop
 |no (a:Addr) (x:V) (t:Value) (ev:vs=[.ref a,x]) (ty:cJ K H x t) (kt:PySem.W.kitOne K t (.type "str")=some false) (bad:∀e H',aj H H'→E (.ref e) (some (cx 13)) H')
 |bad (a:Addr) (z:Str) (ev:vs=[.ref a,.str z]) (hz:z.length≤1000) (hm:dv (cf z) (bV z)=false) (bad:∀e H',aj H H'→E (.ref e) (some (cx 13)) H')
 |txt (a L:Addr) (z:Str) (ts:List V) (v:V) (wd hg:Int) (xs:List V) (out:Out) (ev:vs=[.ref a,.str z]) (hz:z.length≤1000) (d:eH C H a L (ts++[v])) (sv:di H v wd hg xs) (br:ts.length≤900) (s:dF ts.length wd hg xs (cf z) (bV z) out) (q:Ends cx H L ts v Q E out)
theorem Gv {f:Addr}{fd:FuncData}(F:az K "say" "Desk.say" og f fd) (DC:jK K C) (mQ:mg "QUESTIONS" =some (.ref aQ)) (dQ:fE K w aQ (wU fS fL fF fM f1)) (mD:mg "DEEDS" =some (.ref aD)) (dD:fE K w aD (yW fB fP fT))
  (vq:cE P w K mg base 5 "read_line" ["line"] (jR K (cx 13))) (vA:iT P w K mg base C 1 "undo" ["self"] (qB C (cx 14)))
  (hS:dG P w K mg base 10 fS nN) (hF:dG P w K mg base 10 fF (nV (cx 2))) (hM:dG P w K mg base 10 fM (ij (cx 11))) (h1:dG P w K mg base 10 f1 (ij (cx 11))) (hB:dG P w K mg base 10 fB nU) (hP:dG P w K mg base 10 fP (jS (cx 2) (cx 4))) (hT:dG P w K mg base 10 fT (kS (cx 2))):
  ar P w K mg base (aG P w) 11 f fd ["self", "line"] (gK K C cx):=by
 obtain⟨fu,LV,Fu,mu,bu⟩:=vA
 refine F.ej iX (fun vs H Q E h=> ?_) (fun ai A outer s H vs Q E hr h=> ?_)
 ·cases h with
  |no a x t ev=>rw[ev];rfl
  |bad a z ev=>rw[ev];rfl
  |txt a L z ts v wd hg xs o ev=>rw[ev];rfl
 ·have dP:∀{g:Addr}{sp:Sp},dG P w K mg base 10 g sp→zG (bB (aG P w) P w K mg base xm "Desk.say" (aq og) f ai A outer s H E) (aG P w) g sp:=fun d=>by
   obtain⟨EZ,B1,F',k',b'⟩:=d
   exact⟨10,EZ,B1,F',hr,k',b'⟩
  refine⟨_,Ze (Yq (ZR vq (hr.mono (by decide)) (Za (pv 1) Zb)) (Uu rfl (ZT (ZK (i:=2) iX.nd rfl (Or.inl rfl)) (ZT (ZK (i:=3) iX.nd rfl (Or.inl rfl)) YJ))))
   (Ze (Yq (Zz ZM (Wp (pv 0) rfl) (u9 Ug Zf) (fun _ _=>rfl)) (Uu rfl (ZT (ZK (i:=4) iX.nd rfl (Or.inl rfl)) (ZT (ZK (i:=5) iX.nd rfl (Or.inl rfl)) YJ))))
   (Ze (ZN (Zw GA (pv 2) (ZF (v:=.ref aQ) rfl mQ rfl) rfl)
    (Ze (Zx (i:=6) iX.nd rfl (Or.inl rfl) (WJ (ZF (v:=.ref aQ) rfl mQ rfl) (pv 2) (fun _ _=>rfl)))
    (Zj (Zv (WK (i:=6) (pv 6) oA (Za (pv 4) (Za (pv 5) (Za (pv 3) Zb))))))) ZA)
   (Ze (ZN (Zw WN (pv 2) Zl (bw _)) (Zj (ZS (Ks (pv 0) DC.cls mu Fu (hr.mono (by decide)) bu .nil oA)))
    (Ze (Zx (i:=7) iX.nd rfl (Or.inl rfl) (WJ (ZF (v:=.ref aD) rfl mD rfl) (pv 2) (fun _ _=>rfl)))
    (Zj (ZS (JS PySem.F.plainAttrs_list PySem.F.slot_list_append PySem.F.type_list_append Y0 (Wp (pv 0) rfl) (Za (WK (i:=7) (pv 7) oA (Za (pv 4) (Za (pv 5) (Za (pv 3) Zb)))) Zb))))))
   (Zj (Zv Zl))))),?_⟩
  cases h with
  |no a x t ev ty kt bad=>
   subst ev
   exact Zi (Zu ⟨_,rfl,jR.no x t rfl ty kt bad⟩)
  |bad a z ev hz hm bad=>
   subst ev
   exact Zi (Zu ⟨_,rfl,jR.txt z rfl hz (fun h=>by rw[hm]at h;cases h) fun _=>bad⟩)
  |txt a L z ts v wd hg xs o ev hz d sv br sy q=>
   subst ev
   have hm:=Up sy
   refine Zi (Zu ⟨_,rfl,jR.txt z rfl hz (fun _ t NL H1 s1 et eN=> ?_) fun h=>by rw[hm]at h;cases h⟩)
   obtain⟨dx,ha,hL⟩:=d
   obtain⟨tt,b,l,rfl,dA,bd,hl,ly⟩:=sv
   refine⟨t,_,rfl,au.of et,rfl,_,_,rfl,_,_,rfl,rfl,?_⟩
   dsimp only[List.set]
   generalize cf z=W at *
   generalize bV z=N at *
   refine Zi (Zu ⟨_,rfl,a,C,dx,_,_,rfl,s1 _ _ ha,DC.cls,DC.ns,rfl,1,rfl,L,_,_,_,rfl,rfl,ak.of (s1 _ _ hL),Ue ts _,tt,_,rfl,au.of (s1 _ _ dA),rfl,_,_,rfl,_,_,rfl,rfl,?_⟩)
   dsimp only[List.set]
   have iN:=bd.same s1
   have bS:=s1 _ _ hl
   have push:∀{qo jl:Int}{ql:List V},Ends cx H L ts (.ref tt) Q E (.push qo jl ql)→∀v2 H2,aj H1 H2→di H2 v2 qo jl ql→∃l xs y,(V.ref L=.ref l∧[v2]=[y]∧H2 l=some (.lst xs)∧xs.length<sizeLine∧Q (.str "ok") (upd H2 l (.lst (xs++[y])))):=fun q v2 H2 s2 qA=>by
    have pE:=s2 _ _ (s1 _ _ hL)
    refine⟨L,_,v2,rfl,rfl,pE,by rw[List.length_append];show ts.length+1<sizeLine;exact Nat.lt_of_le_of_lt (Nat.succ_le_succ br) (by decide),?_⟩
    have sx:aw L H2 (upd H2 L (.lst (ts++[V.ref tt]++[v2]))):=aw.upd
    exact q v2 _ ((s1.trans s2).x.trans sx) Zc (qA.keep (UW sx pE))
   have CG:(ts++[V.ref tt]).length=ts.length+1:=by rw[List.length_append];rfl
   have ll:=ly.len
   cases sy with
   |shown=>
    refine Zi ⟨_,rfl,aQ,_,.inr "shown",rfl,rfl,dQ,_,rfl,aH ?_⟩
    refine Zi (Zu ⟨_,rfl,aQ,_,.inr "shown",.ref fS,rfl,rfl,dQ,rfl,Zo ?_⟩)
    dsimp only[List.set]
    exact⟨fS,nN,rfl,dP hS,_,rfl,_,rfl,_,rfl,.mk b l _ wd hg xs rfl iN bS ly fun H' s'=>q H' (s1.trans s')⟩
   |many h=>
    refine Zi ⟨_,rfl,aQ,_,.inr "many",rfl,rfl,dQ,_,rfl,aH ?_⟩
    refine Zi (Zu ⟨_,rfl,aQ,_,.inr "many",.ref fM,rfl,rfl,dQ,rfl,Zo ?_⟩)
    dsimp only[List.set]
    exact⟨fM,ij (cx 11),rfl,dP hM,_,rfl,_,rfl,_,rfl,.mk _ _ _ wd hg xs rfl ⟨iN,ZH bS,ly⟩ h fun e H' s'=>q e H' (s1.trans s')⟩
   |first h=>
    refine Zi ⟨_,rfl,aQ,_,.inr "first",rfl,rfl,dQ,_,rfl,aH ?_⟩
    refine Zi (Zu ⟨_,rfl,aQ,_,.inr "first",.ref f1,rfl,rfl,dQ,rfl,Zo ?_⟩)
    dsimp only[List.set]
    exact⟨f1,ij (cx 11),rfl,dP h1,_,rfl,_,rfl,_,rfl,.mk _ _ _ wd hg xs rfl ⟨iN,ZH bS,ly⟩ h fun e H' s'=>q e H' (s1.trans s')⟩
   |free i h=>
    refine Zi ⟨_,rfl,aQ,_,.inr "free",rfl,rfl,dQ,_,rfl,aH ?_⟩
    refine Zi (Zu ⟨_,rfl,aQ,_,.inr "free",.ref fF,rfl,rfl,dQ,rfl,Zo ?_⟩)
    dsimp only[List.set]
    exact⟨fF,nV (cx 2),rfl,dP hF,_,rfl,_,rfl,_,rfl,.mk b l NL i xs rfl bS eN (fun hh=>h ⟨hh.1,by omega⟩) fun e H' s'=>q e H' (s1.trans s')⟩
   |uY h=>
    refine Zi ⟨_,rfl,aQ,_,.inr "back",rfl,rfl,dQ,_,rfl,ay (ZG ?_)⟩
    dsimp only
    refine Zi ⟨_,rfl,rfl,_,rfl,aH ?_⟩
    refine⟨_,rfl,a,dx,_,rfl,s1 _ _ ha,rfl,.mk a L (ts++[.ref tt]) rfl ⟨dx,s1 _ _ ha,s1 _ _ hL⟩ (by simp) (by rw[List.length_append];show ts.length+1≤1000;omega) (fun hn=> ?_) (fun hn e H' s'=> ?_)⟩
    ·exact absurd (CG.trans (by rw[h])) hn
    ·exact q e H' (s1.trans s')
   |back h=>
    refine Zi ⟨_,rfl,aQ,_,.inr "back",rfl,rfl,dQ,_,rfl,ay (ZG ?_)⟩
    dsimp only
    refine Zi ⟨_,rfl,rfl,_,rfl,aH ?_⟩
    refine⟨_,rfl,a,dx,_,rfl,s1 _ _ ha,rfl,.mk a L (ts++[.ref tt]) rfl ⟨dx,s1 _ _ ha,s1 _ _ hL⟩ (by simp) (by rw[List.length_append];show ts.length+1≤1000;omega) (fun hn=> ?_) (fun hn e H' s'=> ?_)⟩
    ·rw[List.dropLast_concat]
     exact q _ (s1.x.trans aw.upd) Zc
    ·exact absurd (show ts.length=0 by omega) h
   |uV i r a0 a1 b0 b1=>
    refine Zi ⟨_,rfl,aQ,_,.inr "board",rfl,rfl,dQ,_,rfl,ay (ZG ?_)⟩
    dsimp only
    refine Zi ⟨_,rfl,rfl,_,rfl,ay ?_⟩
    refine Zi (Zu ⟨_,rfl,aD,_,.inr "board",.ref fB,rfl,rfl,dD,rfl,Zo ?_⟩)
    dsimp only[List.set]
    refine⟨_,rfl,a,C,dx,_,_,rfl,s1 _ _ ha,DC.cls,DC.ns,rfl,.inl ⟨rfl,_,ak.of (s1 _ _ hL)⟩,fB,nU,rfl,dP hB,_,rfl,_,rfl,_,rfl,?_⟩
    exact .mk _ _ NL i r rfl eN a0 a1 b0 b1 (push q)
   |take i h0 h1=>
    refine Zi ⟨_,rfl,aQ,_,.inr "take",rfl,rfl,dQ,_,rfl,ay (ZG ?_)⟩
    dsimp only
    refine Zi ⟨_,rfl,rfl,_,rfl,ay ?_⟩
    refine Zi (Zu ⟨_,rfl,aD,_,.inr "take",.ref fT,rfl,rfl,dD,rfl,Zo ?_⟩)
    dsimp only[List.set]
    refine⟨_,rfl,a,C,dx,_,_,rfl,s1 _ _ ha,DC.cls,DC.ns,rfl,.inl ⟨rfl,_,ak.of (s1 _ _ hL)⟩,fT,kS (cx 2),rfl,dP hT,_,rfl,_,rfl,_,rfl,?_⟩
    exact .mk b l NL wd hg i xs rfl iN bS ly eN (fun _ _=>push q) fun hh=>absurd ⟨h0,h1⟩ hh
   |vW i h=>
    refine Zi ⟨_,rfl,aQ,_,.inr "take",rfl,rfl,dQ,_,rfl,ay (ZG ?_)⟩
    dsimp only
    refine Zi ⟨_,rfl,rfl,_,rfl,ay ?_⟩
    refine Zi (Zu ⟨_,rfl,aD,_,.inr "take",.ref fT,rfl,rfl,dD,rfl,Zo ?_⟩)
    dsimp only[List.set]
    refine⟨_,rfl,a,C,dx,_,_,rfl,s1 _ _ ha,DC.cls,DC.ns,rfl,.inl ⟨rfl,_,ak.of (s1 _ _ hL)⟩,fT,kS (cx 2),rfl,dP hT,_,rfl,_,rfl,_,rfl,?_⟩
    exact .mk b l NL wd hg i xs rfl iN bS ly eN (fun u1 u2=>absurd ⟨u1,u2⟩ h) fun _ e H' s'=>q e H' (s1.trans s')
   |put i r h0 h1 r0 r1 h=>
    refine Zi ⟨_,rfl,aQ,_,.inr "put",rfl,rfl,dQ,_,rfl,ay (ZG ?_)⟩
    dsimp only
    refine Zi ⟨_,rfl,rfl,_,rfl,ay ?_⟩
    refine Zi (Zu ⟨_,rfl,aD,_,.inr "put",.ref fP,rfl,rfl,dD,rfl,Zo ?_⟩)
    dsimp only[List.set]
    refine⟨_,rfl,a,C,dx,_,_,rfl,s1 _ _ ha,DC.cls,DC.ns,rfl,.inl ⟨rfl,_,ak.of (s1 _ _ hL)⟩,fP,jS (cx 2) (cx 4),rfl,dP hP,_,rfl,_,rfl,_,rfl,?_⟩
    exact .mk b l NL wd hg i r xs rfl iN bS ly eN (fun _ _ _ _ _=>push q) (fun hh=>absurd ⟨⟨h0,h1⟩,r0,r1⟩ hh) fun _ _ hh=>by rw[h]at hh;cases hh
   |kY i r h=>
    refine Zi ⟨_,rfl,aQ,_,.inr "put",rfl,rfl,dQ,_,rfl,ay (ZG ?_)⟩
    dsimp only
    refine Zi ⟨_,rfl,rfl,_,rfl,ay ?_⟩
    refine Zi (Zu ⟨_,rfl,aD,_,.inr "put",.ref fP,rfl,rfl,dD,rfl,Zo ?_⟩)
    dsimp only[List.set]
    refine⟨_,rfl,a,C,dx,_,_,rfl,s1 _ _ ha,DC.cls,DC.ns,rfl,.inl ⟨rfl,_,ak.of (s1 _ _ hL)⟩,fP,jS (cx 2) (cx 4),rfl,dP hP,_,rfl,_,rfl,_,rfl,?_⟩
    exact .mk b l NL wd hg i r xs rfl iN bS ly eN (fun u1 u2 u3 u4 _=>absurd ⟨⟨u1,u2⟩,u3,u4⟩ h) (fun _ e H' s'=>q e H' (s1.trans s')) fun u1 u2 _=>absurd ⟨u1,u2⟩ h
   |wV i r u1 u2 h=>
    refine Zi ⟨_,rfl,aQ,_,.inr "put",rfl,rfl,dQ,_,rfl,ay (ZG ?_)⟩
    dsimp only
    refine Zi ⟨_,rfl,rfl,_,rfl,ay ?_⟩
    refine Zi (Zu ⟨_,rfl,aD,_,.inr "put",.ref fP,rfl,rfl,dD,rfl,Zo ?_⟩)
    dsimp only[List.set]
    refine⟨_,rfl,a,C,dx,_,_,rfl,s1 _ _ ha,DC.cls,DC.ns,rfl,.inl ⟨rfl,_,ak.of (s1 _ _ hL)⟩,fP,jS (cx 2) (cx 4),rfl,dP hP,_,rfl,_,rfl,_,rfl,?_⟩
    exact .mk b l NL wd hg i r xs rfl iN bS ly eN (fun _ _ _ _ hh=>by rw[h]at hh;cases hh) (fun hh=>absurd ⟨u1,u2⟩ hh) fun _ _ _ e H' s'=>q e H' (s1.trans s')
end
theorem lsN {bd:Expr}{N:List Str}{scope:Scope}(h:(decide (scope.kind=.function)&& !scope.isCoroutine&& !scope.isGenerator&&scope.names.all (fun z=>z.2 !=.cell)&&scope.names.all (fun u=>u.2 !=.free||N.contains u.1)&&N.all (fun x=>scope.names.lookup x==some .free))=true):vC iu bd scope N:=by
 simp only[Bool.and_eq_true,Bool.not_eq_true',decide_eq_true_eq,beq_iff_eq,List.all_eq_true,bne_iff_ne,ne_eq,Bool.or_eq_true,List.contains_iff_mem]at h
 obtain⟨⟨⟨⟨⟨h1,h2⟩,h3⟩,h4⟩,h5⟩,h6⟩:=h
 exact⟨h1,h2,h3,h4,fun u hu e=> (h5 u hu).resolve_left fun z=>z e,h6,fun _ _ _ _ _=>rfl⟩
theorem wX {σ:L2.St}{i j:Nat}{a b:V}(h1:σ[i]? =some (some a)) (h2:σ[j]? =some (some b)):∀(k i':Nat) v,[i,j][k]? =some i'→[a,b][k]? =some v→σ[i']? =some (some v):=fun k i' v e1 e2=>by
 match k,e1,e2 with
 |0,e1,e2=>cases e1;cases e2;exact h1
 |1,e1,e2=>cases e1;cases e2;exact h2
 |k+2,e1,e2=>simp at e1
theorem xq {X:Cx}{x y:Str}{i j:Nat}(h1:LN X x i) (h2:LN X y j):∀(k:Nat) u m,[x,y][k]? =some u→[i,j][k]? =some m→LN X u m:=fun k u m e1 e2=>by
 match k,e1,e2 with
 |0,e1,e2=>cases e1;cases e2;exact h1
 |1,e1,e2=>cases e1;cases e2;exact h2
 |k+2,e1,e2=>simp at e1
def pY (n:Nat) (wd hg:Int) (xs:List V) (z:Str) (o:Out):Prop:=(dv (cf z) (bV z)=false∧o=.no 13)∨dF n wd hg xs (cf z) (bV z) o
theorem WE {K:PySem.W.Frag}{C:Addr}{cx:Nat→Addr}{a L:Addr}{z:Str}{ts:List V}{v:V}{wd hg:Int}{xs:List V}{o:Out}{H:Hp}{Q:VK}{E:XK}(hz:z.length≤1000) (d:eH C H a L (ts++[v])) (sv:di H v wd hg xs) (br:ts.length≤900) (s:pY ts.length wd hg xs z o) (q:Ends cx H L ts v Q E o):gK K C cx [.ref a,.str z] H Q E:=by
 rcases s with ⟨h,rfl⟩ |h
 ·exact .bad a z rfl hz h q
 ·exact .txt a L z ts v wd hg xs o rfl hz d sv br h q
abbrev oy:List Nat:=[2,4,11,13,14]
theorem GN:∀i∈oy,i<15:=by decide
theorem GC {n:Nat}{wd hg:Int}{xs:List V}{z:Str}{i:Nat}(s:pY n wd hg xs z (.no i)):i∈oy:=by
 rcases s with ⟨_,h⟩ |h
 ·cases h;decide
 ·generalize cf z=W at h
  generalize bV z=N at h
  generalize ho:Out.no i=o at h
  cases h<;>cases ho<;>decide
abbrev mK (p1 p2 p3 p4:Pos):Expr:=.Call (.Attribute (.Name "_law_desk" p1) "say" p2) [.Name "_law_line" p3] [] p4
def Refs (K:PySem.W.Frag) (D:Addr) (cx:Nat→Addr) (a:Addr) (y:V) (i:Nat) (H:Hp):Prop:=∃dx fs,H a=some (.ins D dx fs)∧fs.lookup ("say" :Str)=none∧∀Q' E',(∀e H',aj H H'→E' (.ref e) (some (cx i)) H')→gK K D cx [.ref a,y] H Q' E'
section
variable {X:Cx}{kf:Nat}
theorem y6 {scope:Scope}{D f:Addr}{q:Str}{cl:List (Str×Addr)}{a:Addr}{y:V}{cx:Nat→Addr}{i:Nat}{p1 p2 p3 p4:Pos}(gz:11≤kf) (DC:jK X.K D) (hY:∀b',iT X.prog X.w X.K X.mg b' D 11 "say" ["self", "line"] (gK X.K D cx))
    (kx:scope.names.lookup ("_law_desk" :Str)=some .free) (ky:scope.names.lookup ("_law_line" :Str)=some .free)
    (ht:∀env:Env,∃pl,eval (mK p1 p2 p3 p4) env=(do
      let ov ←eval (.Name "_law_desk" p1) env
      standAt p2.atName
      let (f,first) ←holding [ov] (getMethod ov "say" pl)
      callWith p4 f first (backTo p4 (starEach [.Name "_law_line" p3] env)) (backToKw p4 (keywordEach [] env)))):
    vM X kf (cx i) f q (mK p1 p2 p3 p4) scope cl ["_law_desk", "_law_line"] [.ref a,y] (Refs X.K D cx a y i):=by
  intro eC cc A outer s2 H2 Q2 E2 hr pre hE
  obtain⟨g,fd,F,hm,hb⟩:=hY eC
  obtain⟨dx,fs,h1,h2,h3⟩:=pre
  obtain⟨pl,hp⟩:=ht (PySem.W.envX q scope s2.heap.objs.size f (.ref cc) cl)
  refine⟨_,Im (pl:=pl) (ht:=hp) (X:=mG X.prog X.w X.K X.mg eC ["_law_desk", "_law_line"] q scope f (.ref cc) cl A outer s2 H2 E2) (YW (i:=0) rfl (.inr (.inr kx)) (by decide) (by decide)) DC.cls hm F (hr.mono gz) hb .nil (E:=E2) (B4 (X:=mG X.prog X.w X.K X.mg eC ["_law_desk", "_law_line"] q scope f (.ref cc) cl A outer s2 H2 E2) (fun e s' z=>z) rfl rfl rfl)
    (Za (YW (i:=1) rfl (.inr (.inr ky)) (by decide) (by decide)) Zb),?_⟩
  exact⟨_,rfl,a,dx,fs,rfl,h1,h2,_,rfl,h3 Q2 E2 hE⟩
end
section
variable {P:Program}{w:World}{K:PySem.W.Frag}{mg:Str→Option Value}{base:Heap}{D:Addr}{cx:Nat→Addr}
abbrev da:Stmt:=top 72
abbrev ip:Str:= "_law_said.<locals>.<lambda>"
def K5 (Pg:Addr) (H:Hp) (L:Addr) (ts:List V) (v:V) (Q:VK):Out→Prop
 | .no i=> ∀l H',aw Pg H H'→TabAt H' Pg ip→H l=none→H' l=some (.lst [.int (i:Int)])→Q (.ref l) H'
 | .tell z=> ∀H',aj H H'→Q (.str z) H'
 | .pop=> ∀H',aw L H H'→H' L=some (.lst ts)→Q (.str "ok") H'
 | .push wd hg xs=> ∀v' H',aw L H H'→H' L=some (.lst (ts++[v]++[v']))→di H' v' wd hg xs→Q (.str "ok") H'
inductive gq (D Pg:Addr) (vs:List V) (H:Hp) (Q:VK) (E:XK):Prop
 |mk (a L:Addr) (z:Str) (ts:List V) (v:V) (wd hg:Int) (xs:List V) (out:Out) (ev:vs=[.ref a,.str z]) (hz:z.length≤1000) (d:eH D H a L (ts++[v])) (sv:di H v wd hg xs) (br:ts.length≤900) (s:pY ts.length wd hg xs z out) (tab:TabAt H Pg ip) (q:K5 Pg H L ts v Q out)
abbrev eR:List Str:=["_law_desk", "_law_line"]
theorem Bk:aF eR eR (aq da):=⟨rfl,rfl,rfl,by decide+kernel,rfl,by decide+kernel,by decide+kernel⟩
theorem UX {p:Addr}{ps:Array Value}{H H':Hp}(s:aw p H H') (h:H p=some (.bt ps)):jD H H':=fun q xs e=>s _ _ e fun z=>by rw[z,h]at e;cases e
theorem eH.xt {p a L:Addr}{ps:Array Value}{ts:List V}{H H':Hp}(d:eH D H a L ts) (s:aw p H H') (h:H p=some (.bt ps)):eH D H' a L ts:=by
 obtain⟨dx,h1,h2⟩:=d
 exact⟨dx,s _ _ h1 (fun z=>by rw[z,h]at h1;cases h1),s _ _ h2 fun z=>by rw[z,h]at h2;cases h2⟩
theorem eH.same {a L:Addr}{ts:List V}{H H':Hp}(d:eH D H a L ts) (s:aj H H'):eH D H' a L ts:=by
 obtain⟨dx,h1,h2⟩:=d
 exact⟨dx,s _ _ h1,s _ _ h2⟩
theorem Hu {f c Pg fR cS:Addr}{oc:Value}{od an:Option Addr}{kV doc pm ct:Value}{ck:Array (Option Value)}
    (lk:K.lookup f=some ⟨oc,od,.func (PySem.W.fnOf "_law_said" "_law_said" (bU da) (bp da) (aq da) .none kV doc pm an (.ref c) ct),ck⟩) (bJ:PySem.W.codeIn K (.ref c) "_law_said" =true)
    (DC:jK K D) (hY:∀b',iT P w K mg b' D 11 "say" ["self", "line"] (gK K D cx))
    (hR:∀b',Def P w K mg b' 13 "_law_refused" ["_law_call"] (kT P w K mg b' cS 12)) (mR:mg "_law_refused" =some (.ref fR)) (kR:PySem.W.keepIn K (.ref fR)=true)
    (MX:∀i∈oy,jC K mg cS (cx i) i) (hC:PySem.W.CodeHd base c Pg)
    (mh:∃bm ob,mg "__builtins__" =some (.ref bm)∧bm≠builtinsNs∧base.get? bm=some ob∧ob.cls=.type "module" ∧ob.dict=some builtinsNs∧ob.data=.plain):
    ar P w K mg base aC 101 f (PySem.W.fnOf "_law_said" "_law_said" (bU da) (bp da) (aq da) .none kV doc pm an (.ref c) ct) eR (gq D Pg):=by
  refine U2 lk bJ Bk (fun vs H Q E h=> ?_) (fun A outer s H vs Q E hr h=> ?_)
  · obtain⟨a,L,z,ts,v,wd,hg,xs,o,rfl,_⟩:=h
    rfl
  · obtain⟨a,L,z,ts,v,wd,hg,xs,o,rfl,hz,d,sv,br,sy,tab,q⟩:=h
    obtain⟨g,LW,Fg,Cr,bg⟩:=hY base
    have lctx:∀e ob,mT ob→LCtx ((bB aC P w K mg base eR "_law_said" (aq da) f (.ref c) A outer s H E).dN.f9 e ob) cS c Pg fR 11:=fun e ob lu=> ⟨⟨rfl,hC,mh⟩,HS lu,hR,aK.mark (hr.mono (by decide)) (by decide) _,mR,kR⟩
    have main:∃tt,cK (bB aC P w K mg base eR "_law_said" (aq da) f (.ref c) A outer s H E).dN (bp da) tt∧tt {nx:=fun _ H'=>Q .ae H',rt:=Q} (start eR [.ref a,.str z]) H:=by
      refine⟨_,Zj (Iq (X:=(bB aC P w K mg base eR "_law_said" (aq da) f (.ref c) A outer s H E).dN) (ix:=0) (iy:=1) (sp:=gK K D cx)
        rfl (hr.hd (by decide)) rfl rfl rfl (.inr (.inl rfl)) rfl (.inr (.inl rfl)) DC.cls Cr Fg (hr.mono (by decide)) bg (MX 13 (by decide)).ms rfl
        (show ∀e ob,mT ob→cK ((bB aC P w K mg base eR "_law_said" (aq da) f (.ref c) A outer s H E).dN.f9 e ob) _ (qy (vZ (bB aC P w K mg base eR "_law_said" (aq da) f (.ref c) A outer s H E).dN cS Pg 11 (mK _ _ _ _) _ ["_law_desk", "_law_line"] [0,1])) from fun e ob lu=>
          Zj (Zv (UR (X:=(bB aC P w K mg base eR "_law_said" (aq da) f (.ref c) A outer s H E).dN.f9 e ob) (idx:=[0,1]) (N:=["_law_desk", "_law_line"]) (bd:=mK _ _ _ _) (lctx e ob lu) (lsN (by decide)) rfl (xq ⟨rfl,rfl,rfl⟩ ⟨rfl,rfl,rfl⟩) rfl rfl (ze (by kernel_rfl)))))),?_⟩
      · have dd:=d
        obtain⟨dx,ha,hL⟩:=dd
        refine⟨a,dx,_,_,rfl,rfl,ha,rfl,WE hz d sv br sy ?_⟩
        cases o with
        |tell t=>exact q
        |pop=>exact q
        |push qo jl ql=>exact q
        |no i=>
         intro e H1 s1
         have hi:=GC sy
         refine⟨e,cx i,rfl,rfl,(MX i hi).xs,?_⟩
         have vX:=Z4 tab s1
         obtain⟨vR,eT,_⟩:=id vX
         refine⟨[.ref a,.str z],cx i,i,Refs K D cx a (.str z) i,rfl,wX rfl rfl,vX,GN i hi,MX i hi,fun f'=>y6 (Nat.le_refl _) DC hY rfl rfl fun env=> ⟨_,rfl⟩,fun H2 x2=> ?_,fun l H2 x2 qw nl hl=> ?_⟩
         · have d2:=(d.same s1).xt x2 eT
           have A5:=(sv.same s1).keep (UX x2 eT)
           obtain⟨Fj,Eo,_⟩:=id d2
           exact⟨Fj,_,Eo,rfl,fun Q' E' hE=>WE hz d2 A5 br sy hE⟩
         · exact q l H2 (s1.x.trans x2) qw (s1.free nl) hl
    obtain⟨tt,h1,h2⟩:=main
    exact⟨tt,h1.dN,h2⟩
end
abbrev aU:=Int×Int×List V
inductive RV
 |no (i:Nat)
 |txt (z:Str)
def rv:Out→RV
 | .no i=> .no i
 | .tell z=> .txt z
 | .pop=> .txt "ok"
 | .push _ _ _=> .txt "ok"
def sN (S:List aU):Out→List aU
 | .no _=>S
 | .tell _=>S
 | .pop=>S.tail
 | .push wd hg xs=> (wd,hg,xs)::S
abbrev jz (s:aU) (S:List aU) (z:Str) (o:Out):Prop:=z.length≤1000∧S.length≤900∧pY S.length s.1 s.2.1 s.2.2 z o
inductive Run:List aU→List Str→List RV→List aU→Prop
 |nil (S:List aU):Run S [] [] S
 |cons {s:aU}{S S':List aU}{z:Str}{zs:List Str}{o:Out}{rs:List RV} (h:jz s S z o) (r:Run (sN (s::S) o) zs rs S'):Run (s::S) (z::zs) (rv o::rs) S'
theorem Run.app {S S1 S2:List aU}{zs ws:List Str}{rs ts:List RV}(r:Run S zs rs S1) (t:Run S1 ws ts S2):Run S (zs++ws) (rs++ts) S2:=by
 induction r with
 |nil=>exact t
 |cons h _ ih=>exact .cons h (ih t)
abbrev aB (n:Int):Str:=Str.ofString (toString n)
theorem Ic:∀j∈List.range 100,dt (aB (j:Int))=.int (j:Int)∧32∉(aB (j:Int)).cps.toList∧(aB (j:Int)).length≤2:=by decide+kernel
theorem Jv {n:Int}(h0:0≤n) (h:n<100):dt (aB n)=.int n∧32∉(aB n).cps.toList∧(aB n).length≤2:=by
 obtain⟨j,rfl⟩:∃j:Nat,n=j:=⟨n.toNat,by omega⟩
 exact Ic j (List.mem_range.mpr (by omega))
theorem JX (w:Str) (ws:List Str) (h:∀x∈w::ws,32∉x.cps.toList):cf (Txt.join " " (w::ws))=w∧bV (Txt.join " " (w::ws))=ws.map dt:=by
 have e:Txt.split (Txt.join " " (w::ws)) ⟨#[32]⟩=w::ws:=by
  rw[HV,zv]
  exact Uk (by decide) _ _ h
 unfold cf bV
 rw[e]
 exact⟨rfl,rfl⟩
abbrev lF (w:Str) (a:Int):Str:=w++ " " ++aB a
abbrev ln2 (w:Str) (a b:Int):Str:=w++ " " ++aB a++ " " ++aB b
theorem Z2 (a b:Str):(a++b).length=a.length+b.length:=by
 show(a.cps++b.cps).size=_
 rw[Array.size_append]
 rfl
theorem Jz {w:Str}{a:Int}(hw:32∉w.cps.toList) (hl:w.length≤900) (a0:0≤a) (a1:a<100):cf (lF w a)=w∧bV (lF w a)=[.int a]∧(lF w a).length≤1000:=by
 obtain⟨n1,n2,n3⟩:=Jv a0 a1
 have:=JX w [aB a] (fun x hx=>by
  rcases List.mem_cons.mp hx with rfl |hx
  ·exact hw
  ·rw[List.mem_singleton.mp hx];exact n2)
 rw[Yj]at this
 refine⟨this.1,this.2.trans (by rw[List.map_cons,List.map_nil,n1]),?_⟩
 rw[Z2,Z2]
 have:(" " :Str).length=1:=by decide
 omega
theorem Yi {w:Str}{a b:Int}(hw:32∉w.cps.toList) (hl:w.length≤900) (a0:0≤a) (a1:a<100) (b0:0≤b) (b1:b<100):cf (ln2 w a b)=w∧bV (ln2 w a b)=[.int a,.int b]∧(ln2 w a b).length≤1000:=by
 obtain⟨n1,n2,n3⟩:=Jv a0 a1
 obtain⟨m1,m2,m3⟩:=Jv b0 b1
 have:=JX w [aB a,aB b] (fun x hx=>by
  rcases List.mem_cons.mp hx with rfl |hx
  ·exact hw
  ·rcases List.mem_cons.mp hx with rfl |hx
   ·exact n2
   ·rw[List.mem_singleton.mp hx];exact m2)
 rw[Yj]at this
 refine⟨this.1,this.2.trans (by rw[List.map_cons,List.map_cons,List.map_nil,n1,m1]),?_⟩
 rw[Z2,Z2,Z2,Z2]
 have:(" " :Str).length=1:=by decide
 omega
theorem ZJ {s:aU}{S:List aU}{z W:Str}{N:List V}{o:Out}(hl:S.length≤900) (r:cf z=W∧bV z=N∧z.length≤1000) (h:dF S.length s.1 s.2.1 s.2.2 W N o):jz s S z o:=by
 obtain⟨r1,r2,r3⟩:=r
 subst r1 r2
 exact⟨r3,hl,.inr h⟩
theorem Wn:cf "back" = "back" ∧bV "back" =[]∧("back" :Str).length≤1000:=by decide+kernel
theorem Jo:cf "shown" = "shown" ∧bV "shown" =[]∧("shown" :Str).length≤1000:=by decide+kernel
theorem Iu:cf "many" = "many" ∧bV "many" =[]∧("many" :Str).length≤1000:=by decide+kernel
theorem Kv:cf "first" = "first" ∧bV "first" =[]∧("first" :Str).length≤1000:=by decide+kernel
def rep (n:Nat):List RV:=List.replicate n (.txt "ok")
abbrev S1:List aU:=[(1,1,[.ae])]
theorem BE:Run S1 ["back", "shown", "put 1 0", "back 1", "back "] [.no 14,.txt "1x1: .",.no 2,.no 13,.no 13] S1:=by
 have e:dw 1 1 [.ae]= "1x1: ." :=by decide+kernel
 refine .cons (o:=.no 14) (ZJ (by decide) Wn (.uY rfl)) ?_
 refine e▸.cons (o:=.tell (dw 1 1 [.ae])) (ZJ (by decide) Jo .shown) ?_
 refine .cons (o:=.no 2) (ZJ (W:= "put") (N:=[.int 1,.int 0]) (by decide) (by decide+kernel) (.kY 1 0 (by decide))) ?_
 refine .cons (o:=.no 13) ⟨by decide+kernel,by decide,.inl ⟨by decide+kernel,rfl⟩⟩ ?_
 exact .cons (o:=.no 13) ⟨by decide+kernel,by decide,.inl ⟨by decide+kernel,rfl⟩⟩ (.nil _)
theorem WF {wd hg:Int}(w1:1≤wd) (w2:wd≤12):∀(ks:List Int),(∀k∈ks,0≤k∧k<wd)→∀(xs:List V) (S:List aU),S.length+ks.length≤900→∃(T:List aU),T.length=ks.length∧Run ((wd,hg,xs)::S) (ks.map (lF "take")) (rep ks.length) (T++(wd,hg,xs)::S)
 | [],_,xs,S,_=> ⟨[],rfl,.nil _⟩
 |k::ks,h,xs,S,hl=>by
  obtain⟨k0,k1⟩:=h k List.mem_cons_self
  rw[List.length_cons]at hl
  obtain⟨T,e,r⟩:=WF w1 w2 ks (fun j hj=>h j (List.mem_cons_of_mem _ hj)) (xs.set k.toNat .ae) ((wd,hg,xs)::S) (by rw[List.length_cons];omega)
  refine⟨T++[(wd,hg,xs.set k.toNat .ae)],by rw[List.length_append,e];rfl,?_⟩
  rw[List.append_assoc]
  exact .cons (o:=.push wd hg (xs.set k.toNat .ae)) (ZJ (by omega) (Jz (by decide) (by decide) k0 (by omega)) (.take k k0 k1)) r
theorem Jl:∀(T:List aU) (s:aU) (S:List aU),S.length+T.length≤900→Run (T++s::S) (List.replicate T.length "back") (rep T.length) (s::S)
 | [],s,S,_=> .nil _
 |t::T,s,S,h=>by
  rw[List.length_cons]at h
  have hl:(T++s::S).length≤900:=by rw[List.length_append,List.length_cons];omega
  exact .cons (o:=.pop) (ZJ hl Wn (.back (by show(T++s::S).length≠0;rw[List.length_append,List.length_cons];omega))) (Jl T s S (by omega))
def bj (i:Nat):List V→List Str
 | []=> []
 | .int r::xs=>ln2 "put" (i:Int) r::bj (i+1) xs
 |_::xs=>bj (i+1) xs
theorem WH:∀(xs ys:List V) (i:Nat),bj i (xs++ys)=bj i xs++bj (i+xs.length) ys
 | [],ys,i=>rfl
 |x::xs,ys,i=>by
  have ih:=WH xs ys (i+1)
  rw[show i+1+xs.length=i+(x::xs).length by rw[List.length_cons];omega]at ih
  cases x with
  |int r=>show ln2 "put" (i:Int) r::bj (i+1) (xs++ys)=ln2 "put" (i:Int) r::(bj (i+1) xs++_);rw[ih]
  |_=>exact ih
theorem YI:∀(xs:List V) (i:Nat),(bj i xs).length≤xs.length
 | [],i=>Nat.le_refl _
 |x::xs,i=>by
  have ih:=YI xs (i+1)
  cases x with
  |int r=>exact Nat.succ_le_succ ih
  |_=>exact Nat.le_succ_of_le ih
theorem Hg {r:Int}{xs:List V}(h:∀y∈xs,y=.ae∨∃j:Int,y=.int j∧j≠r):dy (.int r) xs=false:=by
 unfold dy
 rw[List.any_eq_false]
 intro y hy
 rcases h y hy with rfl |⟨j,rfl,hj⟩
 ·simp[gj]
 ·simp[gj,hj]
theorem Wu {wd hg r:Int}{xs:List V}(ly:bD wd hg xs) (h:V.int r∈xs):0≤r∧r<hg:=by
 have q:(decide (0≤r)&&decide (r≤hg - 1))=true:=ly.row _ (List.mem_filter.mpr ⟨h,by simp⟩)
 rw[Bool.and_eq_true,decide_eq_true_eq,decide_eq_true_eq]at q
 omega
theorem Wi {wd hg:Int}(w2:wd≤12) (g2:hg≤12):∀(zs ys:List V) (S:List aU),bD wd hg (ys++zs)→S.length+zs.length≤900→∃U:List aU,U.length=(bj ys.length zs).length∧
  Run ((wd,hg,ys++List.replicate zs.length .ae)::S) (bj ys.length zs) (rep (bj ys.length zs).length) (U++(wd,hg,ys++List.replicate zs.length .ae)::S)∧(U++(wd,hg,ys++List.replicate zs.length V.ae)::S).head? =some (wd,hg,ys++zs)
 | [],ys,S,ly,hl=> ⟨[],rfl,.nil _,rfl⟩
 |v::zs,ys,S,ly,hl=>by
  rw[List.length_cons]at hl
  have ll:=ly.len
  rw[List.length_append,List.length_cons]at ll
  have e1:ys++v::zs=(ys++[v])++zs:=by rw[List.append_assoc];rfl
  have el:(ys++[v]).length=ys.length+1:=by rw[List.length_append];rfl
  have eN:ys++List.replicate (v::zs).length V.ae=ys++V.ae::List.replicate zs.length .ae:=by rw[List.length_cons,List.replicate_succ]
  rw[eN]
  rcases ly.ok v (List.mem_append_right _ List.mem_cons_self) with rfl |⟨r,rfl⟩
  ·obtain⟨U,h1,h2,h3⟩:=Wi w2 g2 zs (ys++[.ae]) S (e1▸ly) (by omega)
   rw[List.append_assoc,el]at h2
   rw[el]at h1
   rw[←e1,List.append_assoc]at h3
   exact⟨U,h1,h2,h3⟩
  ·obtain⟨r0,r1⟩:=Wu ly (List.mem_append_right _ List.mem_cons_self)
   have xI:∀x:V,(ys++V.ae::List.replicate zs.length .ae).set ((ys.length:Int)).toNat x=ys++x::List.replicate zs.length .ae:=fun x=>by
    rw[Int.toNat_natCast,List.set_append_right _ _ (Nat.le_refl _),Nat.sub_self,List.set_cons_zero]
   obtain⟨U,h1,h2,h3⟩:=Wi w2 g2 zs (ys++[.int r]) ((wd,hg,ys++V.ae::List.replicate zs.length .ae)::S) (e1▸ly) (by rw[List.length_cons];omega)
   rw[List.append_assoc,el]at h2
   rw[el]at h1
   rw[List.append_assoc,←e1]at h3
   have hn:dy (.int r) ((ys++V.ae::List.replicate zs.length .ae).set ((ys.length:Int)).toNat .ae)=false:=by
    rw[xI]
    refine Hg fun y hy=> ?_
    rcases List.mem_append.mp hy with hy |hy
    ·rcases ly.ok y (List.mem_append_left _ hy) with rfl |⟨j,rfl⟩
     ·exact .inl rfl
     ·refine .inr ⟨j,rfl,fun z=> ?_⟩
      subst z
      have nd:=ly.nd
      unfold rowsOf at nd
      rw[List.filter_append,List.filter_cons_of_pos (by simp),List.nodup_append]at nd
      exact nd.2.2 _ (List.mem_filter.mpr ⟨hy,by simp⟩) _ List.mem_cons_self rfl
    ·rcases List.mem_cons.mp hy with rfl |hy
     ·exact .inl rfl
     ·exact .inl (List.mem_replicate.mp hy).2
   have sy:jz (wd,hg,ys++V.ae::List.replicate zs.length .ae) S (ln2 "put" (ys.length:Int) r) (.push wd hg _):=ZJ (by omega) (Yi (by decide) (by decide) (by omega) (by omega) r0 (by omega)) (.put (ys.length:Int) r (by omega) (by show(ys.length:Int)<wd;omega) r0 r1 hn)
   refine⟨U++[(wd,hg,ys++V.int r::List.replicate zs.length .ae)],by rw[List.length_append,h1];rfl,?_,?_⟩
   ·rw[List.append_assoc]
    refine .cons sy ?_
    show Run ((wd,hg,List.set _ _ _)::_) _ _ _
    rw[xI]
    exact h2
   ·rw[List.append_assoc]
    exact h3
def dY:List Str:=["01", "00", "-1", "+1", "123", "1_0", "a", "1.", ".", "", "1\n", "1\t", "\t1"]
abbrev y8 (W:Str):List Str:=["board " ++W++ " 1", "board 1 " ++W, "put " ++W++ " 0", "put 0 " ++W, "take " ++W]
abbrev F4 (W:Str):List Str:=["free " ++W, "board 0 1", "board 1 0", "board 13 1", "board 1 13", "board", "board 1"]
abbrev bO:List Str:=["board 1 1 1", "put", "put 0", "put 0 0 0", "take", "take 0 0", "free", "free 0 0", "back ", " back"]
abbrev cA:List Str:=["Back", "back 1", "shown ", "shown 1", "like ", "like 0", "many ", "many 1", "first first", "", " "]
abbrev dE:List Str:=["more", "put  0 0", "board  1 1", "take  0", "shown\n", "first\t", "take ", "free ", "put 0 "]
abbrev F3 (W:Str):List Str:=["put  0", "board 1 ", "board  1", "put 99 " ++W, "take 99 0", "free 99 0", "put 99 0 0"]
def kA (W:Str):List Str:=y8 W++F4 W++bO++cA++dE++F3 W
abbrev nz (z:Str):Prop:=dv (cf z) (bV z)=false∧z.length≤1000
theorem u6:∀W∈dY,∀z∈y8 W++["free " ++W, "put 99 " ++W],nz z:=by decide+kernel
theorem Ge:∀z∈(["board 0 1", "board 1 0", "board 13 1", "board 1 13", "board", "board 1"]:List Str),nz z:=by decide+kernel
theorem u5:∀z∈bO++cA++dE,nz z:=by decide+kernel
theorem U7:∀z∈(["put  0", "board 1 ", "board  1", "take 99 0", "free 99 0", "put 99 0 0"]:List Str),nz z:=by decide+kernel
theorem GY {W z:Str}(hW:W∈dY) (hz:z∈kA W):nz z:=by
 unfold kA at hz
 rcases List.mem_append.mp hz with hz |hz
 ·rcases List.mem_append.mp hz with hz |jd
  ·rcases List.mem_append.mp hz with hz |lO
   ·rcases List.mem_append.mp hz with hz |lP
    ·rcases List.mem_append.mp hz with hz |hz
     ·exact u6 W hW z (List.mem_append_left _ hz)
     ·rcases List.mem_cons.mp hz with rfl |hz
      ·exact u6 W hW _ (List.mem_append_right _ List.mem_cons_self)
      ·exact Ge z hz
    ·exact u5 z (List.mem_append_left _ (List.mem_append_left _ lP))
   ·exact u5 z (List.mem_append_left _ (List.mem_append_right _ lO))
  ·exact u5 z (List.mem_append_right _ jd)
 ·rcases List.mem_cons.mp hz with rfl |hz
  ·exact U7 _ (by simp)
  ·rcases List.mem_cons.mp hz with rfl |hz
   ·exact U7 _ (by simp)
   ·rcases List.mem_cons.mp hz with rfl |hz
    ·exact U7 _ (by simp)
    ·rcases List.mem_cons.mp hz with rfl |hz
     ·exact u6 W hW _ (List.mem_append_right _ (List.mem_cons_of_mem _ List.mem_cons_self))
     ·exact U7 z (List.mem_cons_of_mem _ (List.mem_cons_of_mem _ (List.mem_cons_of_mem _ hz)))
theorem IG:∀W∈dY,W.length≤20:=by decide+kernel
theorem cF {a W:Str}(ha:a.length≤20) (hW:W.length≤20):a.length+W.length≤sizeLine:=Nat.le_trans (by omega:_≤60) (by decide)
theorem cQ {a W b:Str}(ha:a.length≤20) (hW:W.length≤20) (hb:b.length≤20):(a++W).length+b.length≤sizeLine:=by
 rw[Z2]
 exact Nat.le_trans (by omega:_≤60) (by decide)
section
variable {P:Program}{w:World}{K:PySem.W.Frag}{mg:Str→Option Value}{base:Heap}
abbrev jX:Stmt:=top 73
abbrev Cm:List Str:=["_law_state_here", "_law_word", "_law_some"]
def cX (k:Nat):List Expr:=match k,bp jX with
 |1,.Assign _ (.Subscript (.List es _) _ _) _::_=>es
 |3,_::_:: .Assign _ (.BinOp _ _ (.List (_::es) _) _) _::_=>es
 |4,_::_::_:: .Assign _ (.BinOp _ _ (.List es _) _) _::_=>es
 |5,_::_::_::_:: .Assign _ (.BinOp _ _ (.List es _) _) _::_=>es
 |6,_::_::_::_::_:: .Assign _ (.BinOp _ _ (.List es _) _) _::_=>es
 |7,_::_::_::_::_::_:: .Assign _ (.BinOp _ _ (.List (_::_::_::_::es) _) _) _::_=>es
 |_,_=> []
def FW (e1 e3 e4 e5 e6 e7:List Expr):List Stmt:=match bp jX with
 | [.Assign a1 (.Subscript (.List _ a2) a3 a4) a5,b,.Assign c1 (.BinOp c2 c3 (.List (c4::_) c5) c6) c7,.Assign d1 (.BinOp d2 d3 (.List _ d5) d6) d7,.Assign f1 (.BinOp f2 f3 (.List _ f5) f6) f7,.Assign g1 (.BinOp g2 g3 (.List _ g5) g6) g7,
   .Assign h1 (.BinOp h2 h3 (.List (i1::i2::i3::i4::_) h5) h6) h7,r]=>
  [.Assign a1 (.Subscript (.List e1 a2) a3 a4) a5,b,.Assign c1 (.BinOp c2 c3 (.List (c4::e3) c5) c6) c7,.Assign d1 (.BinOp d2 d3 (.List e4 d5) d6) d7,.Assign f1 (.BinOp f2 f3 (.List e5 f5) f6) f7,.Assign g1 (.BinOp g2 g3 (.List e6 g5) g6) g7,
   .Assign h1 (.BinOp h2 h3 (.List (i1::i2::i3::i4::e7) h5) h6) h7,r]
 |_=> []
theorem GZ:bp jX=FW (cX 1) (cX 3) (cX 4) (cX 5) (cX 6) (cX 7):=by kernel_rfl
abbrev vQ:List V:=[.str "board 0 1",.str "board 1 0",.str "board 13 1",.str "board 1 13",.str "board",.str "board 1"]
abbrev vP:List V:=[.str "take 99 0",.str "free 99 0",.str "put 99 0 0"]
theorem F2:gN (cX 1)=some (dY.map V.str):=by kernel_rfl
theorem F1:gN (cX 3)=some vQ:=by kernel_rfl
theorem F0:gN (cX 4)=some (bO.map V.str):=by kernel_rfl
theorem FZ:gN (cX 5)=some (cA.map V.str):=by kernel_rfl
theorem FY:gN (cX 6)=some (dE.map V.str):=by kernel_rfl
theorem FX:gN (cX 7)=some vP:=by kernel_rfl
theorem ik:aF Cm ["_law_state_here"] (aq jX):=⟨rfl,rfl,rfl,by decide+kernel,rfl,by decide+kernel,by decide+kernel⟩
inductive qU (vs:List V) (H:Hp) (Q:VK) (E:XK):Prop
 |mk (p:Addr) (ev:vs=[.ref p]) (st:bP H p) (q:∀(W:Str) (l l1 t1:Addr) (H':Hp),W∈dY→H l=none→aw p H H'→bP H' p→H' l=some (.lst ((kA W).map V.str++[.ae,.int 7,.ref l1,.ref t1,.bl true]))→H' l1=some (.lst [.str "shown"])→H l1=none→H' t1=some (.tup [.str "shown"])→Q (.ref l) H')
theorem bP.fU {H H':Hp}{p:Addr}(h:bP H p) (s:aj H H'):bP H' p:=by
 obtain⟨u,v,e,r⟩:=h
 exact⟨u,v,s _ _ e,r⟩
theorem U1 {p l:Addr}{H H':Hp}(s:aw p H H') (st:bP H' p) (h:H' l=none):H l=none:=by
 cases e:H l with
 |none=>rfl
 |some o=>
  by_cases z:l=p
  ·obtain⟨u,v,e2,_⟩:=st
   rw[z,e2]at h
   cases h
  ·rw[s _ _ e z]at h
   cases h
abbrev bF (W:Str):List V:=[.str ("board " ++W++ " 1"),.str ("board 1 " ++W),.str ("put " ++W++ " 0"),.str ("put 0 " ++W),.str ("take " ++W)]
abbrev bE (W:Str):List V:=.str ("free " ++W)::vQ
abbrev gJ (W:Str):List V:=.str "put  0" :: .str "board 1 " :: .str "board  1" :: .str ("put 99 " ++W)::vP
theorem Gi {f:Addr}{fd:FuncData}(F:az K "_law_bad_lines" "_law_bad_lines" jX f fd) (D1:Def P w K mg base 1 "_law_take" ["_law_state_here", "_law_many"] jQ):ar P w K mg base aC 2 f fd ["_law_state_here"] qU:=by
 refine F.ok ik (fun vs H Q E h=> ?_) (fun ai A outer s H vs Q E hr h=> ?_)
 ·obtain⟨p,rfl,_⟩:=h
  rfl
 ·obtain⟨p,rfl,st,q⟩:=h
  rw[GZ]
  have i1:=F2
  have i3:=F1
  have i4:=F0
  have i5:=FZ
  have i6:=FY
  have i7:=FX
  generalize cX 1=e1 at i1
  generalize cX 3=e3 at i3
  generalize cX 4=e4 at i4
  generalize cX 5=e5 at i5
  generalize cX 6=e6 at i6
  generalize cX 7=e7 at i7
  refine⟨_,Ze (Zx (i:=1) ik.nd rfl (Or.inl rfl) (Zz ZM (Zq (YB i1)) (Zk D1 hr (Za (pv 0) (Za Zf Zb))) (fun _ _=>rfl)))
   (Ze (Zx (i:=2) ik.nd rfl (Or.inl rfl) (Zq (Za (Zm Zs (Zm Zs Zl (pv 1)) Zl) (Za (Zm Zs Zl (pv 1)) (Za (Zm Zs (Zm Zs Zl (pv 1)) Zl) (Za (Zm Zs Zl (pv 1)) (Za (Zm Zs Zl (pv 1)) Zb)))))))
   (Ze (Zx (i:=2) ik.nd rfl (Or.inl rfl) (Zm ZW (pv 2) (Zq (Za (Zm Zs Zl (pv 1)) (YB i3)))))
   (Ze (Zx (i:=2) ik.nd rfl (Or.inl rfl) (Zm ZW (pv 2) (Zq (YB i4))))
   (Ze (Zx (i:=2) ik.nd rfl (Or.inl rfl) (Zm ZW (pv 2) (Zq (YB i5))))
   (Ze (Zx (i:=2) ik.nd rfl (Or.inl rfl) (Zm ZW (pv 2) (Zq (YB i6))))
   (Ze (Zx (i:=2) ik.nd rfl (Or.inl rfl) (Zm ZW (pv 2) (Zq (Za Zl (Za Zl (Za Zl (Za (Zm Zs Zl (pv 1)) (YB i7))))))))
   (Zj (Zv (Zm ZW (pv 2) (Zq (Za Yc (Za Zf (Za (Zq (Za Zl Zb)) (Za (ZY (Za Zl Zb)) (Za Y4 Zb))))))))))))))),?_⟩
  refine Zi (Zu ⟨(by show 13≤sizeLine;decide),fun l0 tP=> ?_⟩)
  have s1:=Zd (o:=.lst (dY.map V.str)) tP
  have ju:upd H l0 (.lst (dY.map V.str)) l0=some (.lst (dY.map V.str)):=Zc
  generalize upd H l0 (HO.lst (dY.map V.str))=H1 at s1 ju ⊢
  have cj:=st.fU s1
  refine⟨_,rfl,p,13,rfl,cj,by decide,by decide,fun r o r0 r1 bH=> ?_⟩
  have x2:aw p H1 (upd H1 p o):=aw.upd
  generalize upd H1 p o=H2 at bH x2 ⊢
  have np:l0≠p:=fun z=>by
   obtain⟨u,v,ep,_⟩:=st
   rw[z,ep]at tP
   cases tP
  obtain⟨j,rfl⟩:∃j:Nat,r=j:=⟨r.toNat,by omega⟩
  have hj:j<dY.length:=by show j<13;omega
  refine⟨l0,_,_,_,rfl,rfl,ak.of (x2 _ _ ju np),YT (by rw[List.getElem?_map,List.getElem?_eq_getElem hj];rfl),Zo ?_⟩
  have hW:dY[j]∈dY:=List.getElem_mem hj
  generalize dY[j]=W at hW ⊢
  have lW:=IG W hW
  dsimp only[List.set]
  have X2:aw p H H2:=s1.x.trans x2
  clear x2 ju s1 cj np
  refine Zi (Zu ⟨_,rfl,_,_,rfl,rfl,cF (by decide) lW,_,_,rfl,rfl,cQ (by decide) lW (by decide),_,rfl,_,_,rfl,rfl,cF (by decide) lW,_,rfl,_,_,rfl,rfl,cF (by decide) lW,_,_,rfl,rfl,cQ (by decide) lW (by decide),_,rfl,_,_,rfl,rfl,cF (by decide) lW,_,rfl,_,_,rfl,rfl,cF (by decide) lW,(by show 5≤sizeLine;decide),fun a1 h1=>Zo ?_⟩)
  have k3:=Zd (o:=.lst (bF W)) h1
  have c3:upd H2 a1 (.lst (bF W)) a1=some (.lst (bF W)):=Zc
  generalize upd H2 a1 (HO.lst (bF W))=H3 at k3 c3 ⊢
  dsimp only[List.set]
  have Xa:aw p H H3:=X2.trans k3.x
  have sa:=bH.fU k3
  clear k3 X2 bH
  refine Zi (Zu ⟨_,rfl,_,rfl,_,_,rfl,rfl,cF (by decide) lW,(by show 7≤sizeLine;decide),fun b0 hb=> ?_⟩)
  have kb:=Zd (o:=.lst (bE W)) hb
  have cb:upd H3 b0 (.lst (bE W)) b0=some (.lst (bE W)):=Zc
  generalize upd H3 b0 (HO.lst (bE W))=H4 at kb cb ⊢
  refine⟨a1,b0,_,_,rfl,rfl,kb _ _ c3,cb,(by show 12≤sizeLine;decide),fun n0 ha=>Zo ?_⟩
  have ka:=Zd (o:=.lst (bF W++(bE W))) ha
  have uU:upd H4 n0 (.lst (bF W++(bE W))) n0=some (.lst (bF W++(bE W))):=Zc
  generalize upd H4 n0 (HO.lst (bF W++(bE W)))=H5 at ka uU ⊢
  dsimp only[List.set]
  have zA:aw p H H5:=Xa.trans (kb.trans ka).x
  have wu:=sa.fU (kb.trans ka)
  clear Xa sa c3 kb ka cb
  refine Zi (Zu ⟨_,rfl,(by show 10≤sizeLine;decide),fun b1 hb=> ?_⟩)
  have kb:=Zd (o:=.lst (bO.map V.str)) hb
  have cb:upd H5 b1 (.lst (bO.map V.str)) b1=some (.lst (bO.map V.str)):=Zc
  generalize upd H5 b1 (HO.lst (bO.map V.str))=H6 at kb cb ⊢
  refine⟨n0,b1,_,_,rfl,rfl,kb _ _ uU,cb,(by show 22≤sizeLine;decide),fun n1 ha=>Zo ?_⟩
  have ka:=Zd (o:=.lst ((bF W++(bE W))++(bO.map V.str))) ha
  have uT:upd H6 n1 (.lst ((bF W++(bE W))++(bO.map V.str))) n1=some (.lst ((bF W++(bE W))++(bO.map V.str))):=Zc
  generalize upd H6 n1 (HO.lst ((bF W++(bE W))++(bO.map V.str)))=H7 at ka uT ⊢
  dsimp only[List.set]
  have zz:aw p H H7:=zA.trans (kb.trans ka).x
  have wt:=wu.fU (kb.trans ka)
  clear zA wu uU kb ka cb
  refine Zi (Zu ⟨_,rfl,(by show 11≤sizeLine;decide),fun b2 hb=> ?_⟩)
  have kb:=Zd (o:=.lst (cA.map V.str)) hb
  have cb:upd H7 b2 (.lst (cA.map V.str)) b2=some (.lst (cA.map V.str)):=Zc
  generalize upd H7 b2 (HO.lst (cA.map V.str))=H8 at kb cb ⊢
  refine⟨n1,b2,_,_,rfl,rfl,kb _ _ uT,cb,(by show 33≤sizeLine;decide),fun n2 ha=>Zo ?_⟩
  have ka:=Zd (o:=.lst (((bF W++(bE W))++(bO.map V.str))++(cA.map V.str))) ha
  have uS:upd H8 n2 (.lst (((bF W++(bE W))++(bO.map V.str))++(cA.map V.str))) n2=some (.lst (((bF W++(bE W))++(bO.map V.str))++(cA.map V.str))):=Zc
  generalize upd H8 n2 (HO.lst (((bF W++(bE W))++(bO.map V.str))++(cA.map V.str)))=H9 at ka uS ⊢
  dsimp only[List.set]
  have zy:aw p H H9:=zz.trans (kb.trans ka).x
  have wq:=wt.fU (kb.trans ka)
  clear zz wt uT kb ka cb
  refine Zi (Zu ⟨_,rfl,(by show 9≤sizeLine;decide),fun b3 hb=> ?_⟩)
  have kb:=Zd (o:=.lst (dE.map V.str)) hb
  have cb:upd H9 b3 (.lst (dE.map V.str)) b3=some (.lst (dE.map V.str)):=Zc
  generalize upd H9 b3 (HO.lst (dE.map V.str))=jH at kb cb ⊢
  refine⟨n2,b3,_,_,rfl,rfl,kb _ _ uS,cb,(by show 42≤sizeLine;decide),fun n3 ha=>Zo ?_⟩
  have ka:=Zd (o:=.lst ((((bF W++(bE W))++(bO.map V.str))++(cA.map V.str))++(dE.map V.str))) ha
  have uR:upd jH n3 (.lst ((((bF W++(bE W))++(bO.map V.str))++(cA.map V.str))++(dE.map V.str))) n3=some (.lst ((((bF W++(bE W))++(bO.map V.str))++(cA.map V.str))++(dE.map V.str))):=Zc
  generalize upd jH n3 (HO.lst ((((bF W++(bE W))++(bO.map V.str))++(cA.map V.str))++(dE.map V.str)))=iR at ka uR ⊢
  dsimp only[List.set]
  have zx:aw p H iR:=zy.trans (kb.trans ka).x
  have wo:=wq.fU (kb.trans ka)
  clear zy wq uS kb ka cb
  refine Zi (Zu ⟨_,rfl,_,rfl,_,_,rfl,rfl,cF (by decide) lW,(by show 7≤sizeLine;decide),fun b4 hb=> ?_⟩)
  have kb:=Zd (o:=.lst (gJ W)) hb
  have cb:upd iR b4 (.lst (gJ W)) b4=some (.lst (gJ W)):=Zc
  generalize upd iR b4 (HO.lst (gJ W))=qf at kb cb ⊢
  refine⟨n3,b4,_,_,rfl,rfl,kb _ _ uR,cb,(by show 49≤sizeLine;decide),fun n4 ha=>Zo ?_⟩
  have ka:=Zd (o:=.lst (((((bF W++(bE W))++(bO.map V.str))++(cA.map V.str))++(dE.map V.str))++(gJ W))) ha
  have y4:upd qf n4 (.lst (((((bF W++(bE W))++(bO.map V.str))++(cA.map V.str))++(dE.map V.str))++(gJ W))) n4=some (.lst (((((bF W++(bE W))++(bO.map V.str))++(cA.map V.str))++(dE.map V.str))++(gJ W))):=Zc
  generalize upd qf n4 (HO.lst (((((bF W++(bE W))++(bO.map V.str))++(cA.map V.str))++(dE.map V.str))++(gJ W)))=jG at ka y4 ⊢
  dsimp only[List.set]
  have va:aw p H jG:=zx.trans (kb.trans ka).x
  have qV:=wo.fU (kb.trans ka)
  clear zx wo uR kb ka cb
  refine⟨_,rfl,(by show 1≤sizeLine;decide),fun l1 bS=> ⟨(by show 1≤sizeLine;decide),fun t1 xG=> ⟨(by show 5≤sizeLine;decide),fun b hb=> ?_⟩⟩⟩
  have m1:=Zd (o:=.lst [V.str "shown"]) bS
  have d1:upd jG l1 (.lst [V.str "shown"]) l1=some (.lst [V.str "shown"]):=Zc
  generalize upd jG l1 (HO.lst [V.str "shown"])=G1 at m1 d1 xG hb ⊢
  have m2:=Zd (o:=.tup [V.str "shown"]) xG
  have d2:upd G1 t1 (.tup [V.str "shown"]) t1=some (.tup [V.str "shown"]):=Zc
  generalize upd G1 t1 (HO.tup [V.str "shown"])=G2 at m2 d2 hb ⊢
  have m3:=Zd (o:=.lst [V.ae,V.int 7,V.ref l1,V.ref t1,V.bl true]) hb
  have d3:upd G2 b (.lst [V.ae,V.int 7,V.ref l1,V.ref t1,V.bl true]) b=some (.lst [V.ae,V.int 7,V.ref l1,V.ref t1,V.bl true]):=Zc
  generalize upd G2 b (HO.lst [V.ae,V.int 7,V.ref l1,V.ref t1,V.bl true])=G3 at m3 d3 ⊢
  have j6:=m1.trans (m2.trans m3)
  refine⟨n4,b,_,_,rfl,rfl,j6 _ _ y4,d3,(by show 54≤sizeLine;decide),fun c hc=> ?_⟩
  have m4:=Zd (o:=.lst ((((((bF W++(bE W))++(bO.map V.str))++(cA.map V.str))++(dE.map V.str))++(gJ W))++[V.ae,V.int 7,V.ref l1,V.ref t1,V.bl true])) hc
  have mm:=j6.trans m4
  exact q W c l1 t1 _ hW (U1 (va.trans j6.x) (qV.fU j6) hc) (va.trans mm.x) (qV.fU mm) Zc ((m2.trans (m3.trans m4)) _ _ d1) (U1 va qV bS) ((m3.trans m4) _ _ d2)
end
def Fr (ex:List Addr) (H H':Hp):Prop:=∀b o,H b=some o→b∉ex→H' b=some o
section
variable {ex uD:List Addr}{H H' H1 H2:Hp}
theorem Fr.trans (a:Fr ex H H1) (b:Fr ex H1 H2):Fr ex H H2:=fun c o h n=>b c o (a c o h n) n
theorem Fr.refl:Fr ex H H:=fun _ _ h _=>h
theorem Fr.same (s:aj H H1):Fr ex H H1:=fun c o h _=>s c o h
theorem Fr.of {p:Addr}(s:aw p H H1) (m:p∈ex):Fr ex H H1:=fun c o h n=>s c o h fun z=>n (z▸m)
theorem Fr.mono (a:Fr ex H H1) (m:∀b∈ex,b∈uD):Fr uD H H1:=fun c o h n=>a c o h fun z=>n (m c z)
end
def fG (L Pg:Addr) (H:Hp) (v:V):RV→Prop
 | .no i=> ∃l,v=.ref l∧l∉[L,Pg]∧H l=some (.lst [.int (i:Int)])
 | .txt z=>v=.str z
theorem fG.fr {L Pg:Addr}{H H':Hp}{v:V}{r:RV}(h:fG L Pg H v r) (f:Fr [L,Pg] H H'):fG L Pg H' v r:=by
 cases r with
 |no i=>
  obtain⟨l,e,n,hl⟩:=h
  exact⟨l,e,n,f _ _ hl n⟩
 |txt z=>exact h
abbrev vn (H:Hp) (v:V) (s:aU):Prop:=di H v s.1 s.2.1 s.2.2
structure Dk (D L Pg:Addr) (H:Hp) (a:Addr) (S:List aU):Prop where
 d:∃us,eH D H a L us.reverse∧Paired (vn H) us S
 tab:TabAt H Pg ip
section
variable {D L Pg a p:Addr}{H H':Hp}{S:List aU}
theorem Z0 {us:List V}(h:Paired (vn H) us S) (k:jD H H'):Paired (vn H') us S:=Paired.lC h fun _ _ q=>q.keep k
theorem Dk.hL (k:Dk D L Pg H a S):∃vs,H L=some (.lst vs):=by
 obtain⟨us,⟨dx,_,h⟩,_⟩:=k.d
 exact⟨_,h⟩
theorem Dk.hP (k:Dk D L Pg H a S):∃ps,H Pg=some (.bt ps):=by
 obtain⟨ps,h,_⟩:=k.tab
 exact⟨_,h⟩
theorem Dk.same (k:Dk D L Pg H a S) (s:aj H H'):Dk D L Pg H' a S:=by
 obtain⟨us,d,p⟩:=k.d
 exact⟨⟨us,d.same s,Z0 p (aj.CK s)⟩,Z4 k.tab s⟩
theorem Dk.x {o:HO}(k:Dk D L Pg H a S) (s:aw p H H') (hp:H p=some o) (n1:p≠L) (n2:p≠Pg) (h1:∀xs,o≠.tup xs) (h2:∀C dx fs,o≠.ins C dx fs) (h3:∀c,o≠eB c ip):Dk D L Pg H' a S:=by
 obtain⟨⟨us,⟨dx,ha,hL⟩,pr⟩,⟨ps,e,t,f⟩⟩:=k
 have kt:jD H H':=fun q xs h=>s _ _ h fun z=>by rw[z,hp]at h;cases h;exact h1 _ rfl
 refine⟨⟨us,⟨dx,s _ _ ha (fun z=>by rw[z,hp]at ha;cases ha;exact h2 _ _ _ rfl),s _ _ hL n1.symm⟩,Z0 pr kt⟩,ps,s _ _ e n2.symm,t,fun pos cv z=> ?_⟩
 obtain⟨d,e1,e2⟩:=f pos cv z
 exact⟨d,e1,s _ _ e2 fun z=>by rw[z,hp]at e2;cases e2;exact h3 _ rfl⟩
theorem Dk.lst {ys:List V}(k:Dk D L Pg H a S) (s:aw p H H') (hp:H p=some (.lst ys)) (n:p≠L):Dk D L Pg H' a S:=
 k.x s hp n (fun z=>by obtain⟨ps,h⟩:=k.hP;rw[z,h]at hp;cases hp) (fun _ z=>by cases z) (fun _ _ _ z=>by cases z) fun _ z=>by cases z
theorem Dk.st (k:Dk D L Pg H a S) (s:aw p H H') (hp:bP H p) (n:p≠L):Dk D L Pg H' a S:=by
 obtain⟨u,v,e,_⟩:=hp
 exact k.lst s e n
theorem Dk.sO {xs:List V}{l:Addr}(k:Dk D L Pg H a S) (h:H l=none):l∉[L,Pg]:=by
 obtain⟨vs,e⟩:=k.hL
 obtain⟨ps,e2⟩:=k.hP
 intro m
 rcases List.mem_cons.mp m with rfl |m
 ·rw[h]at e;cases e
 ·rw[List.mem_singleton.mp m,e2]at h;cases h
theorem Wh {z:Str}{s:aU}{o:Out}{Q:VK}{E:XK}(k:Dk D L Pg H a (s::S)) (sy:jz s S z o) (q:∀v H',Fr [L,Pg] H H'→Dk D L Pg H' a (sN (s::S) o)→fG L Pg H' v (rv o)→Q v H'):gq D Pg [.ref a,.str z] H Q E:=by
 obtain⟨hz,br,sy⟩:=sy
 obtain⟨⟨us,d,pr⟩,tab⟩:=id k
 cases pr with
 | @cons v _ us _ sv pr=>
  rw[List.reverse_cons]at d
  have hlen:us.reverse.length=S.length:=by rw[List.length_reverse];exact Paired.length pr
  rw[←hlen]at br sy
  obtain⟨dx,ha,hL⟩:=id d
  obtain⟨vR,eT,_⟩:=id tab
  refine .mk a L z us.reverse v s.1 s.2.1 s.2.2 o rfl hz d sv br sy tab ?_
  have kx:∀{H'},aw L H H'→eH D H a L (us.reverse++[v])→∀{ys},H' L=some (.lst ys)→eH D H' a L ys∧jD H H'∧TabAt H' Pg ip:=fun {H'} sx _ {ys} h=> ⟨⟨dx,sx _ _ ha (fun z=>by rw[z,hL]at ha;cases ha),h⟩,UW sx hL,WC tab sx hL (fun _ z=>by cases z) fun _ z=>by cases z⟩
  cases o with
  |no i=>
   intro l H' x Ap nl hl
   refine q _ H' (.of x (by simp)) ⟨⟨v::us,by rw[List.reverse_cons];exact d.xt x eT,Z0 (.cons sv pr) (UX x eT)⟩,Ap⟩ ⟨l,rfl,k.sO (xs:=[]) nl,hl⟩
  |tell t=>exact fun H' s'=>q _ H' (.same s') (k.same s') rfl
  |pop=>
   intro H' sx h
   obtain⟨d',kt,tb⟩:=kx sx d h
   exact q _ H' (.of sx (by simp)) ⟨⟨us,d',Z0 pr kt⟩,tb⟩ rfl
  |push wd hg xs=>
   intro v' H' sx h qA
   obtain⟨d',kt,tb⟩:=kx sx d h
   exact q _ H' (.of sx (by simp)) ⟨⟨v'::v::us,by rw[List.reverse_cons,List.reverse_cons];exact d',.cons qA (Z0 (.cons sv pr) kt)⟩,tb⟩ rfl
def gm (D L Pg:Addr) (a:Addr) (H0:Hp) (zs:List Str) (rs:List RV) (S':List aU) (i:Nat) (ys:List V) (H:Hp):Prop:=∃kX ow S1,rs=kX++ow∧Run S1 (zs.drop i) ow S'∧Paired (fG L Pg H) ys kX∧Dk D L Pg H a S1∧Fr [L,Pg] H0 H
theorem gm.start {zs:List Str}{rs:List RV}{S':List aU}(k:Dk D L Pg H a S) (r:Run S zs rs S'):gm D L Pg a H zs rs S' 0 [] H:=⟨[],rs,S,rfl,r,.nil,k,.refl⟩
theorem Y5 {α β:Type}{R:α→β→Prop} :∀{xs:List α}{ys:List β}{x:α}{y:β},Paired R xs ys→R x y→Paired R (xs++[x]) (ys++[y])
 |_,_,_,_,.nil,h=> .cons h .nil
 |_,_,_,_,.cons r t,h=> .cons r (Y5 t h)
theorem gm.step {H0:Hp}{zs:List Str}{rs:List RV}{S':List aU}{i:Nat}{ys:List V}{z:Str}(h:gm D L Pg a H0 zs rs S' i ys H) (e:zs[i]? =some z):∃s S1 o,Dk D L Pg H a (s::S1)∧jz s S1 z o∧∀v H',Fr [L,Pg] H H'→Dk D L Pg H' a (sN (s::S1) o)→fG L Pg H' v (rv o)→gm D L Pg a H0 zs rs S' (i+1) (ys++[v]) H':=by
 obtain⟨kX,ow,S1,er,r,pr,k,f⟩:=h
 have hi:i<zs.length:=(List.getElem?_eq_some_iff.mp e).1
 have ez:zs.drop i=z::zs.drop (i+1):=by
  rw[List.drop_eq_getElem_cons hi]
  rw[List.getElem?_eq_getElem hi]at e
  injection e with e
  rw[e]
 rw[ez]at r
 generalize hw:z::zs.drop (i+1)=ws at r
 cases r with
 |nil=>cases hw
 | @cons s S2 _ z' Lh o BF sy r'=>
  injection hw with w1 w2
  subst w1 w2
  exact⟨s,S2,o,k,sy,fun v H' f' k' an=> ⟨kX++[rv o],BF,_,by rw[er,List.append_assoc];rfl,r',Y5 (Paired.lC pr fun _ _ q=>q.fr f') an,k',f.trans f'⟩⟩
theorem gm.done {H0:Hp}{zs:List Str}{rs:List RV}{S':List aU}{ys:List V}(h:gm D L Pg a H0 zs rs S' zs.length ys H):Paired (fG L Pg H) ys rs∧Dk D L Pg H a S'∧Fr [L,Pg] H0 H:=by
 obtain⟨kX,ow,S1,er,r,pr,k,f⟩:=h
 rw[List.drop_length]at r
 cases r with
 |nil=>rw[List.append_nil]at er;subst er;exact⟨pr,k,f⟩
end
theorem iW {a W b c:Str}(ha:a.length≤20) (hW:W.length≤20) (hb:b.length≤20) (hc:c.length≤20):(a++W++b).length+c.length≤sizeLine:=by
 rw[Z2,Z2]
 exact Nat.le_trans (by omega:_≤80) (by decide)
def kr (W W' i:Int):List Str:=["put " ++aB W++ " " ++aB W', "put " ++aB W++ " 0", "put " ++aB i++ " " ++aB W', "take " ++aB W, "free " ++aB W]
theorem HG:("board " :Str)= "board" ++ " " :=by decide+kernel
theorem Uq:("put " :Str)= "put" ++ " " :=by decide+kernel
theorem UN:("take " :Str)= "take" ++ " " :=by decide+kernel
theorem IE:("free " :Str)= "free" ++ " " :=by decide+kernel
theorem HF:(" 0" :Str)= " " ++aB 0:=by decide+kernel
theorem Iy (a b c:Str):a++b++c=a++(b++c):=by
 show(⟨a.cps++b.cps++c.cps⟩:Str)=⟨a.cps++(b.cps++c.cps)⟩
 rw[Array.append_assoc]
theorem IC {wd hg W W' i:Int}{xs:List V}{S:List aU}(br:S.length≤800) (w1:1≤wd) (g1:1≤hg) (a0:wd≤W) (a1:W<100) (b0:hg≤W') (b1:W'<100) (i0:0≤i) (i1:i<wd):Run ((wd,hg,xs)::S) (kr W W' i) (List.replicate 5 (.no 2)) ((wd,hg,xs)::S):=by
 unfold kr
 rw[Uq,UN,IE,HF,←Iy ("put" ++ " " ++aB W) " " (aB 0)]
 refine .cons (o:=.no 2) (ZJ (by omega) (Yi (by decide) (by decide) (by omega) a1 (by omega) b1) (.kY W W' (fun h=>absurd (show W<wd from h.1.2) (by omega)))) ?_
 refine .cons (o:=.no 2) (ZJ (by omega) (Yi (by decide) (by decide) (by omega) a1 (by decide) (by decide)) (.kY W 0 (fun h=>absurd (show W<wd from h.1.2) (by omega)))) ?_
 refine .cons (o:=.no 2) (ZJ (by omega) (Yi (by decide) (by decide) i0 (by omega) (by omega) b1) (.kY i W' (fun h=>absurd (show W'<hg from h.2.2) (by omega)))) ?_
 refine .cons (o:=.no 2) (ZJ (by omega) (Jz (by decide) (by decide) (by omega) a1) (.vW W (fun h=>absurd (show W<wd from h.2) (by omega)))) ?_
 exact .cons (o:=.no 2) (ZJ (by omega) (Jz (by decide) (by decide) (by omega) a1) (.free W (fun h=>absurd (show W<wd from h.2) (by omega)))) (.nil _)
def vw (H:Hp) (v:V):RV→Prop
 | .no i=> ∃l,v=.ref l∧H l=some (.lst [.int (i:Int)])
 | .txt z=>v=.str z
theorem Ya {K:PySem.W.Frag}{L Pg:Addr}{H:Hp} :∀{xs ys:List V}{rs:List RV},Paired (fG L Pg H) xs rs→Paired (vw H) ys rs→Paired (qg K H) xs ys
 |_,_,_,.nil,.nil=> .nil
 |_,_,_, @Paired.cons _ _ _ x r _ _ h1 t1,.cons h2 t2=> .cons (by
  cases r with
  |no i=>
   obtain⟨l,rfl,_,hl⟩:=h1
   obtain⟨m,rfl,hm⟩:=h2
   exact .inr (.inr ⟨l,m,[(i:Int)],rfl,rfl,ak.of hl,ak.of hm⟩)
  |txt z=>exact .inl ⟨z,h1,h2⟩) (Ya t1 t2)
theorem YH {H:Hp}{v:V}{r:RV}(h:vw H v r):∀n:Nat,Paired (vw H) (List.replicate n [v]).flatten (List.replicate n r)
 |0=> .nil
 |n+1=> .cons h (YH h n)
theorem YF {L Pg:Addr}{H H':Hp}{xs:List V}{rs:List RV}(h:Paired (fG L Pg H) xs rs) (f:Fr [L,Pg] H H'):Paired (fG L Pg H') xs rs:=Paired.lC h fun _ _ q=>q.fr f
abbrev jY (xs:List V) (n:Nat):List V:=rowsOf (xs.take n++xs.drop (n+1))
theorem Iw {xs:List V}{n:Nat}{y:V}(h:y∈jY xs n):y∈xs∧y≠.ae∧y∈xs.set n .ae:=by
 obtain⟨m,hn⟩:=List.mem_filter.mp h
 have hn:y≠.ae:=by simpa using hn
 rcases List.mem_append.mp m with m |m
 ·refine⟨List.mem_of_mem_take m,hn,?_⟩
  obtain⟨j,hj⟩:=List.getElem?_of_mem m
  have DH:j<n:=by
   have:=(List.getElem?_eq_some_iff.mp hj).1
   rw[List.length_take]at this
   omega
  rw[List.getElem?_take_of_lt DH]at hj
  exact List.mem_of_getElem? (i:=j) (by rw[List.getElem?_set_ne (by omega)];exact hj)
 ·refine⟨List.mem_of_mem_drop m,hn,?_⟩
  obtain⟨j,hj⟩:=List.getElem?_of_mem m
  rw[List.getElem?_drop]at hj
  exact List.mem_of_getElem? (i:=n+1+j) (by rw[List.getElem?_set_ne (by omega)];exact hj)
section
variable {P:Program}{w:World}{K:PySem.W.Frag}{mg:Str→Option Value}{base:Heap}{D Pg:Addr}
abbrev oi:Stmt:=top 74
abbrev Ck:List Str:=["_law_state_here", "_law_desk", "_law_board_here", "_law_lay_here", "_law_wide", "_law_high", "_law_line", "_law_lines", "_law_rest"]
theorem jV:aF Ck ["_law_state_here", "_law_desk", "_law_board_here", "_law_lay_here"] (aq oi):=⟨rfl,rfl,rfl,by decide+kernel,rfl,by decide+kernel,by decide+kernel⟩
abbrev g9 (W W' i:Int):List V:=[.str ("put " ++aB W++ " " ++aB W'),.str ("put " ++aB W++ " 0"),.str ("put " ++aB i++ " " ++aB W')]
abbrev g8 (W:Int):List V:=[.str ("take " ++aB W),.str ("free " ++aB W)]
theorem Paired.two {α β:Type}{R:α→β→Prop}{a b:α}{c d:β}(h1:R a c) (h2:R b d):Paired R [a,b] [c,d]:=.cons h1 (.cons h2 .nil)
theorem U0 {a L:Addr}{wd hg:Int}{xs:List V}{S:List aU}{D':L2.Ends}{σ:L2.St}{H:Hp}(dz:σ[1]? =some (some (.ref a))) (dk:Dk D L Pg H a ((wd,hg,xs)::S)) (br:S.length≤800) (gr:6<wd∨7<hg) (q:∀H',Fr [L,Pg] H H'→Dk D L Pg H' a ((wd,hg,xs)::S)→D'.rt (.bl true) H'):
  qy (jN (sI K true) (kI (cg (gp (gq D Pg) [] E0 (cg (fm 1) (cg (tC (.str "many")) dZ))) (cg (gp (gq D Pg) [] E0 (cg (fm 1) (cg (tC (.str "first")) dZ))) dZ))) (kI (cg (kI (cg (tC (.int 11)) dZ)) (cg (kI (cg (tC (.int 11)) dZ)) dZ)))) D' σ H:=by
 refine⟨_,dz,Wh dk (ZJ (o:=.no 11) (by omega) Iu (.many gr)) fun v1 H1 f1 d1 a1=> ?_⟩
 refine⟨_,dz,Wh d1 (ZJ (o:=.no 11) (by omega) Kv (.first gr)) fun v2 H2 f2 d2 a2=> ?_⟩
 refine⟨(by show 2≤sizeLine;decide),fun c hc=> ?_⟩
 have k3:=Zd (o:=.lst [v1,v2]) hc
 have e3:upd H2 c (.lst [v1,v2]) c=some (.lst [v1,v2]):=Zc
 generalize upd H2 c (HO.lst [v1,v2])=H3 at k3 e3 ⊢
 refine⟨(by show 1≤sizeLine;decide),fun m1 cV=> ?_⟩
 have k4:=Zd (o:=.lst [V.int 11]) cV
 have e4:upd H3 m1 (.lst [V.int 11]) m1=some (.lst [V.int 11]):=Zc
 generalize upd H3 m1 (HO.lst [V.int 11])=H4 at k4 e4 ⊢
 refine⟨(by show 1≤sizeLine;decide),fun m2 bL=> ?_⟩
 have k5:=Zd (o:=.lst [V.int 11]) bL
 have e5:upd H4 m2 (.lst [V.int 11]) m2=some (.lst [V.int 11]):=Zc
 generalize upd H4 m2 (HO.lst [V.int 11])=H5 at k5 e5 ⊢
 refine⟨(by show 2≤sizeLine;decide),fun m3 eu=> ?_⟩
 have k6:=Zd (o:=.lst [V.ref m1,V.ref m2]) eu
 have e6:upd H5 m3 (.lst [V.ref m1,V.ref m2]) m3=some (.lst [V.ref m1,V.ref m2]):=Zc
 generalize upd H5 m3 (HO.lst [V.ref m1,V.ref m2])=H6 at k6 e6 ⊢
 have gP:=k4.trans (k5.trans k6)
 have om:=k3.trans gP
 refine⟨c,m3,_,_,rfl,rfl,ak.of (gP _ _ e3),ak.of e6,Ya (L:=L) (Pg:=Pg) (rs:=[.no 11,.no 11]) (Paired.two ((a1.fr f2).fr (.same om)) (a2.fr (.same om))) (Paired.two ⟨m1,rfl,(k5.trans k6) _ _ e4⟩ ⟨m2,rfl,k6 _ _ e5⟩),?_⟩
 exact q _ (f1.trans (f2.trans (.same om))) (d2.same om)
inductive qP (D Pg:Addr) (vs:List V) (H:Hp) (Q:VK) (E:XK):Prop
 |mk (p a b l L:Addr) (wd hg:Int) (xs:List V) (S:List aU) (ev:vs=[.ref p,.ref a,.ref b,.ref l]) (st:bP H p) (dk:Dk D L Pg H a ((wd,hg,xs)::S)) (br:S.length≤800) (bd:cY H (.ref b) wd hg) (hl:H l=some (.tup xs)) (ly:bD wd hg xs) (np:p≠L)
  (q:∀H',Fr [L,Pg,p] H H'→bP H' p→Dk D L Pg H' a ((wd,hg,xs)::S)→Q (.bl true) H')
theorem Gj {f:Addr}{fd:FuncData}(F:az K "_law_far_right" "_law_far_right" oi f fd) (G:Gs mg) (D1:Def P w K mg base 1 "_law_take" ["_law_state_here", "_law_many"] jQ) (eF:Def P w K mg base 101 "_law_said" eR (gq D Pg)):ar P w K mg base aC 102 f fd ["_law_state_here", "_law_desk", "_law_board_here", "_law_lay_here"] (qP D Pg):=by
 refine F.ok jV (fun vs H Q E h=> ?_) (fun ai A outer s H vs Q E hr h=> ?_)
 ·obtain⟨p,a,b,l,L,wd,hg,xs,S,rfl,_⟩:=h
  rfl
 ·obtain⟨p,a,b,l,L,wd,hg,xs,S,rfl,st,dk,br,bd,hl,ly,np,q⟩:=h
  have hu:=Nat.lt_of_succ_lt (UZ hr)
  have gw:(A.deeper (envOfC "_law_far_right" (aq oi) s.heap.objs.size f ai)).units+1<cLine:=UZ hr
  have hm:(1:Nat)≤101:=by decide
  refine⟨_,Ze (zt (i:=4) (j:=5) rfl jV.nd rfl rfl (by decide) rfl rfl (Za (Zm Yd (Zz ZI (pv 2) Zf (fun _ _=>rfl)) (Zk D1 (hr.mono hm) (Za (pv 0) (Za (Zm Yr Zf (Zz ZI (pv 2) Zf (fun _ _=>rfl))) Zb)))) (Za (Zm Yd (Zz ZI (pv 2) Zf (fun _ _=>rfl)) (Zk D1 (hr.mono hm) (Za (pv 0) (Za (Zm Yr Zf (Zz ZI (pv 2) Zf (fun _ _=>rfl))) Zb)))) Zb)) rfl)
   (Ze (Zx (i:=6) jV.nd rfl (Or.inl rfl) (Zk D1 (hr.mono hm) (Za (pv 0) (Za (Zz ZI (pv 2) Zf (fun _ _=>rfl)) Zb))))
   (Ze (Zx (i:=7) jV.nd rfl (Or.inl rfl) (Zq (Za (Zm Zs (Zm Zs (Zm Zs Zl (Zr Zp rfl G.str PyProof.Rows.Boot.«str» (Za (pv 4) Zb))) Zl) (Zr Zp rfl G.str PyProof.Rows.Boot.«str» (Za (pv 5) Zb)))
    (Za (Zm Zs (Zm Zs Zl (Zr Zp rfl G.str PyProof.Rows.Boot.«str» (Za (pv 4) Zb))) Zl)
    (Za (Zm Zs (Zm Zs (Zm Zs Zl (Zr Zp rfl G.str PyProof.Rows.Boot.«str» (Za (pv 6) Zb))) Zl) (Zr Zp rfl G.str PyProof.Rows.Boot.«str» (Za (pv 5) Zb))) Zb)))))
   (Ze (Zx (i:=7) jV.nd rfl (Or.inl rfl) (Zm ZW (pv 7) (Zq (Za (Zm Zs Zl (Zr Zp rfl G.str PyProof.Rows.Boot.«str» (Za (pv 4) Zb))) (Za (Zm Zs Zl (Zr Zp rfl G.str PyProof.Rows.Boot.«str» (Za (pv 4) Zb))) Zb)))))
   (Ze (ZN (Zw (Ys gw) (Ym ["_law_one", "_law_desk"] 1 [1] (Z7 (pv 7)) (fun C s H fp=>pb 0) (fun C s H fp=>ZV) (fun C s H fp D=>dr rfl (Zk eF hr (Za (pv 1) (Za (pv 0) Zb))))) (Zm Jt (Zq (Za (Zq (Za Zf Zb)) Zb)) Zf) (bw _)) (Zj (Zv Y4)) ZA)
   (Ze (Yl ["_law_row"] 1 [] (i:=8) jV.nd rfl (Or.inl rfl) (Jq (Zm Wr (YK UO (pv 3) Jd (Jc (pv 6))) (YK UO (pv 3) (Jc (Zm Yd (pv 6) Zf)) Jd))) (fun C s H fp=>pb 0) (fun C s H fp=>Jb (Jp (Wq (pv 0)))) (fun C s H fp D=>dr rfl (pv 0)))
   (Ze (ZN (PW.pt (GL (Zw (GB hu) (pv 8) (Zq Zb) (bw _)) (Ir (Zw (Ys gw) (Zk eF hr (Za (pv 1) (Za (Zm Zs (Zm Zs (Zm Zs Zl (Zr Zp rfl G.str PyProof.Rows.Boot.«str» (Za (pv 6) Zb))) Zl) (Zr Zp rfl G.str PyProof.Rows.Boot.«str» (Za (Zz ZM (pv 8) (u9 Ug Zf) (fun _ _=>rfl)) Zb))) Zb))) (Zq (Za Zf Zb)) (bw _))))) (Zj (Zv Y4)) ZA)
   (Ze (ZN (PW.pt (Y3 (Zw WM (Zz ZI (pv 2) Zf (fun _ _=>rfl)) Zf (bw _)) (Yp (Zw WM (Zz ZI (pv 2) Zf (fun _ _=>rfl)) Zf (bw _)))))
    (Zj (Zv (Je (Gy gw) (Zq (Za (Zk eF hr (Za (pv 1) (Za Zl Zb))) (Za (Zk eF hr (Za (pv 1) (Za Zl Zb))) Zb))) (Zq (Za (Zq (Za Zf Zb)) (Za (Zq (Za Zf Zb)) Zb))) (bw _)))) ZA)
   (Zj (Zv Y4))))))))),?_⟩
  obtain⟨b',eb,hb⟩:=Zy bd.1
  cases eb
  obtain⟨_,w1,w2,g1,g2⟩:=id bd
  have nb:∀{H':Hp}{q:Addr}{ys:List V},bP H' p→H' q=some (.tup ys)→q≠p:=fun fo h z=>by
   obtain⟨u,v,e,_⟩:=fo
   rw[z,e]at h
   cases h
  refine Zi ⟨_,rfl,b,_,_,_,rfl,rfl,au.of hb,eE,_,rfl,_,rfl,b,_,_,_,rfl,rfl,au.of hb,eE,_,_,rfl,rfl,p,99 - wd,rfl,st,by omega,by omega,fun r1 o1 Lq Lp cj=> ?_⟩
  have x1:aw p H (upd H p o1):=aw.upd
  generalize upd H p o1=H1 at x1 cj ⊢
  have gB:=x1 _ _ hb (nb st hb)
  refine⟨_,_,rfl,rfl,_,rfl,b,_,_,_,rfl,rfl,au.of gB,cI,_,rfl,_,rfl,b,_,_,_,rfl,rfl,au.of gB,cI,_,_,rfl,rfl,p,99 - hg,rfl,cj,by omega,by omega,fun r2 o2 Lo Ln bH=> ?_⟩
  have x2:aw p H1 (upd H1 p o2):=aw.upd
  generalize upd H1 p o2=H2 at x2 bH ⊢
  have fw:=x2 _ _ gB (nb cj gB)
  refine⟨_,_,rfl,rfl,_,_,rfl,?_⟩
  dsimp only[List.set]
  refine Zi (Zu ⟨_,rfl,_,rfl,b,_,_,_,rfl,rfl,au.of fw,eE,p,wd,rfl,bH,by omega,by omega,fun i o3 i0 i1 cu=> ?_⟩)
  have x3:aw p H2 (upd H2 p o3):=aw.upd
  generalize upd H2 p o3=H3 at x3 cu ⊢
  have X3:aw p H H3:=x1.trans (x2.trans x3)
  have iG:=X3 _ _ hb (nb st hb)
  have jj:=X3 _ _ hl (nb st hl)
  have uH:=dk.st X3 st np
  refine Zo ?_
  dsimp only[List.set]
  generalize eW:wd+r1=W
  generalize eG:hg+r2=W'
  clear x1 x2 x3 gB fw cj bH
  have lS:∀{n:Int},0≤n→n<100→(aB n).length≤20:=fun h0 h1=>Nat.le_trans (Jv h0 h1).2.2 (by decide)
  have lW:=lS (n:=W) (by omega) (by omega)
  have lG:=lS (n:=W') (by omega) (by omega)
  have lI:=lS (n:=i) (by omega) (by omega)
  have bW:=ZE (i:=W) (by omega) (by omega)
  have bG:=ZE (i:=W') (by omega) (by omega)
  have bI:=ZE (i:=i) (by omega) (by omega)
  refine Zi (Zu ⟨_,rfl,_,rfl,bW,_,_,rfl,rfl,cF (by decide) lW,_,_,rfl,rfl,cQ (by decide) lW (by decide),_,rfl,_,rfl,bG,_,_,rfl,rfl,iW (by decide) lW (by decide) lG,
   _,rfl,_,rfl,bW,_,_,rfl,rfl,cF (by decide) lW,_,_,rfl,rfl,cQ (by decide) lW (by decide),
   _,rfl,_,rfl,bI,_,_,rfl,rfl,cF (by decide) lI,_,_,rfl,rfl,cQ (by decide) lI (by decide),_,rfl,_,rfl,bG,_,_,rfl,rfl,iW (by decide) lI (by decide) lG,(by show 3≤sizeLine;decide),fun c hc=>Zo ?_⟩)
  have k4:=Zd (o:=.lst (g9 W W' i)) hc
  have e4:upd H3 c (.lst (g9 W W' i)) c=some (.lst (g9 W W' i)):=Zc
  generalize upd H3 c (HO.lst (g9 W W' i))=H4 at k4 e4 ⊢
  dsimp only[List.set]
  refine Zi (Zu ⟨_,rfl,_,rfl,_,rfl,bW,_,_,rfl,rfl,cF (by decide) lW,_,rfl,_,rfl,bW,_,_,rfl,rfl,cF (by decide) lW,(by show 2≤sizeLine;decide),fun c2 dR=> ?_⟩)
  have k5:=Zd (o:=.lst (g8 W)) dR
  have e5:upd H4 c2 (.lst (g8 W)) c2=some (.lst (g8 W)):=Zc
  generalize upd H4 c2 (HO.lst (g8 W))=H5 at k5 e5 ⊢
  refine⟨c,c2,_,_,rfl,rfl,k5 _ _ e4,e5,(by show 5≤sizeLine;decide),fun c3 km=>Zo ?_⟩
  have k6:=Zd (o:=.lst (g9 W W' i++g8 W)) km
  have e6:upd H5 c3 (.lst (g9 W W' i++g8 W)) c3=some (.lst (g9 W W' i++g8 W)):=Zc
  generalize upd H5 c3 (HO.lst (g9 W W' i++g8 W))=H6 at k6 e6 ⊢
  dsimp only[List.set]
  have gP:=k4.trans (k5.trans k6)
  have yf:=gP _ _ iG
  have ji:=gP _ _ jj
  have pQ:=uH.same gP
  have A7:=cu.fU gP
  have X6:Fr [L,Pg,p] H H6:=(Fr.of X3 (by simp)).trans (.same gP)
  have n6:c3∉[L,Pg]:=(uH.same (k4.trans k5)).sO (xs:=[]) km
  clear k4 k5 k6 e4 e5 hc dR km X3 iG jj uH cu gP
  have fin:∀H',Fr [L,Pg] H6 H'→Dk D L Pg H' a ((wd,hg,xs)::S)→Q (.bl true) H':=fun H' f d=>by
   refine q H' (X6.trans (f.mono fun b hb=> ?_)) ?_ d
   ·rcases List.mem_cons.mp hb with rfl |hb
    ·simp
    ·rw[List.mem_singleton.mp hb];simp
   ·obtain⟨u,v,e,r⟩:=A7
    refine⟨u,v,f _ _ e fun m=> ?_,r⟩
    rcases List.mem_cons.mp m with z |m
    ·exact np z
    ·obtain⟨ps,e2⟩:=pQ.hP
     rw[List.mem_singleton.mp m,e2]at e
     cases e
  refine Zi ⟨_,rfl,c3,rfl,⟨_,ak.of e6⟩,?_⟩
  have rn:Run ((wd,hg,xs)::S) (kr W W' i) (List.replicate 5 (.no 2)) ((wd,hg,xs)::S):=IC br w1 g1 (by omega) (by omega) (by omega) (by omega) i0 i1
  have eZ:g9 W W' i++g8 W=(kr W W' i).map V.str:=rfl
  rw[eZ]at e6
  have zl:(kr W W' i).length=5:=rfl
  generalize kr W W' i=zs at rn e6 zl
  refine Yh (xs:=zs.map V.str) (fun j ys af H'=>gm D L Pg a H6 zs (List.replicate 5 (.no 2)) ((wd,hg,xs)::S) j ys H'∧ys.length=j∧∃v,af=[v,some (.ref a)]) ⟨.start pQ rn,rfl,none,rfl⟩ (fun j ys af H' _ ⟨⟨_,_,_,_,_,_,_,f'⟩,_⟩=>ak.of (f' _ _ e6 n6)) ?_ ?_
  ·rintro j y ys af H' hy ⟨ri,hlen,v,rfl⟩
   rw[List.getElem?_map]at hy
   obtain⟨z,hz,rfl⟩:=Option.map_eq_some_iff.mp hy
   obtain⟨s1,S1,o,hJ,sy,nx⟩:=ri.step hz
   have hj:=(List.getElem?_eq_some_iff.mp hz).1
   refine⟨_,rfl,_,rfl,Wh hJ sy fun v' H2 f2 d2 an=> ⟨?_,nx v' H2 f2 d2 an,?_,_,rfl⟩⟩
   ·rw[sizeLine_eq];omega
   ·rw[List.length_append,hlen];rfl
  ·rintro ys af H7 ⟨ri,_,v,rfl⟩ c4 me
   rw[List.length_map]at ri
   obtain⟨pr,mC,f7⟩:=ri.done
   have k8:=Zd (o:=.lst ys) me
   have e8:upd H7 c4 (.lst ys) c4=some (.lst ys):=Zc
   generalize upd H7 c4 (HO.lst ys)=H8 at k8 e8 ⊢
   have yQ:=mC.same k8
   have kZ:=YF pr (Fr.same k8)
   refine⟨(by show 1≤sizeLine;decide),fun m1 cV=> ?_⟩
   have k9:=Zd (o:=.lst [V.int 2]) cV
   have e9:upd H8 m1 (.lst [V.int 2]) m1=some (.lst [V.int 2]):=Zc
   generalize upd H8 m1 (HO.lst [V.int 2])=H9 at k9 e9 ⊢
   refine⟨(by show 1≤sizeLine;decide),fun m2 bL=> ?_⟩
   have gv:=Zd (o:=.lst [V.ref m1]) bL
   have e10:upd H9 m2 (.lst [V.ref m1]) m2=some (.lst [V.ref m1]):=Zc
   generalize upd H9 m2 (HO.lst [V.ref m1])=jH at gv e10 ⊢
   refine⟨m2,5,_,rfl,rfl,e10,by decide,by decide,(by show 1*5≤sizeLine;decide),fun m3 eu=> ?_⟩
   have eX:=Zd (o:=.lst (List.replicate (5:Int).toNat [V.ref m1]).flatten) eu
   have e11:upd jH m3 (.lst (List.replicate (5:Int).toNat [V.ref m1]).flatten) m3=some (.lst (List.replicate (5:Int).toNat [V.ref m1]).flatten):=Zc
   generalize upd jH m3 (HO.lst (List.replicate (5:Int).toNat [V.ref m1]).flatten)=iR at eX e11 ⊢
   have kU:=k9.trans (gv.trans eX)
   refine⟨c4,m3,_,_,rfl,rfl,ak.of (kU _ _ e8),ak.of e11,Ya (YF kZ (Fr.same kU)) (YH (r:=.no 2) ⟨m1,rfl,(gv.trans eX) _ _ e9⟩ 5),_,rfl,ay (ZG ?_)⟩
   dsimp only
   have yV:=yQ.same kU
   have pK:Fr [L,Pg] H6 iR:=f7.trans ((Fr.same k8).trans (.same kU))
   have qu:∀{H':Hp}{q:Addr}{zs:List V},Fr [L,Pg] H6 H'→H6 q=some (.tup zs)→H' q=some (.tup zs):=fun f h=>f _ _ h fun m=>by
    obtain⟨vs,e1⟩:=pQ.hL
    obtain⟨ps,e2⟩:=pQ.hP
    rcases List.mem_cons.mp m with z |m
    ·rw[z,e1]at h;cases h
    ·rw[List.mem_singleton.mp m,e2]at h;cases h
   have tO:=qu pK ji
   have yi:=qu pK yf
   clear k8 k9 gv eX e8 e9 e10 e11 kZ pr yQ mC kU f7 me cV bL eu ri
   obtain⟨n,rfl⟩:∃n:Nat,i=n:=⟨i.toNat,by omega⟩
   have ll:=ly.len
   have hn:n<xs.length:=by omega
   refine Zi (Zu ⟨_,rfl,_,rfl,_,rfl,l,xs,rfl,tO,fun t1 qf gW e12=> ?_⟩)
   rw[zf hn]at e12
   refine⟨_,rfl,_,rfl,_,_,rfl,rfl,_,rfl,l,xs,rfl,gW _ _ tO,fun t2 jG lM e13=> ?_⟩
   rw[W4 hn]at e13
   refine UJ (lM _ _ e12) e13 (by rw[List.length_take,List.length_drop];omega) fun t3 nr fX e14=> ?_
   refine⟨t3,rfl,⟨_,au.of e14⟩,?_⟩
   have oq:=gW.trans (lM.trans fX)
   have yT:=yV.same oq
   have yA:Fr [L,Pg] H6 nr:=pK.trans (.same oq)
   have yh:=oq _ _ yi
   clear gW lM fX e12 e13 yV tO yi pK oq
   refine YM (xs:=xs.take n++xs.drop (n+1)) (fun j ys af H'=>ys=rowsOf ((xs.take n++xs.drop (n+1)).take j)∧H'=nr∧∃v,af=[v]) ⟨rfl,rfl,none,rfl⟩ (fun j ys af H' _ ⟨_,e,_⟩=>by rw[e];exact au.of e14) ?_ ?_
   ·rintro j y ys af H' hy ⟨rfl,rfl,v,rfl⟩
    have et:rowsOf ((xs.take n++xs.drop (n+1)).take (j+1))=rowsOf ((xs.take n++xs.drop (n+1)).take j)++(if (!decide (y=V.ae))=true then [y] else []):=by
     rw[List.take_add_one,hy]
     unfold rowsOf
     rw[List.filter_append]
     cases hh:(!decide (y=V.ae))<;>simp[hh]
    refine⟨_,rfl,_,rfl,?_⟩
    show if (!decide (y=V.ae))=true then _ else _
    cases hh:(!decide (y=V.ae)) with
    |true=>
     rw[hh]at et
     refine aH ⟨_,rfl,?_,by rw[et];rfl,rfl,_,rfl⟩
     have h1:(rowsOf ((xs.take n++xs.drop (n+1)).take j)).length≤((xs.take n++xs.drop (n+1)).take j).length:=List.length_filter_le _ _
     have h2:((xs.take n++xs.drop (n+1)).take j).length≤(xs.take n++xs.drop (n+1)).length:=List.length_take_le' _ _
     have h3:(xs.take n++xs.drop (n+1)).length≤30:=by rw[List.length_append,List.length_take,List.length_drop];omega
     rw[sizeLine_eq]
     omega
    |false=>
     rw[hh]at et
     exact ay ⟨by rw[et];simp,rfl,_,rfl⟩
   ·rintro ys af H' ⟨rfl,rfl,v,rfl⟩ c5 gZ
    rw[List.take_length]
    have eV:=Zd (o:=.lst (jY xs n)) gZ
    have e15:upd H' c5 (.lst (jY xs n)) c5=some (.lst (jY xs n)):=Zc
    generalize upd H' c5 (HO.lst (jY xs n))=kC at eV e15 ⊢
    have Fn:=yT.same eV
    have E4:Fr [L,Pg] H6 kC:=yA.trans (.same eV)
    have LO:=eV _ _ yh
    have wK:=fun y h=>Iw (xs:=xs) (n:=n) (y:=y) h
    generalize jY xs n=rest at e15 wK
    clear eV e14 yh yT yA gZ
    refine Zo ?_
    dsimp only[List.set]
    refine T.Aw (fun af H'=>af=[some (.ref p),some (.ref a),some (.ref b),some (.ref l),some (.int W),some (.int W'),some (.int (n:Int)),some (.ref c3),some (.ref c5)]∧Fr [L,Pg] H6 H'∧Dk D L Pg H' a ((wd,hg,xs)::S)) ?_ fun D' hD=> ?_
    ·rintro af qe ⟨rfl,pL,ku⟩
     have yg:=qu pL yf
     refine Zi ⟨_,rfl,b,_,0,.int wd,rfl,rfl,au.of yg,rfl,_,_,rfl,rfl,_,rfl,?_⟩
     by_cases h1:wd>6
     ·rw[decide_eq_true h1]
      exact aH (aH (U0 rfl ku br (.inl h1) fun H' f d=>fin H' (pL.trans f) d))
     ·rw[decide_eq_false h1]
      refine ay ⟨_,rfl,b,_,1,.int hg,rfl,rfl,au.of yg,rfl,_,_,rfl,rfl,_,rfl,?_⟩
      by_cases h2:hg>7
      ·rw[decide_eq_true h2]
       exact aH (U0 rfl ku br (.inr h2) fun H' f d=>fin H' (pL.trans f) d)
      ·rw[decide_eq_false h2]
       exact ay (ZG (fin qe pL ku))
    ·refine⟨_,rfl,Nat.zero_le _,fun z0 CU=> ?_⟩
     have fV:=Zd (o:=.lst []) CU
     have e16:upd kC z0 (.lst []) z0=some (.lst []):=Zc
     generalize upd kC z0 (HO.lst [])=qe at fV e16 ⊢
     have ku:=Fn.same fV
     have yz:Fr [L,Pg] H6 qe:=E4.trans (.same fV)
     have uG:=fV _ _ e15
     refine⟨c5,z0,rest,rfl,rfl,ak.of uG,ak.of e16,_,rfl,?_⟩
     by_cases lY:rest=[]
     ·subst lY
      exact ay (ay (hD _ _ ⟨rfl,yz,ku⟩))
     ·have he:(!rest.isEmpty)=true:=by
       cases rest with
       |nil=>exact absurd rfl lY
       |cons _ _=>rfl
      rw[he]
      have er:=List.dropLast_concat_getLast lY
      obtain⟨y1,y2,y3⟩:=wK _ (List.getLast_mem lY)
      generalize rest.getLast lY=y at er y1 y2 y3
      obtain⟨r,rfl⟩:∃r:Int,y=.int r:=by
       rcases ly.ok y y1 with rfl |⟨j,rfl⟩
       ·exact absurd rfl y2
       ·exact⟨j,rfl⟩
      rw[←er]at uG
      obtain⟨BH,BG⟩:=Wu ly y1
      have lR:=lS (n:=r) (by omega) (by omega)
      have sy:jz (wd,hg,xs) S ("put " ++aB (n:Int)++ " " ++aB r) (.no 4):=by
       rw[Uq]
       exact ZJ (by omega) (Yi (by decide) (by decide) (by omega) (by omega) (by omega) (by omega)) (.wV (n:Int) r ⟨by omega,i1⟩ ⟨BH,BG⟩ (by rw[Int.toNat_natCast];exact J3 y3))
      refine aH ⟨_,rfl,_,rfl,_,rfl,bI,_,_,rfl,rfl,cF (by decide) lI,_,_,rfl,rfl,cQ (by decide) lI (by decide),_,rfl,1,rfl,c5,_,_,_,rfl,rfl,ak.of uG,Ue _ _,_,rfl,ZE (by omega) (by omega),_,_,rfl,rfl,iW (by decide) lI (by decide) lR,Wh ku sy fun v1 vG Fb uJ a17=> ?_⟩
      obtain⟨CJ,rfl,_,e17⟩:=a17
      refine⟨(by show 1≤sizeLine;decide),fun m1 cV=> ?_⟩
      have oU:=Zd (o:=.lst [V.int 4]) cV
      have e18:upd vG m1 (.lst [V.int 4]) m1=some (.lst [V.int 4]):=Zc
      generalize upd vG m1 (HO.lst [V.int 4])=K3 at oU e18 ⊢
      exact⟨CJ,m1,_,_,rfl,rfl,ak.of (oU _ _ e17),ak.of e18,.cons (.inr (.inl ⟨4,rfl,rfl⟩)) .nil,_,rfl,ay (hD _ _ ⟨rfl,yz.trans (Fb.trans (.same oU)),uJ.same oU⟩)⟩
end
abbrev qL:Str:= "law.<locals>.<lambda>"
structure Wd (K:PySem.W.Frag) (a0 Pt p b l D L Pg a:Addr) (ns:List Int) (wd hg:Int) (xs:List V) (H:Hp) (S:List aU):Prop where
 sc:dj K H a0 ns
 tb:TabAt H Pt qL
 st:bP H p
 hb:H b=some (.tup [.int wd,.int hg])
 hl:H l=some (.tup xs)
 d:Dk D L Pg H a S
 np:p≠L
 nP:Pg≠Pt
section
variable {K:PySem.W.Frag}{a0 Pt p b l D L Pg a:Addr}{ns:List Int}{wd hg:Int}{xs:List V}{H H':Hp}{S S':List aU}
theorem GR {ex:List Addr}(h:dj K H a0 ns) (f:Fr ex H H') (n:∀q∈ex,∀o u,H q≠some (.bZ o u)):dj K H' a0 ns:=by
 rcases h with ⟨o,h⟩ |h
 ·exact .inl ⟨o,f _ _ h fun m=>n _ m _ _ h⟩
 ·exact .inr h
theorem GS {ex:List Addr}{q:Str}{P:Addr}(h:TabAt H P q) (f:Fr ex H H') (n:P∉ex) (m:∀x∈ex,∀c,H x≠some (eB c q)):TabAt H' P q:=by
 obtain⟨ps,e,t,g⟩:=h
 refine⟨ps,f _ _ e n,t,fun pos cv z=> ?_⟩
 obtain⟨d,e1,e2⟩:=g pos cv z
 exact⟨d,e1,f _ _ e2 fun z=>m _ z _ e2⟩
theorem Wd.ex (W:Wd K a0 Pt p b l D L Pg a ns wd hg xs H S):∀q∈[L,Pg,p],(∃ys,H q=some (.lst ys))∨(q=Pg∧∃ps,H q=some (.bt ps)):=fun q m=>by
 obtain⟨vs,e1⟩:=W.d.hL
 obtain⟨ps,e2⟩:=W.d.hP
 obtain⟨u,v,e3,_⟩:=W.st
 rcases List.mem_cons.mp m with rfl |m
 ·exact .inl ⟨_,e1⟩
 ·rcases List.mem_cons.mp m with rfl |m
  ·exact .inr ⟨rfl,_,e2⟩
  ·rw[List.mem_singleton.mp m];exact .inl ⟨_,e3⟩
theorem Wd.keep (W:Wd K a0 Pt p b l D L Pg a ns wd hg xs H S) (f:Fr [L,Pg,p] H H') (d:Dk D L Pg H' a S') (st:bP H' p):Wd K a0 Pt p b l D L Pg a ns wd hg xs H' S':=by
 have nt:∀{q:Addr}{ys:List V},H q=some (.tup ys)→q∉[L,Pg,p]:=fun h m=>by
  rcases W.ex _ m with ⟨zs,e⟩ |⟨_,ps,e⟩<;>rw[h]at e<;>cases e
 obtain⟨tp,eT,_⟩:=id W.tb
 refine⟨GR W.sc f fun q m o u h=> ?_,GS W.tb f (fun m=> ?_) fun q m c h=> ?_,st,f _ _ W.hb (nt W.hb),f _ _ W.hl (nt W.hl),d,W.np,W.nP⟩
 ·rcases W.ex _ m with ⟨zs,e⟩ |⟨_,ps,e⟩<;>rw[h]at e<;>cases e
 ·rcases W.ex _ m with ⟨zs,e⟩ |⟨e,_⟩
  ·rw[eT]at e;cases e
  ·exact W.nP e.symm
 ·rcases W.ex _ m with ⟨zs,e⟩ |⟨_,ps,e⟩<;>rw[h]at e<;>cases e
theorem Wd.pn (W:Wd K a0 Pt p b l D L Pg a ns wd hg xs H S):p∉[L,Pg]:=fun m=>by
 obtain⟨u,v,e3,_⟩:=W.st
 rcases List.mem_cons.mp m with z |m
 ·exact W.np z
 ·obtain⟨ps,e2⟩:=W.d.hP
  rw[List.mem_singleton.mp m,e2]at e3
  cases e3
theorem iK (f:Fr [L,Pg] H H'):Fr [L,Pg,p] H H':=f.mono fun q m=>by
 rcases List.mem_cons.mp m with rfl |m
 ·simp
 ·rw[List.mem_singleton.mp m];simp
theorem Wd.fr (W:Wd K a0 Pt p b l D L Pg a ns wd hg xs H S) (f:Fr [L,Pg] H H') (d:Dk D L Pg H' a S'):Wd K a0 Pt p b l D L Pg a ns wd hg xs H' S':=by
 obtain⟨u,v,e3,r⟩:=id W.st
 exact W.keep (iK f) d ⟨u,v,f _ _ e3 W.pn,r⟩
theorem Wd.same (W:Wd K a0 Pt p b l D L Pg a ns wd hg xs H S) (s:aj H H'):Wd K a0 Pt p b l D L Pg a ns wd hg xs H' S:=W.fr (.same s) (W.d.same s)
theorem Wd.sp (W:Wd K a0 Pt p b l D L Pg a ns wd hg xs H S) (s:aw p H H') (st:bP H' p):Wd K a0 Pt p b l D L Pg a ns wd hg xs H' S:=W.keep (.of s (by simp)) (W.d.st s W.st W.np) st
theorem Wd.pt (W:Wd K a0 Pt p b l D L Pg a ns wd hg xs H S) (s:aw Pt H H') (t:TabAt H' Pt qL):Wd K a0 Pt p b l D L Pg a ns wd hg xs H' S:=by
 obtain⟨tp,eT,_⟩:=id W.tb
 have ne:∀{q:Addr}{o:HO},H q=some o→(∀ps,o≠.bt ps)→q≠Pt:=fun h n z=>by
  rw[z,eT]at h
  cases h
  exact n _ rfl
 obtain⟨u,v,e3,r⟩:=id W.st
 obtain⟨vs,eL⟩:=W.d.hL
 refine⟨W.sc.x s eT (fun _ _ z=>by cases z),t,⟨u,v,s _ _ e3 (ne e3 fun _ z=>by cases z),r⟩,s _ _ W.hb (ne W.hb fun _ z=>by cases z),s _ _ W.hl (ne W.hl fun _ z=>by cases z),?_,W.np,W.nP⟩
 exact W.d.x s eT (fun z=>ne eL (fun _ z=>by cases z) z.symm) (fun z=>W.nP z.symm) (fun _ z=>by cases z) (fun _ _ _ z=>by cases z) fun _ z=>by cases z
theorem Wd.own (W:Wd K a0 Pt p b l D L Pg a ns wd hg xs H S) {q:Addr}(h:H q=none):q∉[L,Pg]:=W.d.sO (xs:=[]) h
end
section
variable {K:PySem.W.Frag}{D L Pg a c:Addr}{H:Hp}{S S':List aU}{zs:List Str}{rs:List RV}{xs:List V}{nD:L2.St}{Q:List V→L2.St→Hp→Prop}
theorem YZ (dk:Dk D L Pg H a S) (rn:Run S zs rs S') (zl:zs.length≤1000) (e:H c=some (.lst (zs.map V.str))) (n:c∉[L,Pg]) (dz:∃v,nD=[v,some (.ref a)]) (q:∀ys af H',Paired (fG L Pg H') ys rs→Dk D L Pg H' a S'→Fr [L,Pg] H H'→Q ys af H'):
  fN (iJ 0) jM (kJ (gp (gq D Pg) [] E0 (cg (fm 1) (cg (fm 0) dZ)))) (iQ K c) [] nD H Q:=by
 refine Yh (xs:=zs.map V.str) (fun j ys af H'=>gm D L Pg a H zs rs S' j ys H'∧ys.length=j∧∃v,af=[v,some (.ref a)]) ⟨.start dk rn,rfl,dz⟩ (fun j ys af H' _ ⟨⟨_,_,_,_,_,_,_,f'⟩,_⟩=>ak.of (f' _ _ e n)) ?_ ?_
 ·rintro j y ys af H' hy ⟨ri,hlen,v,rfl⟩
  rw[List.getElem?_map]at hy
  obtain⟨z,hz,rfl⟩:=Option.map_eq_some_iff.mp hy
  obtain⟨s1,S1,o,hJ,sy,nx⟩:=ri.step hz
  have hj:=(List.getElem?_eq_some_iff.mp hz).1
  refine⟨_,rfl,_,rfl,Wh hJ sy fun v' H2 f2 d2 an=> ⟨?_,nx v' H2 f2 d2 an,?_,_,rfl⟩⟩
  ·rw[sizeLine_eq];omega
  ·rw[List.length_append,hlen];rfl
 ·rintro ys af H' ⟨ri,_,v,rfl⟩
  rw[List.length_map]at ri
  obtain⟨pr,hJ,f'⟩:=ri.done
  exact q ys _ H' pr hJ f'
theorem IV (dk:Dk D L Pg H a S) (rn:Run S (List.replicate xs.length "back") rs S') (zl:xs.length≤1000) (e:H c=some (.lst xs)) (n:c∉[L,Pg]) (dz:∃v,nD=[v,some (.ref a)]) (q:∀ys af H',Paired (fG L Pg H') ys rs→Dk D L Pg H' a S'→Fr [L,Pg] H H'→Q ys af H'):
  fN (iJ 0) jM (kJ (gp (gq D Pg) [] E0 (cg (fm 1) (cg (tC (.str "back")) dZ)))) (iQ K c) [] nD H Q:=by
 refine Yh (xs:=xs) (fun j ys af H'=>gm D L Pg a H (List.replicate xs.length "back") rs S' j ys H'∧ys.length=j∧∃v,af=[v,some (.ref a)]) ⟨.start dk rn,rfl,dz⟩ (fun j ys af H' _ ⟨⟨_,_,_,_,_,_,_,f'⟩,_⟩=>ak.of (f' _ _ e n)) ?_ ?_
 ·rintro j y ys af H' hy ⟨ri,hlen,v,rfl⟩
  have hj:=(List.getElem?_eq_some_iff.mp hy).1
  have hz:(List.replicate xs.length ("back" :Str))[j]? =some "back" :=by rw[List.getElem?_replicate];exact if_pos hj
  obtain⟨s1,S1,o,hJ,sy,nx⟩:=ri.step hz
  refine⟨_,rfl,Wh hJ sy fun v' H2 f2 d2 an=> ⟨?_,nx v' H2 f2 d2 an,?_,_,rfl⟩⟩
  ·rw[sizeLine_eq];omega
  ·rw[List.length_append,hlen];rfl
 ·rintro ys af H' ⟨ri,_,v,rfl⟩
  have:gm D L Pg a H (List.replicate xs.length "back") rs S' (List.replicate xs.length ("back" :Str)).length ys H':=by rw[List.length_replicate];exact ri
  obtain⟨pr,hJ,f'⟩:=this.done
  exact q ys _ H' pr hJ f'
end
section
variable {K:PySem.W.Frag}{D L Pg a:Addr}{H:Hp}{S:List aU}{wd hg:Int}{xs:List V}{σ:L2.St}
theorem Wg {Q:Bool→Hp→Prop}(EK:σ[10]? =some (some (.ref a))) (h8:σ[8]? =some (some (.str (dw wd hg xs)))) (dk:Dk D L Pg H a ((wd,hg,xs)::S)) (br:S.length≤900) (q:∀H',Fr [L,Pg] H H'→Dk D L Pg H' a ((wd,hg,xs)::S)→Q false H'):
  vY (jN wM (gp (gq D Pg) [] E0 (cg (fm 10) (cg (tC (.str "shown")) dZ))) (fm 8)) σ H Q:=by
 refine⟨_,EK,Wh dk (ZJ br Jo .shown) fun v H' f d an=> ?_⟩
 have an:v=.str (dw wd hg xs):=an
 subst an
 refine⟨_,h8,rfl,false,?_,q H' f d⟩
 show V.bl (!decide (V.str (dw wd hg xs)=V.str (dw wd hg xs)))=V.bl false
 simp
def gT (wd hg:Int) (xs:List V):List Str:=ln2 "board" wd hg::bj 0 xs
theorem Kc (w1:1≤wd) (w2:wd≤12) (g1:1≤hg) (g2:hg≤12) (ly:bD wd hg xs):∃T U:List aU,(wd,hg,xs)::T=U++S1∧U.length=(gT wd hg xs).length∧Run S1 (gT wd hg xs) (rep (gT wd hg xs).length) ((wd,hg,xs)::T)∧T.length≤20:=by
 have ll:=ly.len
 obtain⟨U,h1,h2,h3⟩:=Wi w2 g2 xs [] S1 ly (by show 1+xs.length≤900;omega)
 rw[List.nil_append,List.nil_append]at h3
 rw[List.nil_append]at h2
 have e:List.replicate wd.toNat V.ae=List.replicate xs.length .ae:=by congr 1;omega
 have r:Run S1 (gT wd hg xs) (rep (gT wd hg xs).length) (U++(wd,hg,List.replicate xs.length V.ae)::S1):=by
  have sy:jz (1,1,[.ae]) [] (ln2 "board" wd hg) (.push wd hg (List.replicate wd.toNat V.ae)):=ZJ (by decide) (Yi (by decide) (by decide) (by omega) (by omega) (by omega) (by omega)) (.uV wd hg w1 w2 g1 g2)
  refine .cons sy ?_
  show Run ((wd,hg,List.replicate wd.toNat V.ae)::S1) _ _ _
  rw[e]
  exact h2
 have lp:=YI xs 0
 generalize hF:U++(wd,hg,List.replicate xs.length V.ae)::S1=F at r h3
 cases F with
 |nil=>cases h3
 |cons t T=>
  injection h3 with h3
  subst h3
  refine⟨T,U++[(wd,hg,List.replicate xs.length V.ae)],?_,?_,r,?_⟩
  ·rw[←hF,List.append_assoc];rfl
  ·rw[List.length_append,h1];rfl
  ·have:=congrArg List.length hF
   rw[List.length_append,h1,List.length_cons]at this
   have e4:((wd,hg,xs)::T).length=T.length+1:=rfl
   have e5:(S1:List aU).length=1:=rfl
   have e2:(S1:List aU).length=1:=rfl
   have e3:(bj ([]:List V).length xs).length=(bj 0 xs).length:=rfl
   omega
def fK (wd:Int) (n:Nat):List Str:=(List.range n).map fun(k:Nat)=>lF "take" ((k:Int)%wd)
theorem GP (w1:1≤wd) (w2:wd≤12) (br:S.length≤20):Run ((wd,hg,xs)::S) (fK wd 40++List.replicate 40 ("back" :Str)) (rep 80) ((wd,hg,xs)::S):=by
 obtain⟨T,e,r⟩:=WF (hg:=hg) w1 w2 ((List.range 40).map fun(k:Nat)=> (k:Int)%wd) (fun k hk=>by
  obtain⟨j,_,rfl⟩:=List.mem_map.mp hk
  exact⟨Int.emod_nonneg _ (by omega),Int.emod_lt_of_pos _ (by omega)⟩) xs S (by rw[List.length_map,List.length_range];omega)
 rw[List.length_map,List.length_range]at e r
 have b:=Jl T (wd,hg,xs) S (by omega)
 rw[e]at b
 have:=r.app b
 rw[List.map_map]at this
 exact this
end
section
variable {P:Program}{w:World}{K:PySem.W.Frag}{mg:Str→Option Value}{base:Heap}{D:Addr}{cx:Nat→Addr}
abbrev cT:Stmt:=top 75
def qK (K:PySem.W.Frag) (Pg Pt:Addr):Sp:=fun vs H Q _=> ∃(a:Addr) (ns:List Int),vs=[.ref a]∧dj K H a ns∧ns.length≤63∧(∀Px∈[Pg,Pt],H Px=some (.bt #[]))∧∀H',Q (.bl true) H'
abbrev lB:List Str:=["_law_script", "_law_k", "_law_state_here", "_law_board_here", "_law_lay_here", "_law_line", "_law_told", "_law_lines", "_law_shown", "_law_more", "_law_desk"]
theorem eK:aF lB ["_law_script"] (aq cT):=⟨rfl,rfl,rfl,by decide+kernel,rfl,by decide+kernel,by decide+kernel⟩
theorem Kw {a dx l1 t1 L:Addr}{W:Str}{y:V}{H:Hp}(hW:W∈dY) (hy:y∈(kA W).map V.str++[.ae,.int 7,.ref l1,.ref t1,.bl true]) (ha:H a=some (.ins D dx [("states",.ref L)])) (h1:H l1=some (.lst [.str "shown"])) (h2:H t1=some (.tup [.str "shown"])):Refs K D cx a y 13 H:=by
 refine⟨dx,_,ha,rfl,fun Q' E' hE=> ?_⟩
 rcases List.mem_append.mp hy with m |m
 ·obtain⟨z,hz,rfl⟩:=List.mem_map.mp m
  obtain⟨b1,b2⟩:=GY hW hz
  exact .bad a z rfl b2 b1 hE
 ·simp only[List.mem_cons,List.not_mem_nil,or_false]at m
  rcases m with rfl |rfl |rfl |rfl |rfl
  ·exact .no a _ _ rfl .ae (by rfl) hE
  ·exact .no a _ _ rfl (.int 7) (by rfl) hE
  ·exact .no a _ _ rfl (.lst h1) (by rfl) hE
  ·exact .no a _ _ rfl (.tup h2) (by rfl) hE
  ·exact .no a _ _ rfl (.bl true) (by rfl) hE
theorem Hl {f c Pg Pt fR cS fI:Addr}{oc:Value}{od an:Option Addr}{kV doc pm ct:Value}{ck:Array (Option Value)}{ur:FuncData}(Cj:Pg≠Pt)
  (lk:K.lookup f=some ⟨oc,od,.func (PySem.W.fnOf "law" "law" (bU cT) (bp cT) (aq cT) .none kV doc pm an (.ref c) ct),ck⟩) (bJ:PySem.W.codeIn K (.ref c) "law" =true) (G:Gs mg)
  (K7:Def P w K mg base 102 "_law_state" ["_law_script", "_law_k"] (qE K)) (Lc:Def P w K mg base 2 "_law_board" ["_law_state_here", "_law_upto"] qS) (K8:Def P w K mg base 102 "_law_lay" ["_law_state_here", "_law_board_here"] (qR K))
  (K6:Def P w K mg base 1 "_law_text" ["_law_board_here", "_law_lay_here"] jT) (eF:Def P w K mg base 101 "_law_said" eR (gq D Pg)) (Lb:Def P w K mg base 2 "_law_bad_lines" ["_law_state_here"] qU) (La:Def P w K mg base 102 "_law_far_right" ["_law_state_here", "_law_desk", "_law_board_here", "_law_lay_here"] (qP D Pg))
  (DC:jK K D) (MD:Mk K D fI) (mD:mg "Desk" =some (.ref D)) (FI:ar P w K mg base aC 1 fI ur ["self"] (wm D)) (bI:Binds K ur ["self"] [])
  (hY:∀b',iT P w K mg b' D 11 "say" ["self", "line"] (gK K D cx)) (hR:∀b',Def P w K mg b' 13 "_law_refused" ["_law_call"] (kT P w K mg b' cS 12)) (mR:mg "_law_refused" =some (.ref fR)) (kR:PySem.W.keepIn K (.ref fR)=true)
  (ML:jC K mg cS (cx 13) 13) (hC:PySem.W.CodeHd base c Pt)
  (mh:∃bm ob,mg "__builtins__" =some (.ref bm)∧bm≠builtinsNs∧base.get? bm=some ob∧ob.cls=.type "module" ∧ob.dict=some builtinsNs∧ob.data=.plain):
  ar P w K mg base aC 103 f (PySem.W.fnOf "law" "law" (bU cT) (bp cT) (aq cT) .none kV doc pm an (.ref c) ct) ["_law_script"] (qK K Pg Pt):=by
 refine U2 lk bJ eK (fun vs H Q E h=> ?_) (fun A outer s H vs Q E hr h=> ?_)
 ·obtain⟨a,ns,rfl,_⟩:=h
  rfl
 ·obtain⟨a0,ns,rfl,wz,l7,xF,q⟩:=h
  have C9:=xF Pt (by simp)
  have C8:=xF Pg (by simp)
  have LC:LCtx (bB aC P w K mg base lB "law" (aq cT) f (.ref c) A outer s H E).dN cS c Pt fR 11:=⟨⟨rfl,hC,mh⟩,HQ rfl,hR,hr.mono (by decide),mR,kR⟩
  have gw:(A.deeper (envOfC "law" (aq cT) s.heap.objs.size f (.ref c))).units+1<cLine:=UZ hr
  have main:∃tt,cK (bB aC P w K mg base lB "law" (aq cT) f (.ref c) A outer s H E).dN (bp cT) tt∧tt {nx:=fun _ H'=>Q .ae H',rt:=Q} (start lB [.ref a0]) H:=by
   refine⟨_,Ze (Wo PassesOwn.never rfl (Z3 rfl G.range (Za (Zn (J9 (hr.hd (by decide))) rfl G.max boot_max (Za Zf (Za (Zn (IH (hr.hd (by decide))) rfl G.min boot_min (Za (Zn ZD rfl G.len boot_len (Za (pv 0) Zb)) (Za Zf Zb))) Zb))) Zb)) (ZK (i:=1) eK.nd rfl (Or.inl rfl))
    (Ze (Zx (i:=2) eK.nd rfl (Or.inl rfl) (Zk K7 hr (Za (pv 0) (Za (pv 1) Zb))))
    (Ze (Zx (i:=3) eK.nd rfl (Or.inr rfl) (Zk Lc (hr.mono (by decide)) (Za (pv 2) (Za Zf Zb))))
    (Ze (Zx (i:=4) eK.nd rfl (Or.inr rfl) (Zk K8 hr (Za (pv 2) (Za (pv 3) Zb))))
    (Ze (Zx (i:=10) eK.nd rfl (Or.inr rfl) (Kr MD FI (hr.mono (by decide)) rfl mD bI .nil w5))
    (Ze (Yl ["_law_line", "_law_desk"] 1 [10] (i:=6) eK.nd rfl (Or.inl rfl) (Z7 (Zq (Za Zl (Za Zl (Za Zl (Za Zl (Za Zl Zb))))))) (fun C s H fp=>pb 0) (fun C s H fp=>ZV) (fun C s H fp D=>dr rfl (Zk eF (hr.mono (by decide)) (Za (pv 1) (Za (pv 0) Zb)))))
    (Ze (ZN (Zw (Ys gw) (pv 6) (Zq (Za (Zq (Za Zf Zb)) (Za Zl (Za (Zq (Za Zf Zb)) (Za (Zq (Za Zf Zb)) (Za (Zq (Za Zf Zb)) Zb)))))) (bw _)) ZO ZA)
    (Ze (Zx (i:=7) eK.nd rfl (Or.inl rfl) (Zq (Za (Zm Zs (Zm Zs (Zm Zs Zl (Zr Zp rfl G.str PyProof.Rows.Boot.«str» (Za (Zz ZI (pv 3) Zf (fun _ _=>rfl)) Zb))) Zl) (Zr Zp rfl G.str PyProof.Rows.Boot.«str» (Za (Zz ZI (pv 3) Zf (fun _ _=>rfl)) Zb))) Zb)))
    (Ze (Zx (i:=7) eK.nd rfl (Or.inl rfl) (Zm ZW (pv 7) (Ym ["_law_at", "_law_lay_here"] 1 [4] (Z3 rfl G.range (Za (Zz ZI (pv 3) Zf (fun _ _=>rfl)) Zb)) (fun C s H fp=>pb 0) (fun C s H fp=>Jb (Jp (Wq (Zz (show jE (aS _ _ _ C s H fp) (oz K) from ZI) (pv 1) (pv 0) (fun _ _=>rfl))))) (fun C s H fp D=>dr rfl (Zm Zs (Zm Zs (Zm Zs Zl (Zr Zp rfl G.str PyProof.Rows.Boot.«str» (Za (pv 0) Zb))) Zl) (Zr Zp rfl G.str PyProof.Rows.Boot.«str» (Za (Zz (show jE (aS _ _ _ C s H fp) (oz K) from ZI) (pv 1) (pv 0) (fun _ _=>rfl)) Zb)))))))
    (Ze (ZN (Zw (Ys gw) (Ym ["_law_line", "_law_desk"] 1 [10] (Z7 (pv 7)) (fun C s H fp=>pb 0) (fun C s H fp=>ZV) (fun C s H fp D=>dr rfl (Zk eF (hr.mono (by decide)) (Za (pv 1) (Za (pv 0) Zb))))) (Zm Jt (Zq (Za Zl Zb)) (Zn ZD rfl G.len boot_len (Za (pv 7) Zb))) (bw _)) ZO ZA)
    (Ze (Zx (i:=8) eK.nd rfl (Or.inl rfl) (Zk K6 (hr.mono (by decide)) (Za (pv 3) (Za (pv 4) Zb))))
    (Ze (Wo PassesOwn.never rfl (Z7 (Zk Lb (hr.mono (by decide)) (Za (pv 2) Zb))) (ZK (i:=5) eK.nd rfl (Or.inr rfl)) (Zj (ZN (PW.pt (Y3 (Zw (Ys gw) (UR (X:=(bB aC P w K mg base lB "law" (aq cT) f (.ref c) A outer s H E).dN) (idx:=[10,5]) (N:=["_law_desk", "_law_line"]) (bd:=mK _ _ _ _) LC (lsN (by decide)) rfl (xq ⟨rfl,rfl,rfl⟩ ⟨rfl,rfl,rfl⟩) rfl rfl (ze (by kernel_rfl))) (Zq (Za Zf Zb)) (bw _)) (Yp (Zw WL (Zk eF (hr.mono (by decide)) (Za (pv 10) (Za Zl Zb))) (pv 8) (bw _))))) ZO ZA)))
    (Ze (ZN (PW.pt (Y3 (Yz (Yb (Zk La hr (Za (pv 2) (Za (pv 10) (Za (pv 3) (Za (pv 4) Zb))))))) (Yp (Zw WL (Zk eF (hr.mono (by decide)) (Za (pv 10) (Za Zl Zb))) (pv 8) (bw _))))) ZO ZA)
    (Ze (Yl ["_law_at", "_law_board_here"] 1 [3] (i:=9) eK.nd rfl (Or.inl rfl) (Z3 rfl G.range (Za Zf Zb)) (fun C s H fp=>pb 0) (fun C s H fp=>ZV) (fun C s H fp D=>dr rfl (Zm Zs Zl (Zr Zp rfl G.str PyProof.Rows.Boot.«str» (Za (Zm Yt (pv 0) (Zz (show jE (aS _ _ _ C s H fp) (oz K) from ZI) (pv 1) Zf (fun _ _=>rfl))) Zb)))))
    (Ze (ZN (PW.pt (Y3 (Zw (Ys gw) (Ym ["_law_line", "_law_desk"] 1 [10] (Z7 (Zm ZW (pv 9) (Zm Jt (Zq (Za Zl Zb)) Zf))) (fun C s H fp=>pb 0) (fun C s H fp=>ZV) (fun C s H fp D=>dr rfl (Zk eF (hr.mono (by decide)) (Za (pv 1) (Za (pv 0) Zb))))) (Zm Jt (Zq (Za Zl Zb)) Zf) (bw _)) (Yp (Zw WL (Zk eF (hr.mono (by decide)) (Za (pv 10) (Za Zl Zb))) (pv 8) (bw _))))) ZO ZA)
    (Ze (Yl ["_law_line", "_law_desk"] 1 [10] (i:=6) eK.nd rfl (Or.inl rfl) (Z7 (pv 7)) (fun C s H fp=>pb 0) (fun C s H fp=>ZV) (fun C s H fp D=>dr rfl (Zk eF (hr.mono (by decide)) (Za (pv 1) (Za Zl Zb)))))
    (Zj (ZN (PW.pt (Y3 (Zw (Ys gw) (pv 6) (Zm Jt (Zq (Za Zl Zb)) (Zn ZD rfl G.len boot_len (Za (pv 7) Zb))) (bw _)) (Yp (Zw (Ys gw) (Zq (Za (Zk eF (hr.mono (by decide)) (Za (pv 10) (Za Zl Zb))) (Za (Zk eF (hr.mono (by decide)) (Za (pv 10) (Za Zl Zb))) Zb))) (Zq (Za (Zq (Za Zf Zb)) (Za Zl Zb))) (bw _))))) ZO ZA)))))))))))))))))) (Zj (Zv Y4)),?_⟩
   have Ao:TabAt H Pt qL:=⟨#[],C9,trivial,fun pos cv z=>by cases z⟩
   have An:TabAt H Pg ip:=⟨#[],C8,trivial,fun pos cv z=>by cases z⟩
   refine Zi ?_
   refine⟨_,rfl,a0,_,rfl,.inl wz.sq,_,_,rfl,_,_,rfl,_,rfl,(by rw[List.length_map];split<;>split<;>omega),(by rw[List.length_map];split<;>split<;>omega),?_⟩
   refine J5 (fun i σ H'=> ∃s1 s2 s3 s4 s5 s6 s7 s8 s9 BC,σ=[some (.ref a0),s1,s2,s3,s4,s5,s6,s7,s8,s9,BC]∧dj K H' a0 ns∧TabAt H' Pt qL∧TabAt H' Pg ip) ⟨_,_,_,_,_,_,_,_,_,_,rfl,wz,Ao,An⟩ ?_ ?_
   ·rintro i σ H0 hi ⟨q1,q2,q3,q4,q5,q6,q7,q8,q9,Lr,rfl,q0,vV,vT⟩
    rw[Int.zero_add]
    refine Zo ?_
    dsimp only[List.set]
    refine Zi (Zu ⟨_,rfl,_,rfl,a0,ns,i,rfl,q0.sq,fun p H1 np k1 cj=>Zo ?_⟩)
    dsimp only[List.set]
    refine Zi (Zu ⟨_,rfl,p,12,rfl,cj,by decide,by decide,fun b H2 wd hg w1 w2 g1 g2 x2 bH fw nb=>Zo ?_⟩)
    dsimp only[List.set]
    refine Zi (Zu ⟨_,rfl,_,rfl,p,b,wd,hg,rfl,bH,⟨ZH fw,w1,w2,g1,g2⟩,fun l H3 xs x3 cu jj nl ly=>Zo ?_⟩)
    dsimp only[List.set]
    have iG:=x3 _ _ fw nb
    obtain⟨u1,v1,pN,_⟩:=id cj
    obtain⟨u2,v2,pM,_⟩:=id bH
    have wF:dj K H3 a0 ns:=((q0.same k1).x x2 pN (fun _ _ z=>by cases z)).x x3 pM (fun _ _ z=>by cases z)
    have vU:TabAt H3 Pt qL:=WC (WC (Z4 vV k1) x2 pN (fun _ z=>by cases z) (fun _ z=>by cases z)) x3 pM (fun _ z=>by cases z) (fun _ z=>by cases z)
    have vS:TabAt H3 Pg ip:=WC (WC (Z4 vT k1) x2 pN (fun _ z=>by cases z) (fun _ z=>by cases z)) x3 pM (fun _ z=>by cases z) (fun _ z=>by cases z)
    clear x2 x3 cj bH fw pN pM k1 q0 vV vT nb nl np
    refine Zi (Zu fun a dx na nx ne=> ?_)
    have k4:aj H3 (upd (upd H3 dx (.own a)) a (.ins D dx [])):=fun q o h=>by rw[Zh (Zg h na),Zh (Zg h nx)];exact h
    have e4:upd (upd H3 dx (.own a)) a (.ins D dx []) a=some (.ins D dx []):=Zc
    generalize upd (upd H3 dx (HO.own a)) a (HO.ins D dx [])=H4 at k4 e4 ⊢
    refine .mk a dx rfl e4 fun L v H5 nL x5 d5 s5=> ⟨rfl,Zo ?_⟩
    dsimp only[List.set]
    have k5:aj H3 H5:=fun q o h=>x5 _ _ (k4 _ _ h) (Zg h na)
    have w9:p≠L:=fun z=>by
     obtain⟨u,v,e,_⟩:=cu
     rw[←z,k4 _ _ e]at nL
     cases nL
    have W5:Wd K a0 Pt p b l D L Pg a ns wd hg xs H5 S1:=⟨wF.same k5,Z4 vU k5,cu.fU k5,k5 _ _ iG,k5 _ _ jj,⟨⟨[v],d5,.cons s5 .nil⟩,Z4 vS k5⟩,w9,Cj⟩
    clear k5 w9 x5 d5 s5 nL e4 k4 na nx ne wF vU vS iG jj cu
    refine Zi (Zu ⟨(by show 5≤sizeLine;decide),fun c1 t8=> ?_⟩)
    have k6:=Zd (o:=.lst [V.str "back",V.str "shown",V.str "put 1 0",V.str "back 1",V.str "back "]) t8
    have e6:upd H5 c1 (.lst [V.str "back",V.str "shown",V.str "put 1 0",V.str "back 1",V.str "back "]) c1=some (.lst [V.str "back",V.str "shown",V.str "put 1 0",V.str "back 1",V.str "back "]):=Zc
    generalize upd H5 c1 (HO.lst [V.str "back",V.str "shown",V.str "put 1 0",V.str "back 1",V.str "back "])=H6 at k6 e6 ⊢
    refine⟨c1,rfl,⟨_,ak.of e6⟩,?_⟩
    refine YZ (zs:=["back", "shown", "put 1 0", "back 1", "back "]) (W5.same k6).d BE (by decide) e6 (W5.own t8) ⟨none,rfl⟩ fun ys af H7 pr mC f7 c2 dR=> ?_
    have W7:=(W5.same k6).fr f7 mC
    clear W5 k6 e6 t8 f7 mC
    have k8:=Zd (o:=.lst ys) dR
    have e8:upd H7 c2 (.lst ys) c2=some (.lst ys):=Zc
    generalize upd H7 c2 (HO.lst ys)=H8 at k8 e8 ⊢
    refine Zo ?_
    dsimp only[List.set]
    have W8:=W7.same k8
    have kZ:=YF pr (Fr.same k8)
    clear W7 pr dR k8
    refine Zi ⟨_,rfl,(by show 1≤sizeLine;decide),fun m1 cV=> ?_⟩
    have j1:=Zd (o:=.lst [V.int 14]) cV
    have r1:upd H8 m1 (.lst [V.int 14]) m1=some (.lst [V.int 14]):=Zc
    generalize upd H8 m1 (HO.lst [V.int 14])=I1 at j1 r1 ⊢
    refine⟨(by show 1≤sizeLine;decide),fun m2 bL=> ?_⟩
    have j2:=Zd (o:=.lst [V.int 2]) bL
    have r2:upd I1 m2 (.lst [V.int 2]) m2=some (.lst [V.int 2]):=Zc
    generalize upd I1 m2 (HO.lst [V.int 2])=I2 at j2 r2 ⊢
    refine⟨(by show 1≤sizeLine;decide),fun m3 eu=> ?_⟩
    have j3:=Zd (o:=.lst [V.int 13]) eu
    have r3:upd I2 m3 (.lst [V.int 13]) m3=some (.lst [V.int 13]):=Zc
    generalize upd I2 m3 (HO.lst [V.int 13])=I3 at j3 r3 ⊢
    refine⟨(by show 1≤sizeLine;decide),fun m4 iA=> ?_⟩
    have j4:=Zd (o:=.lst [V.int 13]) iA
    have r4:upd I3 m4 (.lst [V.int 13]) m4=some (.lst [V.int 13]):=Zc
    generalize upd I3 m4 (HO.lst [V.int 13])=I4 at j4 r4 ⊢
    refine⟨(by show 5≤sizeLine;decide),fun m5 l8=> ?_⟩
    have j5:=Zd (o:=.lst [V.ref m1,V.str "1x1: .",V.ref m2,V.ref m3,V.ref m4]) l8
    have r5:upd I4 m5 (.lst [V.ref m1,V.str "1x1: .",V.ref m2,V.ref m3,V.ref m4]) m5=some (.lst [V.ref m1,V.str "1x1: .",V.ref m2,V.ref m3,V.ref m4]):=Zc
    generalize upd I4 m5 (HO.lst [V.ref m1,V.str "1x1: .",V.ref m2,V.ref m3,V.ref m4])=H9 at j5 r5 ⊢
    have su:=j4.trans j5
    have sF:=j3.trans su
    have sH:=j2.trans sF
    have oo:=j1.trans sH
    refine⟨c2,m5,_,_,rfl,rfl,ak.of (oo _ _ e8),ak.of r5,Ya (YF kZ (Fr.same oo)) (.cons ⟨m1,rfl,sH _ _ r1⟩ (.cons rfl (.cons ⟨m2,rfl,sF _ _ r2⟩ (.cons ⟨m3,rfl,su _ _ r3⟩ (.cons ⟨m4,rfl,j5 _ _ r4⟩ .nil))))),_,rfl,ay (ZG ?_)⟩
    dsimp only
    have W9:=W8.same oo
    clear j1 j2 j3 j4 j5 r1 r2 r3 r4 r5 su sF sH oo cV bL eu iA l8 W8 kZ e8
    have lS:∀{n:Int},0≤n→n<100→(aB n).length≤20:=fun h0 h1=>Nat.le_trans (Jv h0 h1).2.2 (by decide)
    have sR:=lS (n:=wd) (by omega) (by omega)
    have CC:=lS (n:=hg) (by omega) (by omega)
    have ll:=ly.len
    refine Zi (Zu ⟨_,rfl,b,_,_,_,rfl,rfl,au.of W9.hb,eE,wd,rfl,ZE (by omega) (by omega),_,_,rfl,rfl,cF (by decide) sR,_,_,rfl,rfl,cQ (by decide) sR (by decide),_,rfl,b,_,_,_,rfl,rfl,au.of W9.hb,cI,hg,rfl,ZE (by omega) (by omega),_,_,rfl,rfl,iW (by decide) sR (by decide) CC,(by show 1≤sizeLine;decide),fun c3 km=>Zo ?_⟩)
    have gv:=Zd (o:=.lst [V.str ("board " ++aB wd++ " " ++aB hg)]) km
    have e10:upd H9 c3 (.lst [V.str ("board " ++aB wd++ " " ++aB hg)]) c3=some (.lst [V.str ("board " ++aB wd++ " " ++aB hg)]):=Zc
    generalize upd H9 c3 (HO.lst [V.str ("board " ++aB wd++ " " ++aB hg)])=jH at gv e10 ⊢
    dsimp only[List.set]
    have jx:=W9.same gv
    clear W9 gv km
    refine Zi (Zu ⟨_,rfl,_,rfl,b,_,_,_,rfl,rfl,au.of jx.hb,eE,wd,rfl,by omega,by omega,?_⟩)
    refine Yn (n:=wd.toNat) (fun j ys af H'=>ys=(bj 0 (xs.take j)).map V.str∧H'=jH∧∃v,af=[v,some (.ref l)]) ⟨by rw[List.take_zero];rfl,rfl,none,rfl⟩ ?_ ?_
    ·rintro j ys af H' hj ⟨rfl,rfl,v,rfl⟩
     have ph:j<xs.length:=by omega
     have ub:dW xs (0+(j:Int))=some xs[j]:=by rw[Int.zero_add];exact YT (List.getElem?_eq_getElem ph)
     have xo:=ly.ok xs[j] (List.getElem_mem ph)
     have lr:∀r,xs[j]=V.int r→0≤r∧r<hg:=fun r h=>Wu ly (h▸List.getElem_mem ph)
     have et:bj 0 (xs.take (j+1))=bj 0 (xs.take j)++bj j [xs[j]]:=by
      rw[List.take_add_one,List.getElem?_eq_getElem ph,WH,List.length_take,Nat.min_eq_left (by omega),Nat.zero_add]
      rfl
     have lp:(bj 0 (xs.take j)).length≤12:=by
      have:=YI (xs.take j) 0
      rw[List.length_take]at this
      omega
     generalize xs[j]=y at ub xo lr et
     refine⟨_,rfl,_,rfl,l,xs,_,y,rfl,rfl,au.of jx.hl,ub,_,rfl,?_⟩
     rcases xo with rfl |⟨r,rfl⟩
     ·refine ay ⟨?_,rfl,_,rfl⟩
      rw[et]
      show _=(bj 0 (xs.take j)++[]).map V.str
      rw[List.append_nil]
     ·obtain⟨r0,r1⟩:=lr r rfl
      have lj:=lS (n:=(0+(j:Int))) (by omega) (by omega)
      have CA:=lS (n:=r) (by omega) (by omega)
      refine aH ⟨_,rfl,_,rfl,ZE (by omega) (by omega),_,_,rfl,rfl,cF (by decide) lj,_,_,rfl,rfl,cQ (by decide) lj (by decide),_,rfl,_,rfl,l,xs,_,_,rfl,rfl,au.of jx.hl,ub,r,rfl,ZE (by omega) (by omega),_,_,rfl,rfl,iW (by decide) lj (by decide) CA,?_,?_,rfl,_,rfl⟩
      ·rw[List.length_map,sizeLine_eq];omega
      ·rw[et,List.map_append]
       show _=_++[V.str (ln2 "put" (j:Int) r)]
       rw[Int.zero_add,Uq]
    ·rintro ys af H' ⟨rfl,rfl,v,rfl⟩ c4 me
     rw[List.take_of_length_le (by omega:xs.length≤wd.toNat)]
     have eX:=Zd (o:=.lst ((bj 0 xs).map V.str)) me
     have e11:upd H' c4 (.lst ((bj 0 xs).map V.str)) c4=some (.lst ((bj 0 xs).map V.str)):=Zc
     generalize upd H' c4 (HO.lst ((bj 0 xs).map V.str))=iR at eX e11 ⊢
     have lp:(bj 0 xs).length≤12:=by
      have:=YI xs 0
      omega
     refine⟨c3,c4,_,_,rfl,rfl,eX _ _ e10,e11,(by rw[List.length_map];show 1+_≤sizeLine;rw[sizeLine_eq];omega),fun c5 gZ=>Zo ?_⟩
     have gS:=(jx.same eX).own gZ
     have gW:=Zd (o:=.lst ([V.str ("board " ++aB wd++ " " ++aB hg)]++(bj 0 xs).map V.str)) gZ
     have e12:upd iR c5 (.lst ([V.str ("board " ++aB wd++ " " ++aB hg)]++(bj 0 xs).map V.str)) c5=some (.lst ([V.str ("board " ++aB wd++ " " ++aB hg)]++(bj 0 xs).map V.str)):=Zc
     generalize upd iR c5 (HO.lst ([V.str ("board " ++aB wd++ " " ++aB hg)]++(bj 0 xs).map V.str))=qf at gW e12 ⊢
     dsimp only[List.set]
     have vj:=jx.same (eX.trans gW)
     have xa:c5≠p:=fun z=>by
      obtain⟨u,v,e,_⟩:=(jx.same eX).st
      rw[←z,gZ]at e
      cases e
     clear jx eX gW e10 e11 me gZ
     have eZ:[V.str ("board " ++aB wd++ " " ++aB hg)]++(bj 0 xs).map V.str=(gT wd hg xs).map V.str:=by
      unfold gT
      rw[List.map_cons,HG]
      rfl
     rw[eZ]at e12
     obtain⟨T,U,eU,lU,rn,lT⟩:=Kc w1 w2 g1 g2 ly
     have lz:(gT wd hg xs).length≤13:=by
      show(bj 0 xs).length+1≤13
      omega
     generalize gT wd hg xs=zs at e12 lU rn lz
     clear eZ lp
     refine Zi ⟨_,rfl,c5,rfl,⟨_,ak.of e12⟩,?_⟩
     refine YZ vj.d rn (by omega) e12 gS ⟨none,rfl⟩ fun ys af jG pr yU uA c6 ye=> ?_
     have zF:=vj.fr uA yU
     have e13:=uA _ _ e12 gS
     have fX:=Zd (o:=.lst ys) ye
     have e14:upd jG c6 (.lst ys) c6=some (.lst ys):=Zc
     generalize upd jG c6 (HO.lst ys)=nr at fX e14 ⊢
     refine⟨(by show 1≤sizeLine;decide),fun m1 cV=> ?_⟩
     have eV:=Zd (o:=.lst [V.str "ok"]) cV
     have e15:upd nr m1 (.lst [V.str "ok"]) m1=some (.lst [V.str "ok"]):=Zc
     generalize upd nr m1 (HO.lst [V.str "ok"])=kC at eV e15 ⊢
     refine⟨_,rfl,c5,_,rfl,.inl (ak.of ((fX.trans eV) _ _ e13)),m1,_,_,rfl,rfl,e15,by rw[List.length_map];omega,by rw[List.length_map];omega,by rw[List.length_map,Int.toNat_natCast];show 1*_≤sizeLine;rw[sizeLine_eq];omega,fun m2 bL=> ?_⟩
     rw[List.length_map,Int.toNat_natCast]
     have fV:=Zd (o:=.lst (List.replicate zs.length [V.str "ok"]).flatten) bL
     have e16:upd kC m2 (.lst (List.replicate zs.length [V.str "ok"]).flatten) m2=some (.lst (List.replicate zs.length [V.str "ok"]).flatten):=Zc
     generalize upd kC m2 (HO.lst (List.replicate zs.length [V.str "ok"]).flatten)=qe at fV e16 ⊢
     refine⟨c6,m2,_,_,rfl,rfl,ak.of ((eV.trans fV) _ _ e14),ak.of e16,Ya (YF pr (Fr.same (fX.trans (eV.trans fV)))) (YH (r:=.txt "ok") rfl zs.length),_,rfl,ay (ZG ?_)⟩
     dsimp only
     have pX:=zF.same (fX.trans (eV.trans fV))
     have yO:=(fX.trans (eV.trans fV)) _ _ e13
     clear vj zF fX eV fV e13 e14 e15 e16 e12 uA yU pr ye cV bL
     refine Zi (Zu ⟨_,rfl,_,rfl,b,l,wd,hg,xs,rfl,⟨ZH pX.hb,w1,w2,g1,g2⟩,pX.hl,ly,fun vG sX=>Zo ?_⟩)
     dsimp only[List.set]
     have mO:=pX.same sX
     have e17:=sX _ _ yO
     clear pX yO sX
     refine Zi ⟨_,rfl,.mk p rfl mO.st fun Wb lb l1 t1 K3 hW xh qm wk uF yH xi yF=> ⟨lb,rfl,⟨_,ak.of uF⟩,?_⟩⟩
     have zE:=mO.sp qm wk
     have e18:=qm _ _ e17 xa
     have ob:=mO.own xh
     have o1:=mO.own xi
     clear mO e17 qm wk
     refine HN (xs:=(kA Wb).map V.str++[.ae,.int 7,.ref l1,.ref t1,.bl true]) (fun j σ H'=> ∃s5,σ=[some (.ref a0),some (.int (i:Int)),some (.ref p),some (.ref b),some (.ref l),s5,some (.ref c2),some (.ref c5),some (.str (dw wd hg xs)),q9,some (.ref a)]∧Wd K a0 Pt p b l D L Pg a ns wd hg xs H' ((wd,hg,xs)::T)∧H' lb=some (.lst ((kA Wb).map V.str++[.ae,.int 7,.ref l1,.ref t1,.bl true]))∧H' l1=some (.lst [.str "shown"])∧H' t1=some (.tup [.str "shown"])∧H' c5=some (.lst (zs.map V.str)))
      ⟨_,rfl,zE,uF,yH,yF,e18⟩ (fun j σ H' _ ⟨_,_,_,h,_⟩=>ak.of h) ?_ ?_
     ·rintro j y σ H' hy ⟨s5,rfl,W,gB,fw,iG,El⟩
      have ym:=List.mem_of_getElem? hy
      refine Zo ?_
      dsimp only[List.set]
      obtain⟨vR,eT,_⟩:=id W.tb
      have nt:∀{H2:Hp}{q:Addr}{o:HO},aw Pt H' H2→H' q=some o→(∀ps,o≠.bt ps)→H2 q=some o:=fun x h n=>x _ _ h fun z=>by
       rw[z,eT]at h
       cases h
       exact n _ rfl
      refine⟨[.ref a,y],cx 13,13,Refs K D cx a y 13,rfl,wX rfl rfl,W.tb,by decide,ML,fun f'=>y6 (Nat.le_refl _) DC hY rfl rfl fun env=> ⟨_,rfl⟩,fun H2 x2=> ?_,fun lr H2 x2 qw Ls Dy=> ?_⟩
      ·obtain⟨us,⟨dx,ha,_⟩,_⟩:=W.d.d
       exact Kw hW ym (nt x2 ha fun _ z=>by cases z) (nt x2 fw fun _ z=>by cases z) (nt x2 iG fun _ z=>by cases z)
      refine⟨(by show 1≤sizeLine;decide),fun m hm=> ?_⟩
      have W2:=W.pt x2 qw
      have b1:=nt x2 gB fun _ z=>by cases z
      have b2:=nt x2 fw fun _ z=>by cases z
      have b3:=nt x2 iG fun _ z=>by cases z
      have b5:=nt x2 El fun _ z=>by cases z
      have k3:=Zd (o:=.lst [V.int 13]) hm
      have e3:upd H2 m (.lst [V.int 13]) m=some (.lst [V.int 13]):=Zc
      generalize upd H2 m (HO.lst [V.int 13])=Mc at k3 e3 ⊢
      refine⟨lr,m,_,_,rfl,rfl,ak.of (k3 _ _ Dy),ak.of e3,.cons (.inr (.inl ⟨13,rfl,rfl⟩)) .nil,_,rfl,ay (Wg rfl rfl (W2.same k3).d (by omega) fun L7 f4 d4=>ay (ZG ?_))⟩
      have n3:∀{q:Addr},H2 q=some (.tup [.str "shown"])→q∉[L,Pg]:=fun h z=>by
       rcases W2.ex _ (List.mem_append_left [p] z) with ⟨zs,e⟩ |⟨_,ps,e⟩<;>rw[h]at e<;>cases e
      exact⟨_,rfl,(W2.same k3).fr f4 d4,f4 _ _ (k3 _ _ b1) ob,f4 _ _ (k3 _ _ b2) o1,f4 _ _ (k3 _ _ b3) (n3 b3),f4 _ _ (k3 _ _ b5) gS⟩
     ·rintro σ Mg ⟨s5,rfl,jw,_,_,_,e19⟩
      clear uF yH yF e18 zE xh xi hW ob o1
      dsimp only
      refine Zi ⟨_,rfl,_,rfl,_,rfl,_,rfl,.mk p a b l L wd hg xs T rfl jw.st jw.d (by omega) ⟨ZH jw.hb,w1,w2,g1,g2⟩ jw.hl ly jw.np fun Mf uz wj mF=> ⟨_,rfl,ay (Wg rfl rfl mF (by omega) fun K2 uy pT=>ay (ZG ?_))⟩⟩
      dsimp only
      have vi:=(jw.keep uz mF wj).fr uy pT
      have Co:c5∉[L,Pg,p]:=fun m=>by
       rcases List.mem_append.mp (show c5∈[L,Pg]++[p] from m) with m |m
       ·exact gS m
       ·exact xa (List.mem_singleton.mp m)
      have e21:=uy _ _ (uz _ _ e19 Co) gS
      clear jw e19 uz uy wj mF pT
      refine Zi (Zu ⟨40,rfl,by decide,by decide,?_⟩)
      refine Yn (n:=40) (fun j ys af H'=>ys=(fK wd j).map V.str∧H'=K2∧∃v,af=[v,some (.ref b)]) ⟨rfl,rfl,none,rfl⟩ ?_ ?_
      ·rintro j ys af H' hj ⟨rfl,rfl,v,rfl⟩
       have m0:0≤(0+(j:Int))%wd:=Int.emod_nonneg _ (by omega)
       have m1:(0+(j:Int))%wd<wd:=Int.emod_lt_of_pos _ (by omega)
       have lm:=lS (n:=(0+(j:Int))%wd) m0 (by omega)
       refine⟨_,rfl,_,rfl,b,_,_,_,rfl,rfl,au.of vi.hb,eE,_,_,rfl,rfl,by omega,_,rfl,ZE m0 (by omega),_,_,rfl,rfl,cF (by decide) lm,?_,?_,rfl,_,rfl⟩
       ·unfold fK;rw[List.length_map,List.length_map,List.length_range,sizeLine_eq];omega
       ·unfold fK
        rw[List.range_succ,List.map_append,List.map_append,Int.zero_add,UN]
        rfl
      ·rintro ys af H' ⟨rfl,rfl,v,rfl⟩ c7 yd
       have oS:=Zd (o:=.lst ((fK wd 40).map V.str)) yd
       have e22:upd H' c7 (.lst ((fK wd 40).map V.str)) c7=some (.lst ((fK wd 40).map V.str)):=Zc
       generalize upd H' c7 (HO.lst ((fK wd 40).map V.str))=z5 at oS e22 ⊢
       refine Zo ?_
       dsimp only[List.set]
       have zD:=vi.same oS
       have e5:=oS _ _ e21
       have rt:=GP (hg:=hg) (xs:=xs) w1 w2 lT
       have lt:(fK wd 40).length=40:=by unfold fK;rw[List.length_map,List.length_range]
       generalize fK wd 40=tz at e22 rt lt
       clear vi e21 oS yd
       refine Zi ⟨_,rfl,(by show 1≤sizeLine;decide),fun m1 cV=> ?_⟩
       have lL:=Zd (o:=.lst [V.str "back"]) cV
       have e23:upd z5 m1 (.lst [V.str "back"]) m1=some (.lst [V.str "back"]):=Zc
       generalize upd z5 m1 (HO.lst [V.str "back"])=z4 at lL e23 ⊢
       refine⟨m1,40,_,rfl,rfl,e23,by decide,by decide,(by show 1*40≤sizeLine;decide),fun m2 bL=> ?_⟩
       have lK:=Zd (o:=.lst (List.replicate (40:Int).toNat [V.str "back"]).flatten) bL
       have e24:upd z4 m2 (.lst (List.replicate (40:Int).toNat [V.str "back"]).flatten) m2=some (.lst (List.replicate (40:Int).toNat [V.str "back"]).flatten):=Zc
       generalize upd z4 m2 (HO.lst (List.replicate (40:Int).toNat [V.str "back"]).flatten)=zZ at lK e24 ⊢
       refine⟨c7,m2,_,_,rfl,rfl,(lL.trans lK) _ _ e22,e24,(by rw[List.length_map,lt];show 80≤sizeLine;decide),fun m3 eu=> ?_⟩
       have vh:=zD.same (lL.trans lK)
       have Cn:=vh.own eu
       have oR:=Zd (o:=.lst (tz.map V.str++(List.replicate (40:Int).toNat [V.str "back"]).flatten)) eu
       have e25:upd zZ m3 (.lst (tz.map V.str++(List.replicate (40:Int).toNat [V.str "back"]).flatten)) m3=some (.lst (tz.map V.str++(List.replicate (40:Int).toNat [V.str "back"]).flatten)):=Zc
       generalize upd zZ m3 (HO.lst (tz.map V.str++(List.replicate (40:Int).toNat [V.str "back"]).flatten))=Me at oR e25 ⊢
       have vg:=vh.same oR
       have e5:=(lL.trans (lK.trans oR)) _ _ e5
       clear zD vh lL lK oR e22 e23 e24 cV bL eu
       refine⟨m3,rfl,⟨_,ak.of e25⟩,?_⟩
       refine YZ (zs:=tz++List.replicate 40 ("back" :Str)) vg.d rt (by rw[List.length_append,lt];decide) (by rw[List.map_append];exact e25) Cn ⟨none,rfl⟩ fun ys af zY pr yS uw c8 yc=> ?_
       have zC:=vg.fr uw yS
       have e5:=uw _ _ e5 gS
       clear vg e25 uw yS
       have sW:=Zd (o:=.lst ys) yc
       have e27:upd zY c8 (.lst ys) c8=some (.lst ys):=Zc
       generalize upd zY c8 (HO.lst ys)=zX at sW e27 ⊢
       refine⟨(by show 1≤sizeLine;decide),fun m4 iA=> ?_⟩
       have oQ:=Zd (o:=.lst [V.str "ok"]) iA
       have e28:upd zX m4 (.lst [V.str "ok"]) m4=some (.lst [V.str "ok"]):=Zc
       generalize upd zX m4 (HO.lst [V.str "ok"])=zW at oQ e28 ⊢
       refine⟨m4,80,_,rfl,rfl,e28,by decide,by decide,(by show 1*80≤sizeLine;decide),fun m5 l8=> ?_⟩
       have oO:=Zd (o:=.lst (List.replicate (80:Int).toNat [V.str "ok"]).flatten) l8
       have e29:upd zW m5 (.lst (List.replicate (80:Int).toNat [V.str "ok"]).flatten) m5=some (.lst (List.replicate (80:Int).toNat [V.str "ok"]).flatten):=Zc
       generalize upd zW m5 (HO.lst (List.replicate (80:Int).toNat [V.str "ok"]).flatten)=Md at oO e29 ⊢
       have oj:=sW.trans (oQ.trans oO)
       have vf:=zC.same oj
       have e5:=oj _ _ e5
       refine⟨c8,m5,_,_,rfl,rfl,ak.of ((oQ.trans oO) _ _ e27),ak.of e29,Ya (YF pr (Fr.same oj)) (YH (r:=.txt "ok") rfl 80),_,rfl,ay (Wg rfl rfl vf.d (by omega) fun Mb uv pS=>ay (ZG ?_))⟩
       dsimp only
       have ve:=vf.fr uv pS
       have e5:=uv _ _ e5 gS
       clear zC vf sW oQ oO e27 e28 e29 oj pr yc iA l8 uv pS
       refine Zi (Zu ⟨_,rfl,c5,rfl,⟨_,ak.of e5⟩,?_⟩)
       have rb:Run ((wd,hg,xs)::T) (List.replicate (zs.map V.str).length "back") (rep zs.length) S1:=by
        rw[List.length_map,eU,←lU]
        exact Jl U (1,1,[.ae]) [] (by rw[lU];show 0+_≤900;omega)
       refine IV ve.d rb (by rw[List.length_map];omega) e5 gS ⟨none,rfl⟩ fun ys af zV pr yR uu c9 yb=> ?_
       have zB:=ve.fr uu yR
       have e5:=uu _ _ e5 gS
       have oN:=Zd (o:=.lst ys) yb
       have e32:upd zV c9 (.lst ys) c9=some (.lst ys):=Zc
       generalize upd zV c9 (HO.lst ys)=zU at oN e32 ⊢
       refine Zo ?_
       dsimp only[List.set]
       refine⟨_,rfl,(by show 1≤sizeLine;decide),fun m6 iz=> ?_⟩
       have lJ:=Zd (o:=.lst [V.str "ok"]) iz
       have e33:upd zU m6 (.lst [V.str "ok"]) m6=some (.lst [V.str "ok"]):=Zc
       generalize upd zU m6 (HO.lst [V.str "ok"])=zT at lJ e33 ⊢
       refine⟨_,rfl,c5,_,rfl,.inl (ak.of ((oN.trans lJ) _ _ e5)),m6,_,_,rfl,rfl,e33,by rw[List.length_map];omega,by rw[List.length_map];omega,by rw[List.length_map,Int.toNat_natCast];show 1*_≤sizeLine;rw[sizeLine_eq];omega,fun m7 pe=> ?_⟩
       rw[List.length_map,Int.toNat_natCast]
       have oM:=Zd (o:=.lst (List.replicate zs.length [V.str "ok"]).flatten) pe
       have e34:upd zT m7 (.lst (List.replicate zs.length [V.str "ok"]).flatten) m7=some (.lst (List.replicate zs.length [V.str "ok"]).flatten):=Zc
       generalize upd zT m7 (HO.lst (List.replicate zs.length [V.str "ok"]).flatten)=Ma at oM e34 ⊢
       have sG:=oN.trans (lJ.trans oM)
       have vd:=zB.same sG
       refine⟨c9,m7,_,_,rfl,rfl,ak.of ((lJ.trans oM) _ _ e32),ak.of e34,Ya (YF pr (Fr.same sG)) (YH (r:=.txt "ok") rfl zs.length),_,rfl,ay ?_⟩
       refine⟨_,rfl,Wh vd.d (ZJ (o:=.no 14) (by decide) Wn (.uY rfl)) fun v1 L9 E7 mE a35=> ?_⟩
       refine⟨_,rfl,Wh mE (ZJ (by decide) Jo .shown) fun v2 zS yB uI a36=> ?_⟩
       have KQ:=(vd.fr E7 mE).fr yB uI
       clear ve zB vd oN lJ oM e32 e33 e34 sG pr yb iz pe uu yR mE
       have e1:dw 1 1 [.ae]= "1x1: ." :=by decide+kernel
       have a36:v2=.str "1x1: ." :=e1▸a36
       have Gd:=a35.fr yB
       refine⟨(by show 2≤sizeLine;decide),fun c hc=> ?_⟩
       have xy:=Zd (o:=.lst [v1,v2]) hc
       have yK:upd zS c (.lst [v1,v2]) c=some (.lst [v1,v2]):=Zc
       generalize upd zS c (HO.lst [v1,v2])=zR at xy yK ⊢
       refine⟨(by show 1≤sizeLine;decide),fun m8 Dx=> ?_⟩
       have sV:=Zd (o:=.lst [V.int 14]) Dx
       have yJ:upd zR m8 (.lst [V.int 14]) m8=some (.lst [V.int 14]):=Zc
       generalize upd zR m8 (HO.lst [V.int 14])=zQ at sV yJ ⊢
       refine⟨(by show 2≤sizeLine;decide),fun m9 Dw=> ?_⟩
       have oK:=Zd (o:=.lst [V.ref m8,V.str "1x1: ."]) Dw
       have yI:upd zQ m9 (.lst [V.ref m8,V.str "1x1: ."]) m9=some (.lst [V.ref m8,V.str "1x1: ."]):=Zc
       generalize upd zQ m9 (HO.lst [V.ref m8,V.str "1x1: ."])=L8 at oK yI ⊢
       have wI:=xy.trans (sV.trans oK)
       have vb:=KQ.same wI
       exact⟨c,m9,_,_,rfl,rfl,ak.of ((sV.trans oK) _ _ yK),ak.of yI,Ya (L:=L) (Pg:=Pg) (rs:=[.no 14,.txt "1x1: ."]) (Paired.two (Gd.fr (.same wI)) a36) (Paired.two ⟨m8,rfl,oK _ _ yJ⟩ rfl),_,rfl,ay (ZG ⟨_,_,_,_,_,_,_,_,_,_,rfl,vb.sc,vb.tb,vb.d.tab⟩)⟩
   ·rintro σ H' _
    exact q _
  obtain⟨tt,h1,h2⟩:=main
  exact⟨tt,h1.dN,h2⟩
end
end U
namespace U
open PySem L2 PyProof.Rows PySem.Spec
abbrev ui:List Str:=["isinstance", "int", "bool", "tuple", "list", "len", "all", "set", "range", "max", "min", "zip", "str", "dict", "ValueError"]
section
variable {P:Program}{w:World}{K:PySem.W.Frag}{mg:Str→Option Value}{base:Heap}
theorem Gf {h:Heap}{t0 t1 t2:Tok}(KX:K.In h) (G:h.Ns mainGlobals mg) (e:ui.all (oF K)=true) (lo0:PySem.W.nsIn K mainGlobals "LONGEST_SIDE" =some (some (.int 12 t0))) (lo1:PySem.W.nsIn K mainGlobals "MOST_WIDE" =some (some (.int 6 t1))) (lo2:PySem.W.nsIn K mainGlobals "MOST_HIGH" =some (some (.int 7 t2))):Gs mg∧mg "ValueError" =none:=by
 have k:∀x∈ui,mg x=none:=fun x hx=>IW KX G (List.all_eq_true.mp e x hx)
 exact⟨⟨k _ (by simp),k _ (by simp),k _ (by simp),k _ (by simp),k _ (by simp),k _ (by simp),k _ (by simp),k _ (by simp),k _ (by simp),k _ (by simp),k _ (by simp),k _ (by simp),k _ (by simp),k _ (by simp),⟨t0,PySem.W.mg_of KX G lo0⟩,⟨t1,PySem.W.mg_of KX G lo1⟩,⟨t2,PySem.W.mg_of KX G lo2⟩⟩,k _ (by simp)⟩
def oJ (K:PySem.W.Frag) (C c:Value) (b:Bool):Bool:=match PySem.W.kitOne K C c with |some d=>d==b |none=>false
theorem zi {C c:Value}{b:Bool}(h:oJ K C c b=true):PySem.W.kitOne K C c=some b:=by
 unfold oJ at h
 split at h
 ·rename_i d q
  rw[q,beq_iff_eq.mp h]
 ·cases h
def Cs (K:PySem.W.Frag) (C:Addr) (iC:Nat):Bool:=(List.range 15).all fun i=>match PySem.W.nsIn K mainGlobals (xg.getD i "") with |some (some (.ref c))=>oJ K (.ref C) (.ref c) (decide (i=iC)) |_=>false
def mroOk (K:PySem.W.Frag) (C:Addr) (b:Value):Bool:=match PySem.W.mroIn K C b with |some d=>d |none=>false
theorem WO {C:Addr}{b:Value}(h:mroOk K C b=true):PySem.W.mroIn K C b=some true:=by
 unfold mroOk at h
 split at h
 ·rename_i d q
  rw[q,h]
 ·cases h
def uB (K:PySem.W.Frag) (C c:Value):Bool:=match PySem.W.exmOne K C c with |some d=>d |none=>false
theorem HM {C c:Value}(h:uB K C c=true):PySem.W.exmOne K C c=some true:=by
 unfold uB at h
 split at h
 ·rename_i d q
  rw[q,h]
 ·cases h
def jt (K:PySem.W.Frag) (cS C:Addr) (iC:Nat):Bool:=mroOk K C (.type "object")&&mroOk K C (.type "BaseException")&&(PySem.W.clsIn K C).isSome&&uB K (.ref C) (.ref cS)&&Cs K C iC&&oJ K (.ref C) (.type "ValueError") true&&PySem.W.excIn K C kz "ValueError.__new__"
theorem YN {h:Heap}{cS C:Addr}{iC:Nat}(KX:K.In h) (G:h.Ns mainGlobals mg) (mv:mg "ValueError" =none) (ms:mg "StepError" =some (.ref cS)) (e:jt K cS C iC=true)
  (ga:PySem.W.findIn K (.ref C) "__getattribute__" =some (some (.builtin "BaseException.__getattribute__"))) (hook:PySem.W.findIn K (.ref C) "__getattr__" =some none) (cl:PySem.W.findIn K (.ref C) "__class__" =some (some (.builtin "object.__class__"))):jC K mg cS C iC∧PySem.W.excIn K C kz "ValueError.__new__" =true:=by
 unfold jt at e
 simp only[Bool.and_eq_true]at e
 obtain⟨⟨⟨⟨⟨⟨e1,e2⟩,e3⟩,e4⟩,e5⟩,e6⟩,e7⟩:=e
 refine⟨⟨⟨ga,hook,cl,WO e1,WO e2,e3⟩,ms,HM e4,fun i hi=> ?_,mv,zi e6⟩,e7⟩
 have:=List.all_eq_true.mp e5 i (List.mem_range.mpr hi)
 split at this
 ·rename_i c q
  exact⟨c,PySem.W.mg_of KX G q,zi this⟩
 ·cases this
def uK (aN aP aM aL aD:Addr) (i:Nat):Addr:=if i=2 then aN else if i=4 then aP else if i=11 then aM else if i=13 then aL else aD
theorem aI.iV {x:Str}{st:Stmt}{ps:List Str}{k:Nat}{sp:Sp}{f0:Addr}(d:aI K x st) (n:PySem.W.nsIn K mainGlobals x=some (some (.ref f0))) (hb:iU x st ps) (ok:∀f fd,az K x x st f fd→ar P w K mg base (aG P w) k f fd ps sp):dG P w K mg base k f0 sp:=by
 obtain⟨f,fd,e,F⟩:=d
 rw[n]at e
 cases e
 exact⟨fd,ps,ok _ _ F,F.kp,F.binds hb⟩
def MethAt (K:PySem.W.Frag) (C:Addr) (m q:Str) (st:Stmt):Prop:=∃f fd,Meth K C m f∧az K m q st f fd
theorem xn {C:Addr}{m q:Str}{st:Stmt}{f:Addr}{oc:Value}{od an:Option Addr}{ck:Array (Option Value)}{kV doc pm ai ct:Value}(e1:PySem.W.findIn K (.ref C) m=some (some (.ref f)))
  (e2:K.lookup f=some ⟨oc,od,.func (PySem.W.fnOf m q (bU st) (bp st) (aq st) .none kV doc pm an ai ct),ck⟩) (e3:PySem.W.codeIn K ai q=true) (e4:PySem.W.keepIn K (.ref f)=true) (e5:PySem.W.isFn K (.ref f)=true):MethAt K C m q st:=⟨f,_,⟨e1,e5,e4⟩,Wy e2 e3 e4⟩
def zO (K:PySem.W.Frag) (C:Addr):Prop:=∃f fd,Mk K C f∧az K "__init__" "Desk.__init__" jW f fd
theorem CN {C:Addr}{f:Addr}{oc:Value}{od an:Option Addr}{ck:Array (Option Value)}{kV doc pm ai ct:Value}(e0:PySem.W.makesIn K C=true) (e1:PySem.W.findIn K (.ref C) "__init__" =some (some (.ref f)))
  (e2:K.lookup f=some ⟨oc,od,.func (PySem.W.fnOf "__init__" "Desk.__init__" (bU jW) (bp jW) (aq jW) .none kV doc pm an ai ct),ck⟩) (e3:PySem.W.codeIn K ai "Desk.__init__" =true) (e4:PySem.W.keepIn K (.ref f)=true) (e5:PySem.W.isFn K (.ref f)=true) (e6:PySem.W.keepIn K (.ref C)=true):zO K C:=⟨f,_,⟨e0,e1,e5,e6⟩,Wy e2 e3 e4⟩
theorem sU {a:Addr}{ag:List (Key×V)}{es:Array DictEntry}{ep:Nat}(e1:K.lookup a=some ⟨.type "dict",none,.dict es ep, #[]⟩) (hs:(a==sysModules)=false) (hp:Paired (qh w) es.toList ag) (nd:(ag.map (·.1)).Nodup):fE K w a ag:=⟨_,es,ep,e1,⟨rfl,rfl,rfl⟩,rfl,hs,hp,nd⟩
abbrev vN (x q:Str) (st:Stmt) (ps:List Str):Prop:=∀(kV doc pm:Value) (an:Option Addr) (ai ct:Value) (us:List Value),us.length=ps.length→bindArgs (PySem.W.fnOf x q (bU st) (bp st) (aq st) .none kV doc pm an ai ct) ⟨us,[]⟩=pure (ps.zip us)
theorem MethAt.to {C:Addr}{m q:Str}{st:Stmt}{ps:List Str}{k:Nat}{sp:Sp}(d:MethAt K C m q st) (hb:vN m q st ps) (ok:∀f fd,az K m q st f fd→ar P w K mg base (aG P w) k f fd ps sp):iT P w K mg base C k m ps sp:=by
 obtain⟨f,fd,M,F⟩:=d
 exact⟨f,fd,ok f fd F,M,F.binds hb⟩
theorem c1 {x q a:Str}{st:Stmt}(h:∀(kV doc pm:Value) (an:Option Addr) (ai ct u:Value),bindArgs (PySem.W.fnOf x q (bU st) (bp st) (aq st) .none kV doc pm an ai ct) ⟨[u],[]⟩=pure [(a,u)]):vN x q st [a]:=fun kV doc pm an ai ct us hl=>match us,hl with | [u],_=>h kV doc pm an ai ct u
theorem c2 {x q a b:Str}{st:Stmt}(h:∀(kV doc pm:Value) (an:Option Addr) (ai ct u v:Value),bindArgs (PySem.W.fnOf x q (bU st) (bp st) (aq st) .none kV doc pm an ai ct) ⟨[u,v],[]⟩=pure [(a,u),(b,v)]):vN x q st [a,b]:=fun kV doc pm an ai ct us hl=>match us,hl with | [u,v],_=>h kV doc pm an ai ct u v
set_option maxHeartbeats 4000000 in
theorem CI {fR cR PR:Addr}{B9:Value}{B8 F8:Option Addr}{CL Fm B3 FP:Value}{B6:Array (Option Value)}{h:Heap}{fa c Pt f cS aN aP aM aL aD:Addr}{oc:Value}{od an:Option Addr}{kV doc pm ct:Value}{ck:Array (Option Value)}{t0 t1 t2:Tok}(KX:K.In h) (G:h.Ns mainGlobals mg) (hmg:mg "law" =some (.ref fa)) (nR:PR≠Pt)
  (d0:aI K "is_whole" rg) (d1:aI K "is_whole_within" rf) (d2:aI K "need_whole_within" rJ) (d3:aI K "is_tuple_of" rk) (d4:aI K "is_board" sk) (d5:aI K "need_board" rH) (d6:aI K "need_at_most" rN) (d7:aI K "is_lay" rP) (d8:aI K "need_lay" rG) (d9:aI K "is_line" rR) (FO:aI K "is_bare_line" rS) (FN:aI K "with_point" S.rh) (FK:aI K "need_small" rK) (FJ:aI K "all_fits" sr) (FH:aI K "fits_many" sd) (FG:aI K "first_fit" se) (FF:aI K "number_of" rL) (uJ:aI K "lay_text" rQ) (FE:aI K "new_board" rM) (FD:aI K "put_point" rF) (mF:aI K "take_point" rm) (pT:aI K "words_of" (top 52)) (FC:aI K "tell_shown" rz) (FA:aI K "tell_free" r9) (Fz:aI K "tell_many" rA) (Fy:aI K "tell_first" rB) (Fx:aI K "makes_line" rO) (Fw:aI K "read_line" rE) (Fv:aI K "_law_cell_at" sj) (Ft:aI K "_law_state" rC) (pS:aI K "_law_take" rp) (yX:aI K "_law_refused" rD) (Fs:aI K "_law_board" sg) (Fq:aI K "_law_lay" sf) (Fp:aI K "_law_text" rq) (mE:aI K "_law_bad_lines" jX) (uI:aI K "_law_far_right" oi)
  (r1R:PySem.W.nsIn K mainGlobals "_law_said" =some (some (.ref fR))) (r2R:K.lookup fR=some ⟨B9,B8,.func (PySem.W.fnOf "_law_said" "_law_said" (bU da) (bp da) (aq da) .none CL Fm B3 F8 (.ref cR) FP),B6⟩) (r3R:PySem.W.codeIn K (.ref cR) "_law_said" =true) (r4R:PySem.W.codeHdIn K cR PR=true) (r5R:PySem.W.keepIn K (.ref fR)=true)
  (l1:PySem.W.nsIn K mainGlobals "law" =some (some (.ref f))) (l2:K.lookup f=some ⟨oc,od,.func (PySem.W.fnOf "law" "law" (bU cT) (bp cT) (aq cT) .none kV doc pm an (.ref c) ct),ck⟩) (l3:PySem.W.codeIn K (.ref c) "law" =true) (l4:PySem.W.codeHdIn K c Pt=true)
  (g1:ui.all (oF K)=true) (lo0:PySem.W.nsIn K mainGlobals "LONGEST_SIDE" =some (some (.int 12 t0))) (lo1:PySem.W.nsIn K mainGlobals "MOST_WIDE" =some (some (.int 6 t1))) (lo2:PySem.W.nsIn K mainGlobals "MOST_HIGH" =some (some (.int 7 t2)))
  (eN:PySem.W.nsIn K mainGlobals "NoNumber" =some (some (.ref aN))) (eP:PySem.W.nsIn K mainGlobals "NoPoint" =some (some (.ref aP))) (eM:PySem.W.nsIn K mainGlobals "TooMany" =some (some (.ref aM))) (eL:PySem.W.nsIn K mainGlobals "NoLine" =some (some (.ref aL))) (eD:PySem.W.nsIn K mainGlobals "NoDeed" =some (some (.ref aD))) (eS:PySem.W.nsIn K mainGlobals "StepError" =some (some (.ref cS)))
  (xN:jt K cS aN 2=true) (xP:jt K cS aP 4=true) (xM:jt K cS aM 11=true) (xL:jt K cS aL 13=true) (xD:jt K cS aD 14=true) {gQ gD gM D fS fL fF fM f1 fB fP fT:Addr} (qQ:PySem.W.nsIn K mainGlobals "QUESTIONS" =some (some (.ref gQ))) (kQ:fE K w gQ (wU fS fL fF fM f1)) (nS:PySem.W.nsIn K mainGlobals "tell_shown" =some (some (.ref fS))) (nF:PySem.W.nsIn K mainGlobals "tell_free" =some (some (.ref fF))) (nM:PySem.W.nsIn K mainGlobals "tell_many" =some (some (.ref fM))) (n1:PySem.W.nsIn K mainGlobals "tell_first" =some (some (.ref f1))) (qD:PySem.W.nsIn K mainGlobals "DEEDS" =some (some (.ref gD))) (kD:fE K w gD (yW fB fP fT)) (nB:PySem.W.nsIn K mainGlobals "new_board" =some (some (.ref fB))) (nP:PySem.W.nsIn K mainGlobals "put_point" =some (some (.ref fP))) (nT:PySem.W.nsIn K mainGlobals "take_point" =some (some (.ref fT))) (qM:PySem.W.nsIn K mainGlobals "MANY_NUMBERS" =some (some (.ref gM))) (kM:fE K w gM jZ) (qC:PySem.W.nsIn K mainGlobals "Desk" =some (some (.ref D))) (cC:fk K D) (nC:iP K D "states") (mI:zO K D) (mY:MethAt K D "say" "Desk.say" og) (mU:MethAt K D "undo" "Desk.undo" rj)
  (gaN:PySem.W.findIn K (.ref aN) "__getattribute__" =some (some (.builtin "BaseException.__getattribute__"))) (hoN:PySem.W.findIn K (.ref aN) "__getattr__" =some none) (clN:PySem.W.findIn K (.ref aN) "__class__" =some (some (.builtin "object.__class__")))
  (gaP:PySem.W.findIn K (.ref aP) "__getattribute__" =some (some (.builtin "BaseException.__getattribute__"))) (hoP:PySem.W.findIn K (.ref aP) "__getattr__" =some none) (clP:PySem.W.findIn K (.ref aP) "__class__" =some (some (.builtin "object.__class__")))
  (gaM:PySem.W.findIn K (.ref aM) "__getattribute__" =some (some (.builtin "BaseException.__getattribute__"))) (hoM:PySem.W.findIn K (.ref aM) "__getattr__" =some none) (clM:PySem.W.findIn K (.ref aM) "__class__" =some (some (.builtin "object.__class__")))
  (gaL:PySem.W.findIn K (.ref aL) "__getattribute__" =some (some (.builtin "BaseException.__getattribute__"))) (hoL:PySem.W.findIn K (.ref aL) "__getattr__" =some none) (clL:PySem.W.findIn K (.ref aL) "__class__" =some (some (.builtin "object.__class__")))
  (gaD:PySem.W.findIn K (.ref aD) "__getattribute__" =some (some (.builtin "BaseException.__getattribute__"))) (hoD:PySem.W.findIn K (.ref aD) "__getattr__" =some none) (clD:PySem.W.findIn K (.ref aD) "__class__" =some (some (.builtin "object.__class__"))):
  ∃fd:FuncData,(∀(s:Shared) (u:Value),BindsTo s fd ⟨[u],[]⟩ [("_law_script",u)])∧∀base:Heap,K.In base→base.Ns mainGlobals mg→nv mg base→ar P w K mg base aC 103 fa fd ["_law_script"] (qK K PR Pt):=by
 have e0:=hmg.symm.trans (PySem.W.mg_of KX G l1)
 cases e0
 obtain⟨gs,mv⟩:=Gf KX G g1 lo0 lo1 lo2
 have ms:=PySem.W.mg_of KX G eS
 obtain⟨MN,yN⟩:=YN KX G mv ms xN gaN hoN clN
 have uC:Exc K mg "NoNumber" aN:=⟨PySem.W.mg_of KX G eN,yN⟩
 obtain⟨MP,yP⟩:=YN KX G mv ms xP gaP hoP clP
 have yC:Exc K mg "NoPoint" aP:=⟨PySem.W.mg_of KX G eP,yP⟩
 obtain⟨MM,yM⟩:=YN KX G mv ms xM gaM hoM clM
 have Fc:Exc K mg "TooMany" aM:=⟨PySem.W.mg_of KX G eM,yM⟩
 obtain⟨ML,yL⟩:=YN KX G mv ms xL gaL hoL clL
 have yE:Exc K mg "NoLine" aL:=⟨PySem.W.mg_of KX G eL,yL⟩
 obtain⟨MD,yD⟩:=YN KX G mv ms xD gaD hoD clD
 have Fd:Exc K mg "NoDeed" aD:=⟨PySem.W.mg_of KX G eD,yD⟩
 have DC:jK K D:=⟨cC,nC⟩
 refine⟨PySem.W.fnOf "law" "law" (bU cT) (bp cT) (aq cT) .none kV doc pm an (.ref c) ct,fun s u=> .of_eq rfl,fun base kb nb bm=> ?_⟩
 have b0:∀{x:Str}{st:Stmt},(∀(kV doc pm:Value) (an:Option Addr) (ai ct:Value),bindArgs (PySem.W.fnOf x x (bU st) (bp st) (aq st) .none kV doc pm an ai ct) ⟨[],[]⟩=pure [])→iU x st []:=fun h kV doc pm an ai ct us hl=>match us,hl with | [],_=>h kV doc pm an ai ct
 have b1:∀{x a:Str}{st:Stmt},(∀(kV doc pm:Value) (an:Option Addr) (ai ct u:Value),bindArgs (PySem.W.fnOf x x (bU st) (bp st) (aq st) .none kV doc pm an ai ct) ⟨[u],[]⟩=pure [(a,u)])→iU x st [a]:=fun h kV doc pm an ai ct us hl=>match us,hl with | [u],_=>h kV doc pm an ai ct u
 have b2:∀{x a b:Str}{st:Stmt},(∀(kV doc pm:Value) (an:Option Addr) (ai ct u v:Value),bindArgs (PySem.W.fnOf x x (bU st) (bp st) (aq st) .none kV doc pm an ai ct) ⟨[u,v],[]⟩=pure [(a,u),(b,v)])→iU x st [a,b]:=fun h kV doc pm an ai ct us hl=>match us,hl with | [u,v],_=>h kV doc pm an ai ct u v
 have b3:∀{x a b c:Str}{st:Stmt},(∀(kV doc pm:Value) (an:Option Addr) (ai ct u v w:Value),bindArgs (PySem.W.fnOf x x (bU st) (bp st) (aq st) .none kV doc pm an ai ct) ⟨[u,v,w],[]⟩=pure [(a,u),(b,v),(c,w)])→iU x st [a,b,c]:=fun h kV doc pm an ai ct us hl=>match us,hl with | [u,v,w],_=>h kV doc pm an ai ct u v w
 have b4:∀{x a b c d:Str}{st:Stmt},(∀(kV doc pm:Value) (an:Option Addr) (ai ct u v w y:Value),bindArgs (PySem.W.fnOf x x (bU st) (bp st) (aq st) .none kV doc pm an ai ct) ⟨[u,v,w,y],[]⟩=pure [(a,u),(b,v),(c,w),(d,y)])→iU x st [a,b,c,d]:=fun h kV doc pm an ai ct us hl=>match us,hl with | [u,v,w,y],_=>h kV doc pm an ai ct u v w y
 have good:∀b':Heap,Def P w K mg b' 1 "is_whole" ["thing"] (nI K)∧iT P w K mg b' D 11 "say" ["self", "line"] (gK K D (uK aN aP aM aL aD)):=fun b'=>by
  have D0:Def P w K mg b' 1 "is_whole" ["thing"] (nI K):=d0.to KX G (b1 fun _ _ _ _ _ _ _=>rfl) fun f fd F=>Km F gs
  have D1:Def P w K mg b' 2 "is_whole_within" ["thing", "least", "most"] (jP K):=d1.to KX G (b3 fun _ _ _ _ _ _ _ _ _=>rfl) fun f fd F=>I9 F D0
  have jA:cE P w K mg b' 3 "need_whole_within" ["number", "least", "most"] (nQ aN):=d2.hZ KX G (b3 fun _ _ _ _ _ _ _ _ _=>rfl) fun f fd F=>Hr F uC.m uC.x D1
  have D3:Def P w K mg b' 1 "is_tuple_of" ["thing", "many"] (nK K):=d3.to KX G (b2 fun _ _ _ _ _ _ _ _=>rfl) fun f fd F=>Kl F gs
  have D4:Def P w K mg b' 3 "is_board" ["thing"] (nW K):=d4.to KX G (b1 fun _ _ _ _ _ _ _=>rfl) fun f fd F=>KO F gs D3 D1
  have D5:Def P w K mg b' 4 "need_board" ["board"] (qF K):=d5.to KX G (b1 fun _ _ _ _ _ _ _=>rfl) fun f fd F=>Ws F D4
  have D6:Def P w K mg b' 5 "is_lay" ["board", "thing"] (qJ K):=d7.to KX G (b2 fun _ _ _ _ _ _ _ _=>rfl) fun f fd F=>Hm F gs D5 D3 D1
  have z8:Def P w K mg b' 6 "need_lay" ["board", "lay"] nO:=d8.to KX G (b2 fun _ _ _ _ _ _ _ _=>rfl) fun f fd F=>Uy F D6
  have vt:cE P w K mg b' 1 "need_at_most" ["board", "wide", "high"] (qH aM):=d6.hZ KX G (b3 fun _ _ _ _ _ _ _ _ _=>rfl) fun f fd F=>Hn F Fc
  have Ld:Def P w K mg b' 3 "is_line" ["lay", "thing"] (qN K):=d9.to KX G (b2 fun _ _ _ _ _ _ _ _=>rfl) fun f fd F=>Gm F gs D1
  have Le:Def P w K mg b' 4 "is_bare_line" ["lay", "thing"] qO:=FO.to KX G (b2 fun _ _ _ _ _ _ _ _=>rfl) fun f fd F=>Gk F Ld
  have jJ:Def P w K mg b' 1 "with_point" ["lay", "line", "row"] S.nJ:=FN.to KX G (b3 fun _ _ _ _ _ _ _ _ _=>rfl) fun f fd F=>S.B7 F
  have KU:cE P w K mg b' 7 "need_small" ["board", "lay"] (eJ aM):=FK.hZ KX G (b2 fun _ _ _ _ _ _ _ _=>rfl) fun f fd F=>Gr F gs z8 vt
  have zH:cE P w K mg b' 8 "all_fits" ["board", "lay"] (eJ aM):=FJ.hZ KX G (b2 fun _ _ _ _ _ _ _ _=>rfl) fun f fd F=>Hh F KU
  have KW:cE P w K mg b' 9 "fits_many" ["board", "lay"] (eJ aM):=FH.hZ KX G (b2 fun _ _ _ _ _ _ _ _=>rfl) fun f fd F=>Hj F gs zH
  have KY:cE P w K mg b' 9 "first_fit" ["board", "lay"] (eJ aM):=FG.hZ KX G (b2 fun _ _ _ _ _ _ _ _=>rfl) fun f fd F=>Hi F gs zH
  have vH:Def P w K mg b' 1 "number_of" ["word"] qG:=FF.to KX G (b1 fun _ _ _ _ _ _ _=>rfl) fun f fd F=>Hq F gs
  have vK:Def P w K mg b' 7 "lay_text" ["board", "lay"] jT:=uJ.to KX G (b2 fun _ _ _ _ _ _ _ _=>rfl) fun f fd F=>Gp F gs z8
  have vp:cE P w K mg b' 1 "words_of" ["numbers"] (fun _ _ _ _=>False):=pT.hZ KX G (b1 fun _ _ _ _ _ _ _=>rfl) fun f fd F=>Kj
  have hS:dG P w K mg b' 10 fS nN:=FC.iV nS (b3 fun _ _ _ _ _ _ _ _ _=>rfl) fun f fd F=> (Hw F vK).any.mono (by decide)
  have hF:dG P w K mg b' 10 fF (nV aN):=FA.iV nF (b3 fun _ _ _ _ _ _ _ _ _=>rfl) fun f fd F=> (Hk F uC Le).mono (by decide)
  have hM:dG P w K mg b' 10 fM (ij aM):=Fz.iV nM (b3 fun _ _ _ _ _ _ _ _ _=>rfl) fun f fd F=>Gx F gs KW
  have h1:dG P w K mg b' 10 f1 (ij aM):=Fy.iV n1 (b3 fun _ _ _ _ _ _ _ _ _=>rfl) fun f fd F=>Gw F gs vp KY
  have hB:dG P w K mg b' 10 fB nU:=FE.iV nB (b3 fun _ _ _ _ _ _ _ _ _=>rfl) fun f fd F=> (Ho F).any.mono (by decide)
  have hP:dG P w K mg b' 10 fP (jS aN aP):=FD.iV nP (b3 fun _ _ _ _ _ _ _ _ _=>rfl) fun f fd F=> (Hs F yC.m yC.x jA jJ).mono (by decide)
  have hT:dG P w K mg b' 10 fT (kS aN):=mF.iV nT (b3 fun _ _ _ _ _ _ _ _ _=>rfl) fun f fd F=> (Hv F jA jJ).mono (by decide)
  have vJ:Def P w K mg b' 4 "makes_line" ["word", "numbers"] qI:=Fx.to KX G (b2 fun _ _ _ _ _ _ _ _=>rfl) fun f fd F=>Gq F gs (PySem.W.mg_of KX G qM) kM D4
  have vq:cE P w K mg b' 5 "read_line" ["line"] (jR K aL):=Fw.hZ KX G (b1 fun _ _ _ _ _ _ _=>rfl) fun f fd F=>Ht F gs yE.m yE.x vH vJ
  have vA:iT P w K mg b' D 1 "undo" ["self"] (qB D aD):=mU.to (c1 fun _ _ _ _ _ _ _=>rfl) fun f fd F=>Hy F gs DC Fd
  have hY:iT P w K mg b' D 11 "say" ["self", "line"] (gK K D (uK aN aP aM aL aD)):=mY.to (c2 fun _ _ _ _ _ _ _ _=>rfl) fun f fd F=>Gv F DC (PySem.W.mg_of KX G qQ) kQ (PySem.W.mg_of KX G qD) kD vq vA hS hF hM h1 hB hP hT
  exact⟨D0,hY⟩
 have hR:∀b':Heap,Def P w K mg b' 13 "_law_refused" ["_law_call"] (kT P w K mg b' cS 12):=fun b'=>yX.to KX G (b1 fun _ _ _ _ _ _ _=>rfl) fun f fd F=>Gu F gs
 have E1:Def P w K mg base 1 "_law_cell_at" ["_law_script", "_law_k"] (qT K):=Fv.to KX G (b2 fun _ _ _ _ _ _ _ _=>rfl) fun f fd F=>Ih F gs
 have E2:Def P w K mg base 102 "_law_state" ["_law_script", "_law_k"] (qE K):=Ft.to KX G (b2 fun _ _ _ _ _ _ _ _=>rfl) fun f fd F=>Kk F gs E1
 have E3:Def P w K mg base 1 "_law_take" ["_law_state_here", "_law_many"] jQ:=pS.to KX G (b2 fun _ _ _ _ _ _ _ _=>rfl) fun f fd F=>Ii F
 have E5:Def P w K mg base 2 "_law_board" ["_law_state_here", "_law_upto"] qS:=Fs.to KX G (b2 fun _ _ _ _ _ _ _ _=>rfl) fun f fd F=>KP F E3
 have E6:Def P w K mg base 102 "_law_lay" ["_law_state_here", "_law_board_here"] (qR K):=Fq.to KX G (b2 fun _ _ _ _ _ _ _ _=>rfl) fun f fd F=>Ki F gs E3
 have E8:Def P w K mg base 1 "_law_text" ["_law_board_here", "_law_lay_here"] jT:=Fp.to KX G (b2 fun _ _ _ _ _ _ _ _=>rfl) fun f fd F=>Hx F gs
 have EB:Def P w K mg base 2 "_law_bad_lines" ["_law_state_here"] qU:=mE.to KX G (b1 fun _ _ _ _ _ _ _=>rfl) fun f fd F=>Gi F E3
 obtain⟨fW,EY,Fh,FR⟩:=id yX
 have mW:=PySem.W.mg_of KX G Fh
 have MX:∀i∈oy,jC K mg cS (uK aN aP aM aL aD i) i:=fun i hi=>by
  simp only[List.mem_cons,List.not_mem_nil,or_false]at hi
  rcases hi with rfl |rfl |rfl |rfl |rfl
  ·exact MN
  ·exact MP
  ·exact MM
  ·exact ML
  ·exact MD
 have ES:Def P w K mg base 101 "_law_said" eR (gq D PR):=⟨fR,_,Hu r2R r3R DC (fun b'=> (good b').2) hR mW FR.kp MX (PySem.W.codeHd_of_K kb r4R) bm,PySem.W.mg_of KX G r1R,r5R,(Wy r2R r3R r5R).binds (b2 fun _ _ _ _ _ _ _ _=>rfl)⟩
 have EF:Def P w K mg base 102 "_law_far_right" ["_law_state_here", "_law_desk", "_law_board_here", "_law_lay_here"] (qP D PR):=uI.to KX G (b4 fun _ _ _ _ _ _ _ _ _ _=>rfl) fun f fd F=>Gj F gs E3 ES
 obtain⟨fI,ur,MK,FI⟩:=mI
 exact Hl nR l2 l3 gs E2 E5 E6 E8 ES EB EF DC MK (PySem.W.mg_of KX G qC) (Gn FI DC) (FI.binds (c1 fun _ _ _ _ _ _ _=>rfl)) (fun b'=> (good b').2) hR mW FR.kp (MX 13 (by decide)) (PySem.W.codeHd_of_K kb l4) bm
end
end U
theorem PySem.W.Fast.tw9996080841307041792:True:=⟨⟩
theorem PySem.W.Fast.tw17017552831442501728:True:=⟨⟩
theorem PySem.W.Fast.tw16244354783747307680:True:=⟨⟩
theorem PySem.W.Fast.tw11394295773884252384:True:=⟨⟩
theorem PySem.W.Fast.tw8250942791948712224:True:=⟨⟩
theorem PySem.W.Fast.tw6551199220123186496:True:=⟨⟩
theorem PySem.W.Fast.tw2278666997039945088:True:=⟨⟩
theorem PySem.W.Fast.tw5815569233346107840:True:=⟨⟩
theorem PySem.W.Fast.tw6433756283056136704:True:=⟨⟩
theorem PySem.W.Fast.tw3523139264837508704:True:=⟨⟩
theorem PySem.W.Fast.tw3634540402283853472:True:=⟨⟩
theorem PySem.W.Fast.tw5280243033570978560:True:=⟨⟩
theorem PySem.W.Fast.tw10084137402380928800:True:=⟨⟩
theorem PySem.W.Fast.tw9482835250712180512:True:=⟨⟩
theorem PySem.W.Fast.tw15017871127799640000:True:=⟨⟩
theorem PySem.W.Fast.tw5853206551585044545:True:=⟨⟩
theorem PySem.W.Fast.tw16190599901984045249:True:=⟨⟩
theorem PySem.W.Fast.tw14460245121149032673:True:=⟨⟩
theorem PySem.W.Fast.tw1733561082725969153:True:=⟨⟩
theorem PySem.W.Fast.tw4674959827601362209:True:=⟨⟩
theorem PySem.W.Fast.tw12011016179034340641:True:=⟨⟩
theorem PySem.W.Fast.tw6126651213411144065:True:=⟨⟩
theorem PySem.W.Fast.tw6586106758641393089:True:=⟨⟩
theorem PySem.W.Fast.tw18103396457935634913:True:=⟨⟩
theorem PySem.W.Fast.tw418347966110537185:True:=⟨⟩
theorem PySem.W.Fast.tw15188735420669440513:True:=⟨⟩
theorem PySem.W.Fast.tw3611607497110489921:True:=⟨⟩
theorem PySem.W.Fast.tw7787358666417995649:True:=⟨⟩
theorem PySem.W.Fast.tw3646597217192046561:True:=⟨⟩
theorem PySem.W.Fast.tw17269652228087598049:True:=⟨⟩
theorem PySem.W.Fast.tw2171690369869747330:True:=⟨⟩
theorem PySem.W.Fast.tw15488122381317677186:True:=⟨⟩
theorem PySem.W.Fast.tw10707654164463474818:True:=⟨⟩
theorem PySem.W.Fast.tw274246867280082082:True:=⟨⟩
theorem PySem.W.Fast.tw14967899835333154978:True:=⟨⟩
theorem PySem.W.Fast.tw9392799377831330018:True:=⟨⟩
theorem PySem.W.Fast.tw5703625952592135490:True:=⟨⟩
theorem PySem.W.Fast.tw13004717289570454850:True:=⟨⟩
theorem PySem.W.Fast.tw12272417651833123202:True:=⟨⟩
theorem PySem.W.Fast.tw16716375293058939330:True:=⟨⟩
theorem PySem.W.Fast.tw4935936575091260866:True:=⟨⟩
theorem PySem.W.Fast.tw15386388527504356866:True:=⟨⟩
theorem PySem.W.Fast.tw6254132545081754114:True:=⟨⟩
theorem PySem.W.Fast.tw11663337346730390018:True:=⟨⟩
theorem PySem.W.Fast.tw13882137307651073602:True:=⟨⟩
theorem PySem.W.Fast.tw13545149319199352418:True:=⟨⟩
theorem PySem.W.Fast.tw8816368918213727874:True:=⟨⟩
theorem PySem.W.Fast.tw9895064448248395394:True:=⟨⟩
theorem PySem.W.Fast.tw857620341274256034:True:=⟨⟩
theorem PySem.W.Fast.tw9221447042378947298:True:=⟨⟩
theorem PySem.W.Fast.tw8994742208058923874:True:=⟨⟩
theorem PySem.W.Fast.tw6056115559894965122:True:=⟨⟩
theorem PySem.W.Fast.tw15177118369026015170:True:=⟨⟩
theorem PySem.W.Fast.tw11940491304373239875:True:=⟨⟩
theorem PySem.W.Fast.tw12995298274303647811:True:=⟨⟩
theorem PySem.W.Fast.tw15880174431374697571:True:=⟨⟩
theorem PySem.W.Fast.tw16960081704418903203:True:=⟨⟩
theorem PySem.W.Fast.tw4616902946972957891:True:=⟨⟩
theorem PySem.W.Fast.tw6742180554559418659:True:=⟨⟩
theorem PySem.W.Fast.tw5137743541706572131:True:=⟨⟩
theorem PySem.W.Fast.tw10818499326990505571:True:=⟨⟩
theorem PySem.W.Fast.tw549709909219007107:True:=⟨⟩
theorem PySem.W.Fast.tw3718552490043818723:True:=⟨⟩
theorem PySem.W.Fast.tw12352709506839388899:True:=⟨⟩
theorem PySem.W.Fast.tw11673744422754788131:True:=⟨⟩
theorem PySem.W.Fast.tw15362841702230480707:True:=⟨⟩
theorem PySem.W.Fast.tw12267110417258851139:True:=⟨⟩
theorem PySem.W.Fast.tw373482326206335843:True:=⟨⟩
theorem PySem.W.Fast.tw7460707588253585347:True:=⟨⟩
theorem PySem.W.Fast.tw11889127044045456355:True:=⟨⟩
theorem PySem.W.Fast.tw11153228467514146884:True:=⟨⟩
theorem PySem.W.Fast.tw14315095798966513828:True:=⟨⟩
theorem PySem.W.Fast.tw15901213719835143396:True:=⟨⟩
theorem PySem.W.Fast.tw3039077356668000484:True:=⟨⟩
theorem PySem.W.Fast.tw16470036482530465060:True:=⟨⟩
theorem PySem.W.Fast.tw15291990059431042372:True:=⟨⟩
theorem PySem.W.Fast.tw7783238191344936452:True:=⟨⟩
theorem PySem.W.Fast.tw7190863033571908164:True:=⟨⟩
theorem PySem.W.Fast.tw12319419803302258276:True:=⟨⟩
theorem PySem.W.Fast.tw6337632107752757956:True:=⟨⟩
theorem PySem.W.Fast.tw13549828588472409892:True:=⟨⟩
theorem PySem.W.Fast.tw1529612497925872580:True:=⟨⟩
theorem PySem.W.Fast.tw16013889219150588868:True:=⟨⟩
theorem PySem.W.Fast.tw6613247767079822308:True:=⟨⟩
theorem PySem.W.Fast.tw10294593125923321925:True:=⟨⟩
theorem PySem.W.Fast.tw3397806902698879205:True:=⟨⟩
theorem PySem.W.Fast.tw14046431343714718981:True:=⟨⟩
theorem PySem.W.Fast.tw8256258336337451525:True:=⟨⟩
theorem PySem.W.Fast.tw13387654713003609701:True:=⟨⟩
theorem PySem.W.Fast.tw8703293391843795557:True:=⟨⟩
theorem PySem.W.Fast.tw2114482896734514949:True:=⟨⟩
theorem PySem.W.Fast.tw13444678704338144037:True:=⟨⟩
theorem PySem.W.Fast.tw11157102424581332869:True:=⟨⟩
theorem PySem.W.Fast.tw11873791520074686373:True:=⟨⟩
theorem PySem.W.Fast.tw1674723008964710406:True:=⟨⟩
theorem PySem.W.Fast.tw15280413007608987718:True:=⟨⟩
theorem PySem.W.Fast.tw15798357467867426982:True:=⟨⟩
theorem PySem.W.Fast.tw11463895091443032230:True:=⟨⟩
theorem PySem.W.Fast.tw4799434254258520326:True:=⟨⟩
theorem PySem.W.Fast.tw6646671483218913606:True:=⟨⟩
theorem PySem.W.Fast.tw10215643905089096038:True:=⟨⟩
theorem PySem.W.Fast.tw10984934377987587494:True:=⟨⟩
theorem PySem.W.Fast.tw7999752700967403942:True:=⟨⟩
theorem PySem.W.Fast.tw16837527412047462822:True:=⟨⟩
theorem PySem.W.Fast.tw5049152517425027590:True:=⟨⟩
theorem PySem.W.Fast.tw16940859370173336166:True:=⟨⟩
theorem PySem.W.Fast.tw5222237929025785542:True:=⟨⟩
theorem PySem.W.Fast.tw2128323429032320774:True:=⟨⟩
theorem PySem.W.Fast.tw6135171295139565478:True:=⟨⟩
theorem PySem.W.Fast.tw13478025893074122759:True:=⟨⟩
theorem PySem.W.Fast.tw8383547609466569735:True:=⟨⟩
theorem PySem.W.Fast.tw4897953436191296679:True:=⟨⟩
theorem PySem.W.Fast.tw7813227637647018183:True:=⟨⟩
theorem PySem.W.Fast.tw1146861458851730695:True:=⟨⟩
theorem PySem.W.Fast.tw14634044041212197191:True:=⟨⟩
theorem PySem.W.Fast.tw17029072307345536359:True:=⟨⟩
theorem PySem.W.Fast.tw4326082908910110151:True:=⟨⟩
theorem PySem.W.Fast.tw10876128043580689959:True:=⟨⟩
theorem PySem.W.Fast.tw17573765748216539783:True:=⟨⟩
theorem PySem.W.Fast.tw14240001839667380871:True:=⟨⟩
theorem PySem.W.Fast.tw2892706758577543847:True:=⟨⟩
theorem PySem.W.Fast.tw15582967098409511623:True:=⟨⟩
theorem PySem.W.Fast.tw1817651888543523591:True:=⟨⟩
theorem PySem.W.Fast.tw14610169258259447591:True:=⟨⟩
theorem PySem.W.Fast.tw718243746187755335:True:=⟨⟩
theorem PySem.W.Fast.tw17630584477738825543:True:=⟨⟩
theorem PySem.W.Fast.tw8711012928206242695:True:=⟨⟩
theorem PySem.W.Fast.tw852558344101893095:True:=⟨⟩
theorem PySem.W.Fast.tw4545207618197836872:True:=⟨⟩
theorem PySem.W.Fast.tw2028053872946313320:True:=⟨⟩
theorem PySem.W.Fast.tw13441380791268504776:True:=⟨⟩
theorem PySem.W.Fast.tw13274983515283683528:True:=⟨⟩
theorem PySem.W.Fast.tw8462099576802875656:True:=⟨⟩
theorem PySem.W.Fast.tw11709177979473285448:True:=⟨⟩
theorem PySem.W.Fast.tw6956481788699195752:True:=⟨⟩
theorem PySem.W.Fast.tw20060056645558632:True:=⟨⟩
theorem PySem.W.Fast.tw12760867447692123528:True:=⟨⟩
theorem PySem.W.Fast.tw8178789908334178696:True:=⟨⟩
theorem PySem.W.Fast.tw13775161803016765928:True:=⟨⟩
theorem PySem.W.Fast.tw8380412879690153448:True:=⟨⟩
theorem PySem.W.Fast.tw14322185553194979816:True:=⟨⟩
theorem PySem.W.Fast.tw9214093822673294856:True:=⟨⟩
theorem PySem.W.Fast.tw13888708111475347016:True:=⟨⟩
theorem PySem.W.Fast.tw9441376603164862088:True:=⟨⟩
theorem PySem.W.Fast.tw5506207383887144616:True:=⟨⟩
theorem PySem.W.Fast.tw10801612655053454024:True:=⟨⟩
theorem PySem.W.Fast.tw14899507130427493096:True:=⟨⟩
theorem PySem.W.Fast.tw7883814377832649480:True:=⟨⟩
theorem PySem.W.Fast.tw5691114235703272200:True:=⟨⟩
theorem PySem.W.Fast.tw10218685383272409928:True:=⟨⟩
theorem PySem.W.Fast.tw11695571017094674312:True:=⟨⟩
theorem PySem.W.Fast.tw6366061295048166344:True:=⟨⟩
theorem PySem.W.Fast.tw6726973152455149609:True:=⟨⟩
theorem PySem.W.Fast.tw4033719395489257705:True:=⟨⟩
theorem PySem.W.Fast.tw8976064001293104425:True:=⟨⟩
theorem PySem.W.Fast.tw35572210482743625:True:=⟨⟩
theorem PySem.W.Fast.tw16575367754301496649:True:=⟨⟩
theorem PySem.W.Fast.tw17630934312115924329:True:=⟨⟩
theorem PySem.W.Fast.tw15966712241863022953:True:=⟨⟩
theorem PySem.W.Fast.tw852272374416082409:True:=⟨⟩
theorem PySem.W.Fast.tw6018541283445680713:True:=⟨⟩
theorem PySem.W.Fast.tw9756978019183063849:True:=⟨⟩
theorem PySem.W.Fast.tw13023283805059098473:True:=⟨⟩
theorem PySem.W.Fast.tw5406004312640226153:True:=⟨⟩
theorem PySem.W.Fast.tw1538655413801613322:True:=⟨⟩
theorem PySem.W.Fast.tw1246656088393504938:True:=⟨⟩
theorem PySem.W.Fast.tw7327012151939382538:True:=⟨⟩
theorem PySem.W.Fast.tw17048557522594864522:True:=⟨⟩
theorem PySem.W.Fast.tw10250066345058227594:True:=⟨⟩
theorem PySem.W.Fast.tw5509799502865178154:True:=⟨⟩
theorem PySem.W.Fast.tw2593988236704328266:True:=⟨⟩
theorem PySem.W.Fast.tw5773026466777881162:True:=⟨⟩
theorem PySem.W.Fast.tw18259315601014183562:True:=⟨⟩
theorem PySem.W.Fast.tw4843239789319815114:True:=⟨⟩
theorem PySem.W.Fast.tw12977249997600570411:True:=⟨⟩
theorem PySem.W.Fast.tw14495005812277697579:True:=⟨⟩
theorem PySem.W.Fast.tw17471486452217829451:True:=⟨⟩
theorem PySem.W.Fast.tw14024736767330428011:True:=⟨⟩
theorem PySem.W.Fast.tw12020372649309359243:True:=⟨⟩
theorem PySem.W.Fast.tw3663089171976236203:True:=⟨⟩
theorem PySem.W.Fast.tw1433158222226223307:True:=⟨⟩
theorem PySem.W.Fast.tw11646849025926504651:True:=⟨⟩
theorem PySem.W.Fast.tw728144981287839115:True:=⟨⟩
theorem PySem.W.Fast.tw16154999378218547627:True:=⟨⟩
theorem PySem.W.Fast.tw17840715302386457003:True:=⟨⟩
theorem PySem.W.Fast.tw13072870638881453611:True:=⟨⟩
theorem PySem.W.Fast.tw2076917532806367787:True:=⟨⟩
theorem PySem.W.Fast.tw11643056072899314347:True:=⟨⟩
theorem PySem.W.Fast.tw11799577123467266763:True:=⟨⟩
theorem PySem.W.Fast.tw5669557181791327979:True:=⟨⟩
theorem PySem.W.Fast.tw13980196194895378187:True:=⟨⟩
theorem PySem.W.Fast.tw2713916237803243275:True:=⟨⟩
theorem PySem.W.Fast.tw462569116973082475:True:=⟨⟩
theorem PySem.W.Fast.tw9337278536426878891:True:=⟨⟩
theorem PySem.W.Fast.tw16116232153216780267:True:=⟨⟩
theorem PySem.W.Fast.tw2841959215817762892:True:=⟨⟩
theorem PySem.W.Fast.tw2184454529407653996:True:=⟨⟩
theorem PySem.W.Fast.tw12533898280133634220:True:=⟨⟩
theorem PySem.W.Fast.tw231632889527189932:True:=⟨⟩
theorem PySem.W.Fast.tw7348118786630889964:True:=⟨⟩
theorem PySem.W.Fast.tw9861073601111769612:True:=⟨⟩
theorem PySem.W.Fast.tw12690503331180173868:True:=⟨⟩
theorem PySem.W.Fast.tw18077766953641416396:True:=⟨⟩
theorem PySem.W.Fast.tw1753260927443352332:True:=⟨⟩
theorem PySem.W.Fast.tw17619206944670181132:True:=⟨⟩
theorem PySem.W.Fast.tw12920086013671384940:True:=⟨⟩
theorem PySem.W.Fast.tw6246940769980751756:True:=⟨⟩
theorem PySem.W.Fast.tw1633783512685823916:True:=⟨⟩
theorem PySem.W.Fast.tw4612417758619421644:True:=⟨⟩
theorem PySem.W.Fast.tw6099648930712493101:True:=⟨⟩
theorem PySem.W.Fast.tw16438803283458808909:True:=⟨⟩
theorem PySem.W.Fast.tw2956403945946542381:True:=⟨⟩
theorem PySem.W.Fast.tw11398461516388836717:True:=⟨⟩
theorem PySem.W.Fast.tw16865674816375289293:True:=⟨⟩
theorem PySem.W.Fast.tw1020778374396226125:True:=⟨⟩
theorem PySem.W.Fast.tw9908798976249076365:True:=⟨⟩
theorem PySem.W.Fast.tw5161363482139504301:True:=⟨⟩
theorem PySem.W.Fast.tw12593355721169704653:True:=⟨⟩
theorem PySem.W.Fast.tw13416223289578999501:True:=⟨⟩
theorem PySem.W.Fast.tw13810233152477589325:True:=⟨⟩
theorem PySem.W.Fast.tw10017117254184778573:True:=⟨⟩
theorem PySem.W.Fast.tw15728052862391691117:True:=⟨⟩
theorem PySem.W.Fast.tw3524426754754211693:True:=⟨⟩
theorem PySem.W.Fast.tw14008989598296032141:True:=⟨⟩
theorem PySem.W.Fast.tw817272232965715917:True:=⟨⟩
theorem PySem.W.Fast.tw13194103002205371373:True:=⟨⟩
theorem PySem.W.Fast.tw433250282965128238:True:=⟨⟩
theorem PySem.W.Fast.tw8901332758533868622:True:=⟨⟩
theorem PySem.W.Fast.tw65473043761315950:True:=⟨⟩
theorem PySem.W.Fast.tw3924314535103059054:True:=⟨⟩
theorem PySem.W.Fast.tw1968468271038176398:True:=⟨⟩
theorem PySem.W.Fast.tw13170885342293907726:True:=⟨⟩
theorem PySem.W.Fast.tw16158103832533334286:True:=⟨⟩
theorem PySem.W.Fast.tw10813864076537634190:True:=⟨⟩
theorem PySem.W.Fast.tw8100024789889339790:True:=⟨⟩
theorem PySem.W.Fast.tw17762876525911563662:True:=⟨⟩
theorem PySem.W.Fast.tw2393718030150207918:True:=⟨⟩
theorem PySem.W.Fast.tw4748979947399967182:True:=⟨⟩
theorem PySem.W.Fast.tw2499854640952441358:True:=⟨⟩
theorem PySem.W.Fast.tw5395468773872188974:True:=⟨⟩
theorem PySem.W.Fast.tw917144624013913838:True:=⟨⟩
theorem PySem.W.Fast.tw4262340260559213294:True:=⟨⟩
theorem PySem.W.Fast.tw2901004575422520078:True:=⟨⟩
theorem PySem.W.Fast.tw10512220059838908238:True:=⟨⟩
theorem PySem.W.Fast.tw626925429442132814:True:=⟨⟩
theorem PySem.W.Fast.tw3091057726063747950:True:=⟨⟩
theorem PySem.W.Fast.tw16482924172530552718:True:=⟨⟩
theorem PySem.W.Fast.tw3303568668514135982:True:=⟨⟩
theorem PySem.W.Fast.tw3665033854052892590:True:=⟨⟩
theorem PySem.W.Fast.tw1861001421459062734:True:=⟨⟩
theorem PySem.W.Fast.tw17280983331248344079:True:=⟨⟩
theorem PySem.W.Fast.tw1884852055807398959:True:=⟨⟩
theorem PySem.W.Fast.tw9890107308871372943:True:=⟨⟩
theorem PySem.W.Fast.tw13782980473787654319:True:=⟨⟩
theorem PySem.W.Fast.tw17618639747264070863:True:=⟨⟩
theorem PySem.W.Fast.tw11480141736444825935:True:=⟨⟩
theorem PySem.W.Fast.tw6045204779148207503:True:=⟨⟩
theorem PySem.W.Fast.tw9864474367429940655:True:=⟨⟩
theorem PySem.W.Fast.tw6033108417373540847:True:=⟨⟩
theorem PySem.W.Fast.tw8620657682303744591:True:=⟨⟩
theorem PySem.W.Fast.tw10326149906080765551:True:=⟨⟩
theorem PySem.W.Fast.tw3778596159386992399:True:=⟨⟩
theorem PySem.W.Fast.tw6529764537367839535:True:=⟨⟩
theorem PySem.W.Fast.tw10593016272443840367:True:=⟨⟩
theorem PySem.W.Fast.tw3345980218503344111:True:=⟨⟩
theorem PySem.W.Fast.tw15942069154192455696:True:=⟨⟩
theorem PySem.W.Fast.tw47509456220058704:True:=⟨⟩
theorem PySem.W.Fast.tw4882374877097522256:True:=⟨⟩
theorem PySem.W.Fast.tw1499215944811801712:True:=⟨⟩
theorem PySem.W.Fast.tw10389980862619098288:True:=⟨⟩
theorem PySem.W.Fast.tw11821380970343252272:True:=⟨⟩
theorem PySem.W.Fast.tw8770332001516559696:True:=⟨⟩
theorem PySem.W.Fast.tw3560162828948402672:True:=⟨⟩
theorem PySem.W.Fast.tw17661135133742369328:True:=⟨⟩
theorem PySem.W.Fast.tw13597496410208881232:True:=⟨⟩
theorem PySem.W.Fast.tw6956728523897571952:True:=⟨⟩
theorem PySem.W.Fast.tw5528837395861415568:True:=⟨⟩
theorem PySem.W.Fast.tw2347106700547282736:True:=⟨⟩
theorem PySem.W.Fast.tw4591092085665182512:True:=⟨⟩
theorem PySem.W.Fast.tw16010213847876312976:True:=⟨⟩
theorem PySem.W.Fast.tw8368733496329638832:True:=⟨⟩
theorem PySem.W.Fast.tw13923711806707902384:True:=⟨⟩
theorem PySem.W.Fast.tw4899538608526122097:True:=⟨⟩
theorem PySem.W.Fast.tw7487349955968528529:True:=⟨⟩
theorem PySem.W.Fast.tw597812342181329105:True:=⟨⟩
theorem PySem.W.Fast.tw18350902719144244625:True:=⟨⟩
theorem PySem.W.Fast.tw11722494995956726161:True:=⟨⟩
theorem PySem.W.Fast.tw1980947157006737841:True:=⟨⟩
theorem PySem.W.Fast.tw4643386430022388273:True:=⟨⟩
theorem PySem.W.Fast.tw7480413271217450545:True:=⟨⟩
theorem PySem.W.Fast.tw15637823063756595761:True:=⟨⟩
theorem PySem.W.Fast.tw11422322315898267313:True:=⟨⟩
theorem PySem.W.Fast.tw17938888287691953905:True:=⟨⟩
theorem PySem.W.Fast.tw7648177340891628273:True:=⟨⟩
theorem PySem.W.Fast.tw1840469313443260177:True:=⟨⟩
theorem PySem.W.Fast.tw11141167828730993457:True:=⟨⟩
theorem PySem.W.Fast.tw10182546515929519985:True:=⟨⟩
theorem PySem.W.Fast.tw3159818957826982833:True:=⟨⟩
theorem PySem.W.Fast.tw13822846911080671185:True:=⟨⟩
theorem PySem.W.Fast.tw9414552976252665809:True:=⟨⟩
theorem PySem.W.Fast.tw12813617583931677810:True:=⟨⟩
theorem PySem.W.Fast.tw14262779592717391058:True:=⟨⟩
theorem PySem.W.Fast.tw16987128568392084722:True:=⟨⟩
theorem PySem.W.Fast.tw3628093593642591474:True:=⟨⟩
theorem PySem.W.Fast.tw920202232956608850:True:=⟨⟩
theorem PySem.W.Fast.tw2783468677830441458:True:=⟨⟩
theorem PySem.W.Fast.tw4950667515729943122:True:=⟨⟩
theorem PySem.W.Fast.tw4173613224962070258:True:=⟨⟩
theorem PySem.W.Fast.tw12488002417160230674:True:=⟨⟩
theorem PySem.W.Fast.tw1386708541988818067:True:=⟨⟩
theorem PySem.W.Fast.tw1847325419064651955:True:=⟨⟩
theorem PySem.W.Fast.tw18071361343160179923:True:=⟨⟩
theorem PySem.W.Fast.tw9992480355470499059:True:=⟨⟩
theorem PySem.W.Fast.tw14762918231552841075:True:=⟨⟩
theorem PySem.W.Fast.tw16510639211657089459:True:=⟨⟩
theorem PySem.W.Fast.tw7548655555770015155:True:=⟨⟩
theorem PySem.W.Fast.tw12398818210779902419:True:=⟨⟩
theorem PySem.W.Fast.tw1708881997706917363:True:=⟨⟩
theorem PySem.W.Fast.tw8923691726178608659:True:=⟨⟩
theorem PySem.W.Fast.tw15727353567711142579:True:=⟨⟩
theorem PySem.W.Fast.tw2609627178067625683:True:=⟨⟩
theorem PySem.W.Fast.tw11902390161446608627:True:=⟨⟩
theorem PySem.W.Fast.tw2419446319528820499:True:=⟨⟩
theorem PySem.W.Fast.tw15221522184327666611:True:=⟨⟩
theorem PySem.W.Fast.tw12936901036746393587:True:=⟨⟩
theorem PySem.W.Fast.tw12269256696378895380:True:=⟨⟩
theorem PySem.W.Fast.tw5238602079493918772:True:=⟨⟩
theorem PySem.W.Fast.tw2405842611306487892:True:=⟨⟩
theorem PySem.W.Fast.tw15931401444451048532:True:=⟨⟩
theorem PySem.W.Fast.tw17083432835448213620:True:=⟨⟩
theorem PySem.W.Fast.tw16845569571748940980:True:=⟨⟩
theorem PySem.W.Fast.tw6185605547356139764:True:=⟨⟩
theorem PySem.W.Fast.tw3773301798121392500:True:=⟨⟩
theorem PySem.W.Fast.tw10799533126504690068:True:=⟨⟩
theorem PySem.W.Fast.tw7279570696283676116:True:=⟨⟩
theorem PySem.W.Fast.tw16489261656469088788:True:=⟨⟩
theorem PySem.W.Fast.tw17847624237744156212:True:=⟨⟩
theorem PySem.W.Fast.tw13958509957222793876:True:=⟨⟩
theorem PySem.W.Fast.tw580963794267650772:True:=⟨⟩
theorem PySem.W.Fast.tw11334499570099300116:True:=⟨⟩
theorem PySem.W.Fast.tw10025334755454792500:True:=⟨⟩
theorem PySem.W.Fast.tw18059286488672524116:True:=⟨⟩
theorem PySem.W.Fast.tw13266980864559693748:True:=⟨⟩
theorem PySem.W.Fast.tw4240215023041908660:True:=⟨⟩
theorem PySem.W.Fast.tw18141829615197529109:True:=⟨⟩
theorem PySem.W.Fast.tw13534670660555063317:True:=⟨⟩
theorem PySem.W.Fast.tw17939325910064869525:True:=⟨⟩
theorem PySem.W.Fast.tw8790898673088890037:True:=⟨⟩
theorem PySem.W.Fast.tw1210246511269054645:True:=⟨⟩
theorem PySem.W.Fast.tw7188083534821956853:True:=⟨⟩
theorem PySem.W.Fast.tw12013323107813468469:True:=⟨⟩
theorem PySem.W.Fast.tw17202629532509714805:True:=⟨⟩
theorem PySem.W.Fast.tw2448259834501859733:True:=⟨⟩
theorem PySem.W.Fast.tw17411398914287988309:True:=⟨⟩
theorem PySem.W.Fast.tw8258129565229920981:True:=⟨⟩
theorem PySem.W.Fast.tw245934991641105141:True:=⟨⟩
theorem PySem.W.Fast.tw94161983219753717:True:=⟨⟩
theorem PySem.W.Fast.tw3229852999259109141:True:=⟨⟩
theorem PySem.W.Fast.tw16022341394660597557:True:=⟨⟩
theorem PySem.W.Fast.tw4509301740912627669:True:=⟨⟩
theorem PySem.W.Fast.tw5416869116315655190:True:=⟨⟩
theorem PySem.W.Fast.tw9799931790938337302:True:=⟨⟩
theorem PySem.W.Fast.tw10055055574782799894:True:=⟨⟩
theorem PySem.W.Fast.tw10796383686549600310:True:=⟨⟩
theorem PySem.W.Fast.tw6138624048992888950:True:=⟨⟩
theorem PySem.W.Fast.tw128040197709239446:True:=⟨⟩
theorem PySem.W.Fast.tw6833770765955678358:True:=⟨⟩
theorem PySem.W.Fast.tw552924042441739414:True:=⟨⟩
theorem PySem.W.Fast.tw17414439978359844150:True:=⟨⟩
theorem PySem.W.Fast.tw4515559719509003638:True:=⟨⟩
theorem PySem.W.Fast.tw10669190996040329622:True:=⟨⟩
theorem PySem.W.Fast.tw1049177595845873110:True:=⟨⟩
theorem PySem.W.Fast.tw13366571772630218230:True:=⟨⟩
theorem PySem.W.Fast.tw668470928585201142:True:=⟨⟩
theorem PySem.W.Fast.tw14437666933439260182:True:=⟨⟩
theorem PySem.W.Fast.tw14176181812926755414:True:=⟨⟩
theorem PySem.W.Fast.tw4186887431028162134:True:=⟨⟩
theorem PySem.W.Fast.tw14153096163259535958:True:=⟨⟩
theorem PySem.W.Fast.tw709550366447410870:True:=⟨⟩
theorem PySem.W.Fast.tw15673427118026101462:True:=⟨⟩
theorem PySem.W.Fast.tw1057731925069849334:True:=⟨⟩
theorem PySem.W.Fast.tw16393614334732409590:True:=⟨⟩
theorem PySem.W.Fast.tw8209891865376156438:True:=⟨⟩
theorem PySem.W.Fast.tw17423796251939493686:True:=⟨⟩
theorem PySem.W.Fast.tw1650599151014584118:True:=⟨⟩
theorem PySem.W.Fast.tw4314481135953654582:True:=⟨⟩
theorem PySem.W.Fast.tw17446981529300831094:True:=⟨⟩
theorem PySem.W.Fast.tw6289822616224906134:True:=⟨⟩
theorem PySem.W.Fast.tw11963268529651104791:True:=⟨⟩
theorem PySem.W.Fast.tw15002413535083774071:True:=⟨⟩
theorem PySem.W.Fast.tw2504145903223914647:True:=⟨⟩
theorem PySem.W.Fast.tw17906711350516650167:True:=⟨⟩
theorem PySem.W.Fast.tw14685690525730200759:True:=⟨⟩
theorem PySem.W.Fast.tw14084616003962639607:True:=⟨⟩
theorem PySem.W.Fast.tw6955865727520256471:True:=⟨⟩
theorem PySem.W.Fast.tw8729477802319060471:True:=⟨⟩
theorem PySem.W.Fast.tw15019167569645387255:True:=⟨⟩
theorem PySem.W.Fast.tw9107687501819876887:True:=⟨⟩
theorem PySem.W.Fast.tw18104594230999304791:True:=⟨⟩
theorem PySem.W.Fast.tw283849108900689527:True:=⟨⟩
theorem PySem.W.Fast.tw10074121370638018231:True:=⟨⟩
theorem PySem.W.Fast.tw10423536778562507511:True:=⟨⟩
theorem PySem.W.Fast.tw12905704441538061047:True:=⟨⟩
theorem PySem.W.Fast.tw7032527679045076823:True:=⟨⟩
theorem PySem.W.Fast.tw5646709769707656023:True:=⟨⟩
theorem PySem.W.Fast.tw16867616388245409655:True:=⟨⟩
theorem PySem.W.Fast.tw12928342496272666551:True:=⟨⟩
theorem PySem.W.Fast.tw5635487500240875479:True:=⟨⟩
theorem PySem.W.Fast.tw11040524467504485367:True:=⟨⟩
theorem PySem.W.Fast.tw7304411960424897527:True:=⟨⟩
theorem PySem.W.Fast.tw10113872628795478136:True:=⟨⟩
theorem PySem.W.Fast.tw18051005075701432568:True:=⟨⟩
theorem PySem.W.Fast.tw1745794530978018584:True:=⟨⟩
theorem PySem.W.Fast.tw14551464558494181688:True:=⟨⟩
theorem PySem.W.Fast.tw7504532708068840792:True:=⟨⟩
theorem PySem.W.Fast.tw10446082353523652984:True:=⟨⟩
theorem PySem.W.Fast.tw10080267668913853816:True:=⟨⟩
theorem PySem.W.Fast.tw7190865490592435608:True:=⟨⟩
theorem PySem.W.Fast.tw9545366843629253016:True:=⟨⟩
theorem PySem.W.Fast.tw17167279334703709624:True:=⟨⟩
theorem PySem.W.Fast.tw3165827500887874008:True:=⟨⟩
theorem PySem.W.Fast.tw11987604911133324824:True:=⟨⟩
theorem PySem.W.Fast.tw7569809350014522008:True:=⟨⟩
theorem PySem.W.Fast.tw7892071712385815192:True:=⟨⟩
theorem PySem.W.Fast.tw2484891818770803384:True:=⟨⟩
theorem PySem.W.Fast.tw9822070765574149944:True:=⟨⟩
theorem PySem.W.Fast.tw10525237616159418200:True:=⟨⟩
theorem PySem.W.Fast.tw18265933164041050008:True:=⟨⟩
theorem PySem.W.Fast.tw12384571982400923608:True:=⟨⟩
theorem PySem.W.Fast.tw9741075150546169848:True:=⟨⟩
theorem PySem.W.Fast.tw4289113717986631705:True:=⟨⟩
theorem PySem.W.Fast.tw11544141917785746457:True:=⟨⟩
theorem PySem.W.Fast.tw12831924494880221337:True:=⟨⟩
theorem PySem.W.Fast.tw125694610866848953:True:=⟨⟩
theorem PySem.W.Fast.tw17721842219517833529:True:=⟨⟩
theorem PySem.W.Fast.tw10806233846545518969:True:=⟨⟩
theorem PySem.W.Fast.tw8337317647038125433:True:=⟨⟩
theorem PySem.W.Fast.tw8353556324084092569:True:=⟨⟩
theorem PySem.W.Fast.tw13439329260799013529:True:=⟨⟩
theorem PySem.W.Fast.tw17861920225579552409:True:=⟨⟩
theorem PySem.W.Fast.tw7719625658410307321:True:=⟨⟩
theorem PySem.W.Fast.tw13425223703184264953:True:=⟨⟩
theorem PySem.W.Fast.tw4326896606384489209:True:=⟨⟩
theorem PySem.W.Fast.tw10593209981968029561:True:=⟨⟩
theorem PySem.W.Fast.tw1777225173646997401:True:=⟨⟩
theorem PySem.W.Fast.tw4880056865335308281:True:=⟨⟩
theorem PySem.W.Fast.tw4300795142237811705:True:=⟨⟩
theorem PySem.W.Fast.tw11280675587750510650:True:=⟨⟩
theorem PySem.W.Fast.tw13873140123484025946:True:=⟨⟩
theorem PySem.W.Fast.tw13261652150209428634:True:=⟨⟩
theorem PySem.W.Fast.tw16444558209297348890:True:=⟨⟩
theorem PySem.W.Fast.tw9022403928005048634:True:=⟨⟩
theorem PySem.W.Fast.tw1496656071570195930:True:=⟨⟩
theorem PySem.W.Fast.tw303223221825180282:True:=⟨⟩
theorem PySem.W.Fast.tw16362601312508605082:True:=⟨⟩
theorem PySem.W.Fast.tw6811451181091195578:True:=⟨⟩
theorem PySem.W.Fast.tw1139804631268081402:True:=⟨⟩
theorem PySem.W.Fast.tw2326496924301340634:True:=⟨⟩
theorem PySem.W.Fast.tw16603879910222338203:True:=⟨⟩
theorem PySem.W.Fast.tw17588895865506864347:True:=⟨⟩
theorem PySem.W.Fast.tw10457186111759960315:True:=⟨⟩
theorem PySem.W.Fast.tw11137781760160070939:True:=⟨⟩
theorem PySem.W.Fast.tw13273321636743730491:True:=⟨⟩
theorem PySem.W.Fast.tw11799484401587698011:True:=⟨⟩
theorem PySem.W.Fast.tw9540094994189819227:True:=⟨⟩
theorem PySem.W.Fast.tw7701451185104546139:True:=⟨⟩
theorem PySem.W.Fast.tw8821093252987236795:True:=⟨⟩
theorem PySem.W.Fast.tw5721198130799174075:True:=⟨⟩
theorem PySem.W.Fast.tw13566035714709231067:True:=⟨⟩
theorem PySem.W.Fast.tw11652953490409458171:True:=⟨⟩
theorem PySem.W.Fast.tw8377152793058525723:True:=⟨⟩
theorem PySem.W.Fast.tw15181311617765025307:True:=⟨⟩
theorem PySem.W.Fast.tw6295759020141301307:True:=⟨⟩
theorem PySem.W.Fast.tw929884848316064379:True:=⟨⟩
theorem PySem.W.Fast.tw16314521708363952827:True:=⟨⟩
theorem PySem.W.Fast.tw1673716665480238011:True:=⟨⟩
theorem PySem.W.Fast.tw15080516980725498875:True:=⟨⟩
theorem PySem.W.Fast.tw16546955714097101819:True:=⟨⟩
theorem PySem.W.Fast.tw12900454376085421244:True:=⟨⟩
theorem PySem.W.Fast.tw16892006567497507068:True:=⟨⟩
theorem PySem.W.Fast.tw15726161922250698012:True:=⟨⟩
theorem PySem.W.Fast.tw4942092078603311420:True:=⟨⟩
theorem PySem.W.Fast.tw5260977141373972860:True:=⟨⟩
theorem PySem.W.Fast.tw10154780197734914524:True:=⟨⟩
theorem PySem.W.Fast.tw14627062977969916380:True:=⟨⟩
theorem PySem.W.Fast.tw3326632599426539004:True:=⟨⟩
theorem PySem.W.Fast.tw17948129105676944956:True:=⟨⟩
theorem PySem.W.Fast.tw7393365979217207164:True:=⟨⟩
theorem PySem.W.Fast.tw1141571643664356316:True:=⟨⟩
theorem PySem.W.Fast.tw5790908678106967165:True:=⟨⟩
theorem PySem.W.Fast.tw12641516767996608637:True:=⟨⟩
theorem PySem.W.Fast.tw18047040705418910845:True:=⟨⟩
theorem PySem.W.Fast.tw15513761641291749533:True:=⟨⟩
theorem PySem.W.Fast.tw4296399208046964925:True:=⟨⟩
theorem PySem.W.Fast.tw2562375878155635933:True:=⟨⟩
theorem PySem.W.Fast.tw16677586101369041181:True:=⟨⟩
theorem PySem.W.Fast.tw15930190362827226429:True:=⟨⟩
theorem PySem.W.Fast.tw17174107369772433821:True:=⟨⟩
theorem PySem.W.Fast.tw13635680714565374365:True:=⟨⟩
theorem PySem.W.Fast.tw1615192944857090525:True:=⟨⟩
theorem PySem.W.Fast.tw4299169104967086717:True:=⟨⟩
theorem PySem.W.Fast.tw7287140514463445757:True:=⟨⟩
theorem PySem.W.Fast.tw9067389609339684637:True:=⟨⟩
theorem PySem.W.Fast.tw15819557917593860925:True:=⟨⟩
theorem PySem.W.Fast.tw1995799385793140605:True:=⟨⟩
theorem PySem.W.Fast.tw12719174703769654141:True:=⟨⟩
theorem PySem.W.Fast.tw9432085813691874205:True:=⟨⟩
theorem PySem.W.Fast.tw9252293322654388189:True:=⟨⟩
theorem PySem.W.Fast.tw229762437850147902:True:=⟨⟩
theorem PySem.W.Fast.tw2947145491808797822:True:=⟨⟩
theorem PySem.W.Fast.tw4219520372630626462:True:=⟨⟩
theorem PySem.W.Fast.tw12392196394938570014:True:=⟨⟩
theorem PySem.W.Fast.tw2830986884023064990:True:=⟨⟩
theorem PySem.W.Fast.tw9499772496582720958:True:=⟨⟩
theorem PySem.W.Fast.tw12721865023630343614:True:=⟨⟩
theorem PySem.W.Fast.tw11241748292509132222:True:=⟨⟩
theorem PySem.W.Fast.tw3299344946302265822:True:=⟨⟩
theorem PySem.W.Fast.tw16476793085717443070:True:=⟨⟩
theorem PySem.W.Fast.tw8800610553785971230:True:=⟨⟩
theorem PySem.W.Fast.tw7723090338767145534:True:=⟨⟩
theorem PySem.W.Fast.tw18056306752611278398:True:=⟨⟩
theorem PySem.W.Fast.tw2540024139974120062:True:=⟨⟩
theorem PySem.W.Fast.tw13673947274522753694:True:=⟨⟩
theorem PySem.W.Fast.tw2808606421236435678:True:=⟨⟩
theorem PySem.W.Fast.tw10861691718314446686:True:=⟨⟩
theorem PySem.W.Fast.tw3158114480463547294:True:=⟨⟩
theorem PySem.W.Fast.tw1358504538026988446:True:=⟨⟩
theorem PySem.W.Fast.tw15196948780429439934:True:=⟨⟩
theorem PySem.W.Fast.tw9407692866632988638:True:=⟨⟩
theorem PySem.W.Fast.tw11685076988118805502:True:=⟨⟩
theorem PySem.W.Fast.tw15998955525406413887:True:=⟨⟩
theorem PySem.W.Fast.tw15597130091975560351:True:=⟨⟩
theorem PySem.W.Fast.tw10618500774096384191:True:=⟨⟩
theorem PySem.W.Fast.tw8596313761889941695:True:=⟨⟩
theorem PySem.W.Fast.tw13370834713927255487:True:=⟨⟩
theorem PySem.W.Fast.tw10999393101197108703:True:=⟨⟩
theorem PySem.W.Fast.tw94450436696966719:True:=⟨⟩
theorem PySem.W.Fast.tw13191113786310777439:True:=⟨⟩
theorem PySem.W.Fast.tw6863128590167059039:True:=⟨⟩
theorem PySem.W.Fast.tw13877799916685732543:True:=⟨⟩
theorem PySem.W.Fast.tw5213980853156143807:True:=⟨⟩
theorem PySem.W.Fast.tw6806550798424140543:True:=⟨⟩
theorem PySem.W.Fast.tw4162794826302695263:True:=⟨⟩
theorem PySem.W.Fast.tw7440938996771643295:True:=⟨⟩
theorem PySem.W.Fast.tw12199936805163660054:True:=⟨⟩
set_option maxRecDepth 100000 in
set_option maxHeartbeats 0 in
theorem PySem.Challenge.cw_unlikesteps_k93_desks_refuse_lines_holds : PySem.Challenge.rw_unlikesteps_k93_desks_refuse_lines.Holds := by
 w_on; o_law; k_head; (case hw => w_witness2)
 k_fill
 refine U.Ab (l := PySem.Challenge.rw_unlikesteps_k93_desks_refuse_lines) (n := 63) (k := 103) (x := "_law_script") (Pts := [515, 534]) (sp := fun K => U.qK K 515 534) rfl (by decide) rfl ⟨fun _ => rfl, by decide, by decide, rfl⟩ (fun w h Y => PySem.W.km_in_of Y) ?hT9 ?hC9 ?hN9 ?F ?S
 case hT9 =>
  intro w h Y P hP
  simp only [List.mem_cons, List.not_mem_nil, or_false] at hP
  rcases hP with rfl | rfl
  ·exact PySem.W.km_tabs_of Y 515 (by simp)
  ·exact PySem.W.km_tabs_of Y 534 (by simp)
 case hC9 =>
  intro w h X P hP
  simp only [List.mem_cons, List.not_mem_nil, or_false] at hP
  rcases hP with rfl | rfl
  ·exact ⟨519, PySem.W.codeHd_of_K X (by kernel_rfl)⟩
  ·exact ⟨536, PySem.W.codeHd_of_K X (by kernel_rfl)⟩
 case hN9 =>
  intro w P hP
  simp only [List.mem_cons, List.not_mem_nil, or_false] at hP
  rcases hP with rfl | rfl
  ·kernel_rfl
  ·kernel_rfl
 case S => exact fun K H a ns hl hs hp => ⟨a, ns, rfl, hs, hl, hp, fun _ => rfl⟩
 case F =>
  intro w mg fa h KX G hmg
  refine' U.CI (cR := 519) (PR := 515) (c := 536) (Pt := 534) KX G hmg (by decide) (U.aX ?a0 ?b0 ?c0 ?e0) (U.aX ?a1 ?b1 ?c1 ?e1) (U.aX ?a2 ?b2 ?c2 ?e2) (U.aX ?a3 ?b3 ?c3 ?e3) (U.aX ?a4 ?b4 ?c4 ?e4) (U.aX ?a5 ?b5 ?c5 ?e5) (U.aX ?a6 ?b6 ?c6 ?e6) (U.aX ?a7 ?b7 ?c7 ?e7) (U.aX ?a8 ?b8 ?c8 ?e8) (U.aX ?a9 ?b9 ?c9 ?e9) (U.aX ?a10 ?b10 ?c10 ?e10) (U.aX ?a11 ?b11 ?c11 ?e11) (U.aX ?a12 ?b12 ?c12 ?e12) (U.aX ?a13 ?b13 ?c13 ?e13) (U.aX ?a14 ?b14 ?c14 ?e14) (U.aX ?a15 ?b15 ?c15 ?e15) (U.aX ?a16 ?b16 ?c16 ?e16) (U.aX ?a17 ?b17 ?c17 ?e17) (U.aX ?a18 ?b18 ?c18 ?e18) (U.aX ?a19 ?b19 ?c19 ?e19) (U.aX ?a20 ?b20 ?c20 ?e20) (U.aX ?a21 ?b21 ?c21 ?e21) (U.aX ?a22 ?b22 ?c22 ?e22) (U.aX ?a23 ?b23 ?c23 ?e23) (U.aX ?a24 ?b24 ?c24 ?e24) (U.aX ?a25 ?b25 ?c25 ?e25) (U.aX ?a26 ?b26 ?c26 ?e26) (U.aX ?a27 ?b27 ?c27 ?e27) (U.aX ?a28 ?b28 ?c28 ?e28) (U.aX ?a29 ?b29 ?c29 ?e29) (U.aX ?a30 ?b30 ?c30 ?e30) (U.aX ?a31 ?b31 ?c31 ?e31) (U.aX ?a32 ?b32 ?c32 ?e32) (U.aX ?a33 ?b33 ?c33 ?e33) (U.aX ?a34 ?b34 ?c34 ?e34) (U.aX ?a35 ?b35 ?c35 ?e35) (U.aX ?a36 ?b36 ?c36 ?e36) ?r1R ?r2R ?r3R ?r4R ?r5R ?l1 ?l2 ?l3 ?l4 ?g1 ?lo0 ?lo1 ?lo2 ?eN ?eP ?eM ?eL ?eD ?eS ?xN ?xP ?xM ?xL ?xD ?qQ ?kQ ?nS ?nF ?nM ?n1 ?qD ?kD ?nB ?nP ?nT ?qM ?kM ?qC ?cC ?nC ?mI ?mY ?mU ?gaN ?hoN ?clN ?gaP ?hoP ?clP ?gaM ?hoM ?clM ?gaL ?hoL ?clL ?gaD ?hoD ?clD
  (case a0 => k_is); (case b0 => k_is); (case c0 => k_is); (case e0 => k_is)
  (case a1 => k_is); (case b1 => k_is); (case c1 => k_is); (case e1 => k_is)
  (case a2 => k_is); (case b2 => k_is); (case c2 => k_is); (case e2 => k_is)
  (case a3 => k_is); (case b3 => k_is); (case c3 => k_is); (case e3 => k_is)
  (case a4 => k_is); (case b4 => k_is); (case c4 => k_is); (case e4 => k_is)
  (case a5 => k_is); (case b5 => k_is); (case c5 => k_is); (case e5 => k_is)
  (case a6 => k_is); (case b6 => k_is); (case c6 => k_is); (case e6 => k_is)
  (case a7 => k_is); (case b7 => k_is); (case c7 => k_is); (case e7 => k_is)
  (case a8 => k_is); (case b8 => k_is); (case c8 => k_is); (case e8 => k_is)
  (case a9 => k_is); (case b9 => k_is); (case c9 => k_is); (case e9 => k_is)
  (case a10 => k_is); (case b10 => k_is); (case c10 => k_is); (case e10 => k_is)
  (case a11 => k_is); (case b11 => k_is); (case c11 => k_is); (case e11 => k_is)
  (case a12 => k_is); (case b12 => k_is); (case c12 => k_is); (case e12 => k_is)
  (case a13 => k_is); (case b13 => k_is); (case c13 => k_is); (case e13 => k_is)
  (case a14 => k_is); (case b14 => k_is); (case c14 => k_is); (case e14 => k_is)
  (case a15 => k_is); (case b15 => k_is); (case c15 => k_is); (case e15 => k_is)
  (case a16 => k_is); (case b16 => k_is); (case c16 => k_is); (case e16 => k_is)
  (case a17 => k_is); (case b17 => k_is); (case c17 => k_is); (case e17 => k_is)
  (case a18 => k_is); (case b18 => k_is); (case c18 => k_is); (case e18 => k_is)
  (case a19 => k_is); (case b19 => k_is); (case c19 => k_is); (case e19 => k_is)
  (case a20 => k_is); (case b20 => k_is); (case c20 => k_is); (case e20 => k_is)
  (case a21 => k_is); (case b21 => k_is); (case c21 => k_is); (case e21 => k_is)
  (case a22 => k_is); (case b22 => k_is); (case c22 => k_is); (case e22 => k_is)
  (case a23 => k_is); (case b23 => k_is); (case c23 => k_is); (case e23 => k_is)
  (case a24 => k_is); (case b24 => k_is); (case c24 => k_is); (case e24 => k_is)
  (case a25 => k_is); (case b25 => k_is); (case c25 => k_is); (case e25 => k_is)
  (case a26 => k_is); (case b26 => k_is); (case c26 => k_is); (case e26 => k_is)
  (case a27 => k_is); (case b27 => k_is); (case c27 => k_is); (case e27 => k_is)
  (case a28 => k_is); (case b28 => k_is); (case c28 => k_is); (case e28 => k_is)
  (case a29 => k_is); (case b29 => k_is); (case c29 => k_is); (case e29 => k_is)
  (case a30 => k_is); (case b30 => k_is); (case c30 => k_is); (case e30 => k_is)
  (case a31 => k_is); (case b31 => k_is); (case c31 => k_is); (case e31 => k_is)
  (case a32 => k_is); (case b32 => k_is); (case c32 => k_is); (case e32 => k_is)
  (case a33 => k_is); (case b33 => k_is); (case c33 => k_is); (case e33 => k_is)
  (case a34 => k_is); (case b34 => k_is); (case c34 => k_is); (case e34 => k_is)
  (case a35 => k_is); (case b35 => k_is); (case c35 => k_is); (case e35 => k_is)
  (case a36 => k_is); (case b36 => k_is); (case c36 => k_is); (case e36 => k_is)
  (case r1R => k_is)
  (case r2R => k_is)
  (case r3R => k_is)
  (case r4R => kernel_rfl)
  (case r5R => k_is)
  (case l1 => k_is)
  (case l2 => k_is)
  (case l3 => k_is)
  (case l4 => kernel_rfl)
  (case g1 => kernel_rfl)
  (case lo0 => k_is)
  (case lo1 => k_is)
  (case lo2 => k_is)
  (case eN => k_is)
  (case eP => k_is)
  (case eM => k_is)
  (case eL => k_is)
  (case eD => k_is)
  (case eS => k_is)
  (case xN => kernel_rfl)
  (case xP => kernel_rfl)
  (case xM => kernel_rfl)
  (case xL => kernel_rfl)
  (case xD => kernel_rfl)
  (case qQ => k_is)
  (case nS => k_is)
  (case nF => k_is)
  (case nM => k_is)
  (case n1 => k_is)
  case kQ =>
   refine' U.sU ?kQa ?kQb ?kQc ?kQd
   (case kQa => k_is)
   (case kQb => exact rfl)
   (case kQc => exact .cons ⟨rfl, rfl, rfl⟩ (.cons ⟨rfl, rfl, rfl⟩ (.cons ⟨rfl, rfl, rfl⟩ (.cons ⟨rfl, rfl, rfl⟩ (.cons ⟨rfl, rfl, rfl⟩ .nil)))))
   (case kQd => decide)
  (case qD => k_is)
  (case nB => k_is)
  (case nP => k_is)
  (case nT => k_is)
  case kD =>
   refine' U.sU ?kDa ?kDb ?kDc ?kDd
   (case kDa => k_is)
   (case kDb => exact rfl)
   (case kDc => exact .cons ⟨rfl, rfl, rfl⟩ (.cons ⟨rfl, rfl, rfl⟩ (.cons ⟨rfl, rfl, rfl⟩ .nil)))
   (case kDd => decide)
  (case qM => k_is)
  case kM =>
   refine' U.sU ?kMa ?kMb ?kMc ?kMd
   (case kMa => k_is)
   (case kMb => exact rfl)
   (case kMc => exact .cons ⟨rfl, rfl, ⟨_, rfl⟩⟩ (.cons ⟨rfl, rfl, ⟨_, rfl⟩⟩ (.cons ⟨rfl, rfl, ⟨_, rfl⟩⟩ (.cons ⟨rfl, rfl, ⟨_, rfl⟩⟩ (.cons ⟨rfl, rfl, ⟨_, rfl⟩⟩ (.cons ⟨rfl, rfl, ⟨_, rfl⟩⟩ (.cons ⟨rfl, rfl, ⟨_, rfl⟩⟩ (.cons ⟨rfl, rfl, ⟨_, rfl⟩⟩ (.cons ⟨rfl, rfl, ⟨_, rfl⟩⟩ .nil)))))))))
   (case kMd => decide)
  (case qC => k_is)
  (case cC => exact ⟨by kernel_rfl, by kernel_rfl, by kernel_rfl, by k_is⟩)
  (case nC => (show PySem.W.findIn _ _ _ = some none); k_is)
  case mI =>
   refine' U.CN ?i0 ?i1 ?i2 ?i3 ?i4 ?i5 ?i6
   (case i0 => kernel_rfl); (case i1 => k_is); (case i2 => k_is); (case i3 => k_is); (case i4 => k_is); (case i5 => k_is); (case i6 => k_is)
  case mY =>
   refine' U.xn ?mY1 ?mY2 ?mY3 ?mY4 ?mY5
   (case mY1 => k_is); (case mY2 => k_is); (case mY3 => k_is); (case mY4 => k_is); (case mY5 => k_is)
  case mU =>
   refine' U.xn ?mU1 ?mU2 ?mU3 ?mU4 ?mU5
   (case mU1 => k_is); (case mU2 => k_is); (case mU3 => k_is); (case mU4 => k_is); (case mU5 => k_is)
  (case gaN => k_is)
  (case hoN => k_is)
  (case clN => k_is)
  (case gaP => k_is)
  (case hoP => k_is)
  (case clP => k_is)
  (case gaM => k_is)
  (case hoM => k_is)
  (case clM => k_is)
  (case gaL => k_is)
  (case hoL => k_is)
  (case clL => k_is)
  (case gaD => k_is)
  (case hoD => k_is)
  (case clD => k_is)
