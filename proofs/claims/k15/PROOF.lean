import PyProof.Rows.All
import Wide.All
import OpenK.AllK
import Wide.FinOn
import PyProof.EqAt
import PyProof.EqKinds
import PyProof.TupleCall
import Lean
import PyProof.NeKinds
import PyProof.Rows.RuleDivmod
import PyProof.Rows.FactsN_divmod
import PyProof.DictItems
import KE.KPairComp
import PyProof.Draws
import PySem.Challenge.RW_barfloors_k15_whole_rests_and_fillings
theorem AA:type_of% @PySem.wpAny_bind:=@PySem.wpAny_bind
theorem AB:type_of% @List.mem_cons_of_mem:=@List.mem_cons_of_mem
theorem AC:type_of% @List.length_map:=@List.length_map
theorem AD:type_of% @PySem.wpAny_pure:=@PySem.wpAny_pure
theorem AE:type_of% @List.mem_cons_self:=@List.mem_cons_self
theorem AF:type_of% @PySem.Heap.get?_push_of_some:=@PySem.Heap.get?_push_of_some
theorem AG:type_of% @if_pos:=@if_pos
theorem AH:type_of% @if_neg:=@if_neg
theorem AI:type_of% @List.getElem?_eq_getElem:=@List.getElem?_eq_getElem
theorem AJ:type_of% @List.getD_eq_getElem?_getD:=@List.getD_eq_getElem?_getD
theorem AK:type_of% @PySem.Heap.lt_size:=@PySem.Heap.lt_size
theorem AL:type_of% @List.mem_cons:=@List.mem_cons
theorem AM:type_of% @Nat.le_refl:=@Nat.le_refl
theorem AN:type_of% @Array.getD_eq_getD_getElem?:=@Array.getD_eq_getD_getElem?
theorem AO:type_of% @List.getElem?_eq_some_iff:=@List.getElem?_eq_some_iff
theorem AQ:type_of% @Array.getElem?_eq_getElem:=@Array.getElem?_eq_getElem
theorem AR:type_of% @Array.length_toList:=@Array.length_toList
theorem AS:type_of% @decide_eq_true:=@decide_eq_true
theorem AT:type_of% @List.length_cons:=@List.length_cons
theorem AU:type_of% @List.map_cons:=@List.map_cons
theorem AV:type_of% @List.size_toArray:=@List.size_toArray
theorem AW:type_of% @PySem.Heap.get?_push_size:=@PySem.Heap.get?_push_size
theorem AX:type_of% @Nat.ne_of_lt:=@Nat.ne_of_lt
theorem AY:type_of% @List.length_append:=@List.length_append
theorem AZ:type_of% @PySem.wpAny_of_eq:=@PySem.wpAny_of_eq
theorem Aa:type_of% @decide_eq_false:=@decide_eq_false
theorem Ab:type_of% @List.getElem?_append_left:=@List.getElem?_append_left
theorem Ac:type_of% @List.getElem?_append_right:=@List.getElem?_append_right
theorem Ae:type_of% @List.mem_map:=@List.mem_map
theorem Af:type_of% @PySem.W.mg_of:=@PySem.W.mg_of
theorem Ag:type_of% @List.getElem?_map:=@List.getElem?_map
theorem Ah:type_of% @PySem.Heap.get?_update_other:=@PySem.Heap.get?_update_other
theorem Ai:type_of% @List.mem_singleton:=@List.mem_singleton
theorem Aj:type_of% @List.append_assoc:=@List.append_assoc
theorem Ak:type_of% @List.map_map:=@List.map_map
theorem Al:type_of% @List.not_mem_nil:=@List.not_mem_nil
theorem Am:type_of% @Nat.le_trans:=@Nat.le_trans
theorem An:type_of% @Option.some.inj:=@Option.some.inj
theorem Ao:type_of% @PySem.wpAny_holding:=@PySem.wpAny_holding
theorem Ap:type_of% @List.map_congr_left:=@List.map_congr_left
theorem Aq:type_of% @beq_self_eq_true:=@beq_self_eq_true
theorem Ar:type_of% @List.mem_append:=@List.mem_append
theorem As:type_of% @List.mem_of_getElem?:=@List.mem_of_getElem?
theorem At:type_of% @PySem.wpAny_setState_of:=@PySem.wpAny_setState_of
theorem Au:type_of% @Nat.lt_of_lt_of_le:=@Nat.lt_of_lt_of_le
theorem Av:type_of% @PySem.Heap.get?_update_self:=@PySem.Heap.get?_update_self
theorem Aw:type_of% @Array.getElem?_toList:=@Array.getElem?_toList
theorem Ax:type_of% @List.lookup_cons:=@List.lookup_cons
theorem Ay:type_of% @Bool.and_eq_true:=@Bool.and_eq_true
theorem Az:type_of% @PySem.W.mg_none_of:=@PySem.W.mg_none_of
theorem A0:type_of% @List.replicate_succ:=@List.replicate_succ
theorem A1:type_of% @PySem.wpAny_isInstance:=@PySem.wpAny_isInstance
theorem A2:type_of% @Nat.lt_succ_of_lt:=@Nat.lt_succ_of_lt
theorem A3:type_of% @Int.le_refl:=@Int.le_refl
theorem A4:type_of% @List.mem_append_right:=@List.mem_append_right
theorem A5:type_of% @Int.toNat_natCast:=@Int.toNat_natCast
theorem A6:type_of% @Nat.zero_le:=@Nat.zero_le
theorem A7:type_of% @Bool.false_eq_true:=@Bool.false_eq_true
theorem A8:type_of% @List.append_nil:=@List.append_nil
theorem A9:type_of% @PySem.codeAny_builtin:=@PySem.codeAny_builtin
theorem BA:type_of% @PySem.Obj.data_mapFields:=@PySem.Obj.data_mapFields
theorem BB:type_of% @beq_eq_false_iff_ne:=@beq_eq_false_iff_ne
theorem BC:type_of% @of_decide_eq_true:=@of_decide_eq_true
theorem BD:type_of% @Nat.lt_irrefl:=@Nat.lt_irrefl
theorem BE:type_of% @List.mem_range:=@List.mem_range
theorem BF:type_of% @List.foldl_cons:=@List.foldl_cons
theorem BG:type_of% @Nat.not_lt_zero:=@Nat.not_lt_zero
theorem BH:type_of% @PyProof.Rows.callWith_type1:=@PyProof.Rows.callWith_type1
theorem BI:type_of% @PySem.wpAny_Call_Name_kw:=@PySem.wpAny_Call_Name_kw
theorem BJ:type_of% @List.zip_cons_cons:=@List.zip_cons_cons
theorem BK:type_of% @List.getElem?_replicate:=@List.getElem?_replicate
theorem BL:type_of% @List.getElem?_of_mem:=@List.getElem?_of_mem
theorem BM:type_of% @PySem.Around.under_plainId:=@PySem.Around.under_plainId
theorem BN:type_of% @List.pairwise_map:=@List.pairwise_map
theorem BO:type_of% @PySem.Heap.size_push:=@PySem.Heap.size_push
theorem BP:type_of% @PyProof.Rows.F.plain_set_update_loop:=@PyProof.Rows.F.plain_set_update_loop
theorem BQ:type_of% @List.flatten_cons:=@List.flatten_cons
theorem BR:type_of% @Option.map_some:=@Option.map_some
theorem BS:type_of% @PyProof.Rows.KeyOrd.kle_refl:=@PyProof.Rows.KeyOrd.kle_refl
theorem BT:type_of% @PySem.mem_of_lookup:=@PySem.mem_of_lookup
theorem BU:type_of% @List.getElem?_set_self:=@List.getElem?_set_self
theorem BV:type_of% @Array.getElem?_eq_some_iff:=@Array.getElem?_eq_some_iff
theorem BW:type_of% @PySem.wpAny_call_entry:=@PySem.wpAny_call_entry
theorem BX:type_of% @Nat.succ_le_succ:=@Nat.succ_le_succ
theorem BY:type_of% @PySem.Heap.size_update:=@PySem.Heap.size_update
theorem BZ:type_of% @PySem.wpAny_setField:=@PySem.wpAny_setField
theorem Ba:type_of% @Bool.false_ne_true:=@Bool.false_ne_true
theorem Bb:type_of% @List.pairwise_cons:=@List.pairwise_cons
theorem Bc:type_of% @PySem.wpAny_field:=@PySem.wpAny_field
theorem Bd:type_of% @List.getElem?_set_ne:=@List.getElem?_set_ne
theorem Be:type_of% @PySem.wpAny_mono:=@PySem.wpAny_mono
theorem Bf:type_of% @PySem.wpAny_call:=@PySem.wpAny_call
theorem Bg:type_of% @List.nodup_cons:=@List.nodup_cons
theorem Bh:type_of% @PyProof.Rows.callWith_builtin1:=@PyProof.Rows.callWith_builtin1
theorem Bi:type_of% @List.map_append:=@List.map_append
theorem Bj:type_of% @List.eq_nil_of_length_eq_zero:=@List.eq_nil_of_length_eq_zero
theorem Bk:type_of% @PySem.wpAny_callSpecial?_slot:=@PySem.wpAny_callSpecial?_slot
theorem Bl:type_of% @List.filterMap_cons:=@List.filterMap_cons
theorem Bm:type_of% @Nat.le_add_right:=@Nat.le_add_right
theorem Bn:type_of% @List.filter_cons:=@List.filter_cons
theorem Bo:type_of% @PySem.sizeLine_eq:=@PySem.sizeLine_eq
theorem Bp:type_of% @PySem.Calls.spliced_cons:=@PySem.Calls.spliced_cons
theorem Bq:type_of% @PySem.wpAny_typeOf:=@PySem.wpAny_typeOf
theorem Br:type_of% @Nat.sub_self:=@Nat.sub_self
theorem Bs:type_of% @PySem.Obj.isFreed_of_fields:=@PySem.Obj.isFreed_of_fields
theorem Bt:type_of% @List.length_singleton:=@List.length_singleton
theorem Bu:type_of% @beq_false_of_ne:=@beq_false_of_ne
theorem Bv:type_of% @List.length_nil:=@List.length_nil
theorem Bw:type_of% @List.set_append_right:=@List.set_append_right
theorem Bx:type_of% @if_false:=@if_false
theorem By:type_of% @PySem.Calls.spliced_nil:=@PySem.Calls.spliced_nil
theorem B0:type_of% @PySem.codeAny_call_builtin:=@PySem.codeAny_call_builtin
theorem B1:type_of% @Prod.mk.inj:=@Prod.mk.inj
theorem B2:type_of% @Bool.and_false:=@Bool.and_false
theorem B3:type_of% @congrArg:=@congrArg
theorem B4:type_of% @List.length_take:=@List.length_take
theorem B5:type_of% @List.take_succ_eq_append_getElem:=@List.take_succ_eq_append_getElem
theorem B6:type_of% @PySem.wpAny_askSetting:=@PySem.wpAny_askSetting
theorem B7:type_of% @List.getElem_mem:=@List.getElem_mem
theorem B8:type_of% @List.getElem?_range:=@List.getElem?_range
theorem B9:type_of% @PyProof.Rows.F.entry_set_update_loop:=@PyProof.Rows.F.entry_set_update_loop
theorem CA:type_of% @PySem.wpAny_attempt:=@PySem.wpAny_attempt
theorem CB:type_of% @List.sum_cons:=@List.sum_cons
theorem CC:type_of% @List.mem_filter:=@List.mem_filter
theorem CD:type_of% @List.length_set:=@List.length_set
theorem CF:type_of% @beq_iff_eq:=@beq_iff_eq
theorem CG:type_of% @Nat.lt_of_le_of_lt:=@Nat.lt_of_le_of_lt
theorem CH:type_of% @List.range_succ_eq_map:=@List.range_succ_eq_map
theorem CI:type_of% @PySem.wpAny_newObj_type:=@PySem.wpAny_newObj_type
theorem CJ:type_of% @PySem.wpAny_truthy_bool:=@PySem.wpAny_truthy_bool
theorem CK:type_of% @Nat.le_of_lt_succ:=@Nat.le_of_lt_succ
theorem CL:type_of% @PyProof.Rows.KeyOrd.kle_of_klt:=@PyProof.Rows.KeyOrd.kle_of_klt
theorem CM:type_of% @List.getElem?_eq_none:=@List.getElem?_eq_none
theorem CN:type_of% @PySem.intKind_is:=@PySem.intKind_is
theorem CP:type_of% @List.all_eq_true:=@List.all_eq_true
theorem CQ:type_of% @PyProof.Rows.KeyOrd.kle_trans:=@PyProof.Rows.KeyOrd.kle_trans
theorem CS:type_of% @PySem.wpAny_standAt:=@PySem.wpAny_standAt
theorem CT:type_of% @PySem.wpAny_newList:=@PySem.wpAny_newList
theorem CU:type_of% @PySem.Heap.get?_update_ne:=@PySem.Heap.get?_update_ne
theorem CV:type_of% @PySem.pushCells_keeps:=@PySem.pushCells_keeps
theorem CW:type_of% @PySem.wpAny_specialOf:=@PySem.wpAny_specialOf
theorem CY:type_of% @List.find?_cons:=@List.find?_cons
theorem CZ:type_of% @Nat.le_of_lt:=@Nat.le_of_lt
theorem Ca:type_of% @Nat.succ_pos:=@Nat.succ_pos
theorem Cb:type_of% @PySem.wpAny_runValue:=@PySem.wpAny_runValue
theorem Cc:type_of% @PySem.wpAny_rule:=@PySem.wpAny_rule
theorem Cd:type_of% @Nat.le_succ:=@Nat.le_succ
theorem Ce:type_of% @PySem.plainId_quiet:=@PySem.plainId_quiet
set_option Elab.async false
set_option linter.all false
set_option maxRecDepth 100000
set_option maxHeartbeats 0
section
namespace EX
open PySem PySem.Spec PyProof.Rows
theorem Jm:entryFor table "proto.unchain" = some Builtin.«proto.unchain» := entryFor_of_fast (by kernel_rfl)
def Hnd (A:Around) (h:Heap):Prop := ∀ v,A.handled=some v -> ∃ ea oe vs,v=Value.ref ea∧h.get? ea=some oe∧oe.data = .fields vs∧vs[2]? = some .none
section
variable {prog:Program} {w:World} {A:Around} {E:Value->Shared->Prop} {s:Shared}
theorem Ju {e v:Value} {ea:Addr} {oe:Obj} {vs:Array Value} {Q:Value->Shared->Prop} (ho:s.heap.get? ea=some oe) (hd:oe.data = .fields vs) (h2:vs[2]? = some .none) (hq:Q .none s) :
  wpAny (model prog w) A (runValue (.builtin "proto.unchain" ⟨[e,.ref ea,v,.bool false],[]⟩)) Q E s:=by
 refine Cb (A9 Jm ?_)
 unfold Builtin.«proto.unchain»
 dsimp only
 refine AA (Bc ho hd h2 ?_)
 rw [AG (show (Value.none==Value.none)=true by rfl)]
 refine AA (AD (AD ?_))
 exact hq
theorem qAD {α:Type} {e:Addr} {oe:Obj} {vs:Array Value} {Q:α->Shared->Prop} (hn:Hnd A s.heap) (he:s.heap.get? e=some oe) (hd:oe.data = .fields vs) (hsz:2 < vs.size) (hne:∀ ea,A.handled=some (.ref ea)->ea≠e)
  (h:∀ h' o',Heap.SameBut e s.heap h'->h'.get? e=some o'->o'.cls=oe.cls->E (.ref e) { s with heap:=h' }):wpAny (model prog w) A (raiseNew (.ref e):Sem α) Q E s:=by
 unfold raiseNew
 refine AA (wpAny_handled ?_)
 cases hh:A.handled with
 |none=>exact AA (AD (wpAny_throw (h s.heap oe (.refl ..) he rfl)))
 |some v =>
  obtain ⟨ea,o,ws,rfl,ho,hdo,h2⟩:=hn v hh
  have hne':=hne ea hh
  have hb:(Value.ref ea != Value.ref e)=true:=by
   rw [bne_iff_ne];intro z;cases z;exact hne' rfl
  dsimp only
  rw [AG hb]
  refine AA (Ao (Ju ho hdo h2 ?_))
  refine AA (BZ (x:=Value.ref ea) he hd hsz (wpAny_throw ?_))
  exact h _ _ (Heap.SameBut.update ..) (Av _ he (Bs (BA hd _))) (Obj.cls_mapFields ..)
theorem Wx {α:Type} {Q:α->Shared->Prop} (hn:Hnd A s.heap) (h:∀ h' e,(∀ b o,s.heap.get? b=some o->h'.get? b=some o)->(∃ o',h'.get? e=some o'∧o'.cls = .type "StopIteration")->E (.ref e) { s with heap:=h' }) :
  wpAny (model prog w) A (newExc (.type "StopIteration") [] >>= fun e=>(raiseNew e:Sem α)) Q E s:=by
 refine AA ?_
 unfold newExc newTuple
 refine AA (CI ?_ (by size_fits))
 refine AA (m:=firstArgMember _ _) (AZ (a:=Value.none) (by first |rfl |(simp only [firstArgMember];rfl)) ?_)
 refine CI ?_ (by size_fits)
 have up:∀ {b o},s.heap.get? b=some o->((s.heap.push { cls := .type "tuple",data := .seq ([]:List Value).toArray }).push { cls := .type "StopIteration",data := .fields (#[.ref s.heap.objs.size,.none,.none,.none,.bool false,.none]++ownMembersOf (.type "StopIteration") []) }).get? b=some o:=fun q=>AF _ (AF _ q)
 refine qAD (oe:={ cls := .type "StopIteration",data := .fields (#[.ref s.heap.objs.size,.none,.none,.none,.bool false,.none]++ownMembersOf (.type "StopIteration") []) }) ?_ (AW _ rfl) rfl (by simp [ownMembersOf]) (fun ea hea => ?_) fun h' o' sb ho' hc=>h h' _ (fun b o q => ?_) ⟨o',ho',hc⟩
 ·intro v hv
  obtain ⟨ea,oe,vs,e1,e2,e3⟩:=hn v hv
  exact ⟨ea,oe,vs,e1,up e2,e3⟩
 ·obtain ⟨ea',oe,vs,e1,e2,e3⟩:=hn _ hea
  cases e1
  exact AX (Nat.lt_trans (AK e2) (by simp))
 ·exact (sb.2 b (AX (Nat.lt_trans (AK q) (by simp)))).trans (up q)
theorem list_end {it l:Addr} {i:Nat} {items} {Q:Option Value->Shared->Prop} (hn:Hnd A s.heap) (z1:s.heap.IsListIter it l i) (z2:s.heap.IsList l items) (z3:items[i]? = none) (z4:∀ v,A.handled=some v->v ≠ .ref it)
  (hQ:∀ h',(∀ b o,b≠it->s.heap.get? b=some o->h'.get? b=some o)->Q none { s with heap:=h' }):wpAny (model prog w) A (pyNext (.ref it)) Q E s:=by
 obtain ⟨ob,g1,g2,g3⟩:=id z1
 obtain ⟨ol,g4,_,nl,g5⟩:=z2
 unfold pyNext
 refine AA (CA (Bk (name:=Str.ofString "__next__") z1.typeIs slot_listiter_next (BW slot_listiter_next z1.typeIs entry_listiter_next ?_ (args_listiter_next _))))
 change wpAny _ A.in1 (field (Value.ref it) 0 >>= _) _ _ s
 refine AA (Bc g1 g3 (x:=Value.ref l) rfl ?_)
 change wpAny _ A.in1 (if (Value.ref l==Value.none)=true then _ else _) _ _ s
 rw [AH (fun z:(Value.ref l==Value.none)=true=>Ba z)]
 change wpAny _ A.in1 (field (Value.ref it) 1 >>= _) _ _ s
 refine AA (Bc g1 g3 (x:=Value.int i 0) rfl ?_)
 change wpAny _ A.in1 (seqItems? (Value.ref l) >>= _) _ _ s
 refine AA (wpAny_seqItems g4 g5 ?_)
 simp only [A5,z3]
 refine AA (Cc (AA (BZ g1 g3 (by simp) ?_)))
 refine Wx (A:=A.in1) ?_ fun h' e k ht => ?_
 ·intro v hv
  obtain ⟨ea,oe,vs,e1,e2,e3⟩:=hn v hv
  refine ⟨ea,oe,vs,e1,?_,e3⟩
  have hne:ea≠it:=fun z=>z4 v hv (by rw [e1,z])
  exact (Ah _ _ (Ne.symm hne)).trans e2
 ·refine AA (A1 (T := "StopIteration") (b:=true) ht isSubtype_stop ?_)
  exact AD (hQ _ fun b o' hb q=>k b o' ((Ah _ _ (Ne.symm hb)).trans q))
theorem tuple_end {it l:Addr} {i:Nat} {items} {Q:Option Value->Shared->Prop} (hn:Hnd A s.heap) (z1:s.heap.IsTupleIter it l i) (z2:s.heap.IsTuple l items) (z3:items[i]? = none) (z4:∀ v,A.handled=some v->v ≠ .ref it)
  (hQ:∀ h',(∀ b o,b≠it->s.heap.get? b=some o->h'.get? b=some o)->Q none { s with heap:=h' }):wpAny (model prog w) A (pyNext (.ref it)) Q E s:=by
 obtain ⟨ob,g1,g2,g3⟩:=id z1
 obtain ⟨ol,g4,_,nl,g5⟩:=z2
 unfold pyNext
 refine AA (CA (Bk (name:=Str.ofString "__next__") z1.typeIs F.slot_tuple_iterator_next (BW F.slot_tuple_iterator_next z1.typeIs F.entry_tuple_iterator_next ?_ (F.args_tuple_iterator_next_1 _))))
 change wpAny _ A.in1 (field (Value.ref it) 0 >>= _) _ _ s
 refine AA (Bc g1 g3 (x:=Value.ref l) rfl ?_)
 change wpAny _ A.in1 (if (Value.ref l==Value.none)=true then _ else _) _ _ s
 rw [AH (fun z:(Value.ref l==Value.none)=true=>Ba z)]
 change wpAny _ A.in1 (field (Value.ref it) 1 >>= _) _ _ s
 refine AA (Bc g1 g3 (x:=Value.int i 0) rfl ?_)
 change wpAny _ A.in1 (seqItems? (Value.ref l) >>= _) _ _ s
 refine AA (wpAny_seqItems g4 g5 ?_)
 simp only [A5,z3]
 refine AA (Cc (AA (BZ g1 g3 (by simp) ?_)))
 refine Wx (A:=A.in1) ?_ fun h' e k ht => ?_
 ·intro v hv
  obtain ⟨ea,oe,vs,e1,e2,e3⟩:=hn v hv
  refine ⟨ea,oe,vs,e1,?_,e3⟩
  have hne:ea≠it:=fun z=>z4 v hv (by rw [e1,z])
  exact (Ah _ _ (Ne.symm hne)).trans e2
 ·refine AA (A1 (T := "StopIteration") (b:=true) ht isSubtype_stop ?_)
  exact AD (hQ _ fun b o' hb q=>k b o' ((Ah _ _ (Ne.symm hb)).trans q))
theorem range_end {it:Addr} {x left step:Int} {Q:Option Value->Shared->Prop} (hn:Hnd A s.heap) (z1:IsRangeIter s.heap it x left step) (z2:left≤0)
  (hQ:∀ h',(∀ b o,s.heap.get? b=some o->h'.get? b=some o)->Q none { s with heap:=h' }):wpAny (model prog w) A (pyNext (.ref it)) Q E s:=by
 have z0:s.TypeIs (.ref it) "range_iterator" := ⟨_,z1,rfl⟩
 unfold pyNext
 refine AA (CA (Bk (name:=Str.ofString "__next__") z0 F.slot_range_iterator_next (BW F.slot_range_iterator_next z0 F.entry_range_iterator_next ?_ (F.args_range_iterator_next_1 _))))
 change wpAny _ A.in1 (field (Value.ref it) 0 >>= _) _ _ s
 refine AA (Bc z1 rfl (x:=rawInt x) rfl ?_)
 change wpAny _ A.in1 (field (Value.ref it) 1 >>= _) _ _ s
 refine AA (Bc z1 rfl (x:=rawInt left) rfl ?_)
 change wpAny _ A.in1 (field (Value.ref it) 2 >>= _) _ _ s
 refine AA (Bc z1 rfl (x:=rawInt step) rfl ?_)
 change wpAny _ A.in1 (if left≤0 then _ else _) _ _ s
 rw [AG z2]
 refine AA (Cc (AA ?_))
 refine Wx (A:=A.in1) hn fun h' e k ht => ?_
 refine AA (A1 (T := "StopIteration") (b:=true) ht isSubtype_stop ?_)
 exact AD (hQ _ k)
end
end EX
end
section
namespace L2
open PySem PySem.Spec PyProof.Rows
abbrev Key:=Sum Int Str
def qFt:Key->Value->Bool
 | .inl k,v=>Value.isInt k v
 | .inr x,v=>Value.isStrOf x v
def qI7 (w:World):Key->Int
 | .inl k=>hashInt k
 | .inr x=>hashStr w x
theorem Qg:∀ {k:Key} {v:Value},qFt k v=true->(∃ i t,k=Sum.inl i∧v=Value.int i t)∨(∃ x t,k=Sum.inr x∧v=Value.str x t)
 | .inl i,v,h=>by
  obtain ⟨t,e⟩:=Value.isInt_shape (k:=i) (v:=v) h
  exact .inl ⟨i,t,rfl,e⟩
 | .inr x,v,h=>by
  obtain ⟨t,e⟩:=Value.isStrOf_shape (x:=x) (v:=v) h
  exact .inr ⟨x,t,rfl,e⟩
theorem qGn (a b:Int):decide ((Sum.inl a:Key)=Sum.inl b)=(a==b):=by
 by_cases e:a=b
 ·subst e;simp
 ·have h:¬ (Sum.inl a:Key)=Sum.inl b:=fun q=>e (Sum.inl.inj q)
  rw [Aa h]
  exact (BB.mpr e).symm
theorem qHL (a b:Str):decide ((Sum.inr a:Key)=Sum.inr b)=decide (a=b):=by
 by_cases e:a=b
 ·subst e;simp
 ·have h:¬ (Sum.inr a:Key)=Sum.inr b:=fun q=>e (Sum.inr.inj q)
  rw [Aa h,Aa e]
theorem qHR (a:Int) (b:Str):decide ((Sum.inl a:Key)=Sum.inr b)=false:=Aa (fun q=>nomatch q)
theorem qGz (a:Str) (b:Int):decide ((Sum.inr a:Key)=Sum.inl b)=false:=Aa (fun q=>nomatch q)
def jP (prog:Program) (w:World):PySem.KeyKind prog w Key where
 is:=qFt
 hash:=qI7 w
 inj:=fun v a b ha hb=>by
  rcases Qg ha with ⟨i,t,rfl,rfl⟩ |⟨x,t,rfl,rfl⟩
  ·rcases Qg hb with ⟨j,u,rfl,e⟩ |⟨y,u,rfl,e⟩
   ·injection e with e1 _;rw [e1]
   ·exact nomatch e
  ·rcases Qg hb with ⟨j,u,rfl,e⟩ |⟨y,u,rfl,e⟩
   ·exact nomatch e
   ·injection e with e1 _;rw [e1]
 byValue:=fun k v h=>by
  rcases Qg h with ⟨i,t,rfl,rfl⟩ |⟨x,t,rfl,rfl⟩ <;> rfl
 pyHash:=fun hv h=>by
  rcases Qg hv with ⟨i,t,rfl,rfl⟩ |⟨x,t,rfl,rfl⟩
  ·exact wpAny_pyHash_int h
  ·exact wpAny_pyHash_str h
 eqBool:=fun hu hv h=>by
  rcases Qg hu with ⟨i,t,rfl,rfl⟩ |⟨x,t,rfl,rfl⟩
  ·rcases Qg hv with ⟨j,u,rfl,rfl⟩ |⟨y,u,rfl,rfl⟩
   ·rw [qGn] at h;exact wpAny_eqBool_int h
   ·rw [qHR] at h;exact SeqAt.EqAt.int_str i t y u _ _ _ _ h
  ·rcases Qg hv with ⟨j,u,rfl,rfl⟩ |⟨y,u,rfl,rfl⟩
   ·rw [qGz] at h;exact SeqAt.EqAt.str_int x t j u _ _ _ _ h
   ·rw [qHL] at h;exact wpAny_eqBool_str h
 «strs» := fun k x t v h=>by
  rcases Qg h with ⟨i,u,rfl,e⟩ |⟨y,u,rfl,e⟩
  ·exact nomatch e
  ·injection e with e1 _
   subst e1
   cases v <;> rfl
end L2
namespace L2
open PySem PySem.Spec PyProof.Rows
inductive V where
 |non |bl (b:Bool) |int (i:Int) |str (x:Str) |byt (b:Array UInt8) |flt (b:UInt64) |ref (a:Addr) |ty (n:String)
 deriving DecidableEq
def RelV:V->Value->Prop
 | .non,u=>u=Value.none
 | .bl b,u=>u=Value.bool b
 | .int i,u => ∃ t,u=Value.int i t
 | .str x,u => ∃ t,u=Value.str x t
 | .byt b,u => ∃ t,u=Value.bytes b t
 | .flt b,u => ∃ t,u=Value.float b t
 | .ref a,u=>u=Value.ref a
 | .ty n,u=>u=Value.type n
abbrev Vals:List V->List Value->Prop:=Paired RelV
theorem Vals.length {xs:List V} {us:List Value} (r:Vals xs us):xs.length=us.length:=Paired.length r
theorem Vals.get:∀ {xs:List V} {us:List Value} {i:Nat} {x:V},Vals xs us->xs[i]? = some x -> ∃ u,us[i]? = some u∧RelV x u
 |_,_,_,_,.nil,e=>by simp at e
 |_,_,0,_,.cons r _,e=>by simp at e;subst e;exact ⟨_,rfl,r⟩
 |_,_,i + 1,x,.cons _ t,e=>by
  obtain ⟨u,h1,h2⟩:=Vals.get (i:=i) (x:=x) t (by simpa using e)
  exact ⟨u,by simpa using h1,h2⟩
theorem Vals.set {x:V} {u:Value} (r:RelV x u):∀ {xs:List V} {us:List Value} (i:Nat),Vals xs us->Vals (xs.set i x) (us.set i u)
 |_,_,_,.nil => .nil
 |_,_,0,.cons _ t => .cons r t
 |_,_,i + 1,.cons q t => .cons q (Vals.set r i t)
theorem Vals.append:∀ {xs ys:List V} {us ws:List Value},Vals xs us->Vals ys ws->Vals (xs++ys) (us++ws)
 |_,_,_,_,.nil,s=>s
 |_,_,_,_,.cons r t,s => .cons r (Vals.append t s)
theorem Vals.take:∀ {xs:List V} {us:List Value} (n:Nat),Vals xs us->Vals (xs.take n) (us.take n)
 |_,_,0,_ => .nil
 |_,_,_ + 1,.nil => .nil
 |_,_,n + 1,.cons r t => .cons r (Vals.take n t)
theorem Vals.drop:∀ {xs:List V} {us:List Value} (n:Nat),Vals xs us->Vals (xs.drop n) (us.drop n)
 |_,_,0,r=>r
 |_,_,_ + 1,.nil => .nil
 |_,_,n + 1,.cons _ t=>Vals.drop n t
def qIE:Option V->Option Value->Prop
 |some v,some u=>RelV v u
 |none,none=>True
 |_,_=>False
def KV {κ:Type}:List (κ×V)->List (κ×Value)->Prop:=Paired fun (p:κ×V) (q:κ×Value)=>p.1=q.1∧RelV p.2 q.2
def kV:Key->V
 | .inl i => .int i
 | .inr x => .str x
inductive HO where
 /-- a list -/
 |lst (xs:List V)
 /-- a tuple (never changes) -/
 |tup (xs:List V)
 /-- a dict whose keys are ints and texts;one whose keys are tuples of ints and texts (the empty one is both) -/
 |dK (kvs:List (Key×V)) |dT (kvs:List (List Key×V))
 /-- a set of ints: its members,its size -/
 |set (S:Int->Bool) (n:Nat)
 /-- an instance of the class at C,its dict at dx,its attributes -/
 |ins (C dx:Addr) (fs:List (Str×V))
 /-- the dict of the instance at x -/
 |own (x:Addr)
 /-- the dict of an exception -/
 |xd (fs:List (Str×V))
 /-- a bound method,f of x -/
 |met (f x:Addr)
 /-- a range object lo,lo + 1,.. below hi -/
 |rng (lo hi:Int)
 /-- a thing that is known to the object (the script;a dict while a loop walks it): read,never written while it is so -/
 |frz (o:Obj) (u:HO)
 /-- a code object's table -/
 |tbl (ps:Array Value)
 /-- any other thing,by what is true of its one object (a def of one's own: SetO a S n:=HO.ext fun h => ..) -/
 |ext (φ:Heap->Prop)
abbrev Hp:=Addr->Option HO
def upd (H:Hp) (a:Addr) (o:HO):Hp:=fun b=>if b=a then some o else H b
theorem Qk {H:Hp} {a:Addr} {o:HO}:upd H a o a=some o:=by unfold upd;rw [AG rfl]
theorem qV {H:Hp} {a b:Addr} {o:HO} (h:b≠a):upd H a o b=H b:=by unfold upd;rw [AH h]
theorem qM {H:Hp} {a b:Addr} {o:HO} (h:H a=some o) (h':H b=none):a≠b:=by
 intro e;subst e;rw [h] at h';cases h'
section
variable (P:Program) (w:World)
def ObjOk (H:Hp) (h:Heap) (a:Addr):HO->Prop
 | .lst xs=>xs.length≤sizeLine ∧ ∃ (its:List Value) (n:Nat),Vals xs its∧h.get? a=some { cls := .type "list",data := .seq its.toArray n }
 | .tup xs=>xs.length≤sizeLine ∧ ∃ its:List Value,Vals xs its∧IsTup h a its.toArray
 | .dK kvs=>kvs.length≤sizeLine∧(a==sysModules)=false ∧ ∃ vs,KV kvs vs∧h.DictOf (jP P w) a vs
 | .dT kvs=>kvs.length≤sizeLine∧(a==sysModules)=false ∧ ∃ xs:List (List Key×Addr×Value),
   Paired (fun (p:List Key×V) (q:List Key×Addr×Value)=>p.1=q.1∧H q.2.1=some (.tup (p.1.map kV))∧RelV p.2 q.2.2) kvs xs ∧
   ∃ o es ep,h.get? a=some o∧o.ExactDict∧o.data = .dict es ep∧es.toList=xs.map (entryOfKey (tupleKind (jP P w)))∧(xs.map (·.1)).Nodup
 | .set S n=>h.SetOf (intKind P w) a S n
 | .ins C dx fs=>H dx=some (.own a)∧fs.length≤1000∧dx≠a∧h.get? a=some (W.instObj C dx) ∧
   ∃ mA,h.Ns1 dx mA∧(∀ f,qIE (fs.lookup f) (mA f))∧PySem.Within mA (fs.map (·.1))
 | .own _ => ∃ o,h.get? a=some o
 | .xd fs => ∃ mA,h.Ns1 a mA ∧ ∀ f,qIE (fs.lookup f) (mA f)
 | .rng lo hi => ∃ t u v,h.get? a=some { cls := .type "range",data := .fields #[.int lo t,.int hi u,.int 1 v] }
 | .frz o u=>h.get? a=some o∧ObjOk H h a u
 | .tbl ps=>h.get? a=some { cls := .none,data := .fields ps }
 | .met f x=>h.get? a=some (W.methodObj (.ref f) (.ref x))
 | .ext φ=>φ h∧(∃ o,h.get? a=some o) ∧ ∀ h1 h2:Heap,φ h1->(∀ o,h1.get? a=some o->h2.get? a=some o)->φ h2
def HOk (H:Hp) (h:Heap):Prop := ∀ a o,H a=some o->ObjOk P w H h a o
end
section
variable {P:Program} {w:World} {H H':Hp} {h h':Heap} {a:Addr} {o:HO}
theorem ObjOk.lt (x:ObjOk P w H h a o):a < h.objs.size:=by
 cases o with
 |lst xs=>obtain ⟨_,_,_,_,e⟩:=x;exact AK e
 |tup xs=>obtain ⟨_,_,_,p⟩:=x;exact p.lt
 |dK kvs=>obtain ⟨_,_,_,_,o,_,_,e,_⟩:=x;exact AK e
 |dT kvs=>obtain ⟨_,_,_,_,o,_,_,e,_⟩:=x;exact AK e
 |set S n=>obtain ⟨o,_,_,_,e,_⟩:=x;exact AK e
 |ins C dx fs=>obtain ⟨_,_,_,e,_⟩:=x;exact AK e
 |own y=>obtain ⟨_,e⟩:=x;exact AK e
 |xd fs=>obtain ⟨_,⟨_,_,_,e,_⟩,_⟩:=x;exact AK e
 |rng lo hi=>obtain ⟨_,_,_,e⟩:=x;exact AK e
 |frz ob u=>obtain ⟨e,_⟩:=x;exact AK e
 |tbl ps=>exact AK (show h.get? a=some _ from x)
 |met f y=>exact AK (show h.get? a=some _ from x)
 |ext φ=>obtain ⟨_,⟨_,e⟩,_⟩:=x;exact AK e
theorem Paired.mapP {α β:Type} {F G:α->β->Prop}:∀ {l₁:List α} {l₂:List β},Paired F l₁ l₂->(∀ a b,F a b->G a b)->Paired G l₁ l₂
 |_,_,.nil,_ => .nil
 |_,_,.cons r t,f => .cons (f _ _ r) (Paired.mapP t f)
theorem ObjOk.stay (x:ObjOk P w H h a o) (k:∀ b u,(b=a∨H b=some (.own a))->h.get? b=some u->h'.get? b=some u)
  (ho:∀ b,H b=some (.own a)->H' b=some (.own a)) (ht:∀ b xs,H b=some (.tup xs)->H' b=some (.tup xs)):ObjOk P w H' h' a o:=by
 induction o with
 |lst xs=>obtain ⟨z,its,n,r,e⟩:=x;exact ⟨z,its,n,r,k _ _ (.inl rfl) e⟩
 |tup xs=>obtain ⟨z,its,r,ob,e,c⟩:=x;exact ⟨z,its,r,ob,k _ _ (.inl rfl) e,c⟩
 |dK kvs=>obtain ⟨z,y,vs,r,ob,es,ep,e,c⟩:=x;exact ⟨z,y,vs,r,ob,es,ep,k _ _ (.inl rfl) e,c⟩
 |dT kvs =>
  obtain ⟨z,y,xs,r,ob,es,ep,e,c⟩:=x
  exact ⟨z,y,xs,Paired.mapP r fun p q z=>⟨z.1,ht _ _ z.2.1,z.2.2⟩,ob,es,ep,k _ _ (.inl rfl) e,c⟩
 |set S n=>obtain ⟨ob,es,ep,t,e,c⟩:=x;exact ⟨ob,es,ep,t,k _ _ (.inl rfl) e,c⟩
 |ins C dx fs =>
  obtain ⟨d,z,ne,e,mA,⟨od,es,ep,e2,c⟩,r⟩:=x
  exact ⟨ho _ d,z,ne,k _ _ (.inl rfl) e,mA,⟨od,es,ep,k _ _ (.inr d) e2,c⟩,r⟩
 |own y=>obtain ⟨ob,e⟩:=x;exact ⟨ob,k _ _ (.inl rfl) e⟩
 |xd fs=>obtain ⟨mA,⟨od,es,ep,e,c⟩,r⟩:=x;exact ⟨mA,⟨od,es,ep,k _ _ (.inl rfl) e,c⟩,r⟩
 |rng lo hi=>obtain ⟨t,u,v,e⟩:=x;exact ⟨t,u,v,k _ _ (.inl rfl) e⟩
 |frz ob u ih=>obtain ⟨e,q⟩:=x;exact ⟨k _ _ (.inl rfl) e,ih q⟩
 |tbl ps =>
  have e:h.get? a=some { cls := .none,data := .fields ps }:=x
  show h'.get? a=some { cls := .none,data := .fields ps }
  exact k a _ (.inl rfl) e
 |met f y =>
  have e:h.get? a=some (W.methodObj (.ref f) (.ref y)):=x
  show h'.get? a=some (W.methodObj (.ref f) (.ref y))
  exact k a _ (.inl rfl) e
 |ext φ=>obtain ⟨p,⟨o,e⟩,st⟩:=x;exact ⟨st _ _ p fun o q=>k _ _ (.inl rfl) q,⟨o,k _ _ (.inl rfl) e⟩,st⟩
theorem HOk.lt (x:HOk P w H h) (e:H a=some o):a < h.objs.size:=(x a o e).lt
theorem HOk.fresh (x:HOk P w H h) (e:h.objs.size≤a):H a=none:=by
 cases q:H a with
 |none=>rfl
 |some u=>exact absurd (Au (x.lt q) e) (BD _)
theorem HOk.kept (x:HOk P w H h) (k:∀ b u,h.get? b=some u->h'.get? b=some u):HOk P w H h':=fun a o e =>
 (x a o e).stay (fun b u _ q=>k b u q) (fun _ q=>q) fun _ _ q=>q
theorem HOk.laid (x:HOk P w H h) (k:∀ b u,h.get? b=some u->h'.get? b=some u) (hp:h.objs.size≤a) (new:ObjOk P w (upd H a o) h' a o):HOk P w (upd H a o) h':=fun b u e=>by
 have hn:=x.fresh hp
 by_cases hb:b=a
 ·subst hb;rw [Qk] at e;cases e;exact new
 ·rw [qV hb] at e
  exact (x b u e).stay (fun c v _ q=>k c v q) (fun c q=>by rw [qV (qM q hn)];exact q) fun c xs q=>by rw [qV (qM q hn)];exact q
end
def Rd (H:Hp) (a:Addr) (u:HO):Prop:=H a=some u ∨ ∃ o,H a=some (.frz o u)
theorem Rd.ok {P:Program} {w:World} {H:Hp} {h:Heap} {a:Addr} {u:HO} (r:Rd H a u) (x:HOk P w H h):ObjOk P w H h a u:=by
 rcases r with r |⟨o,r⟩
 ·exact x a u r
 ·obtain ⟨_,q⟩:=x a _ r
  exact q
def Mut:Option HO->Prop
 |some (.lst _)=>True
 |some (.dK _)=>True
 |some (.dT _)=>True
 |some (.set _ _)=>True
 |some (.ins _ _ _)=>True
 |some (.ext _)=>True
 |_=>False
section
variable {P:Program} {w:World} {H:Hp} {h h':Heap} {x e:Addr} {o':HO}
theorem HOk.write (ok:HOk P w H h) (mu:Mut (H x)) (he:e=x∨H e=some (.own x)) (k:∀ b u,b≠e->h.get? b=some u->h'.get? b=some u) (heo:∃ u,h'.get? e=some u)
  (new:ObjOk P w (upd H x o') h' x o'):HOk P w (upd H x o') h':=fun b u q=>by
 have nown:∀ c y,H c=some (.own y)->c≠x:=fun c y r z=>by subst z;rw [r] at mu;exact mu
 have ntup:∀ c xs,H c=some (.tup xs)->c≠x:=fun c xs r z=>by subst z;rw [r] at mu;exact mu
 by_cases hb:b=x
 ·subst hb;rw [Qk] at q;cases q;exact new
 ·rw [qV hb] at q
  by_cases hbe:b=e
  ·have q':H b=some (.own x):=by
    rcases he with z |z
    ·exact absurd (hbe.trans z) hb
    ·rw [hbe];exact z
   rw [q] at q';cases q'
   obtain ⟨v,hv⟩:=heo
   exact ⟨v,by rw [hbe];exact hv⟩
  ·refine (ok b u q).stay (fun c v hc r=>k c v ?_ r) (fun c r=>by rw [qV (nown c b r)];exact r) fun c xs r=>by rw [qV (ntup c xs r)];exact r
   rcases hc with rfl |hc
   ·exact hbe
   ·rintro rfl
    rcases he with z |z
    ·exact nown c b hc z
    ·rw [hc] at z;cases z;exact hb rfl
end
structure Un (fs ex:List Addr) (H H':Hp) (h h':Heap):Prop where
 keep:∀ b o,h.get? b=some o->H b=none->b ∉ fs->b ∉ ex->h'.get? b=some o
 slot:∀ b o,h.get? b=some o->H b=none->b∈fs->b ∉ ex -> ∃ sl,h'.get? b=some { o with slots:=sl }
 free:∀ b o,h.get? b=some o->H b=none->b ∉ ex->H' b=none
 there:∀ b o,h.get? b=some o->b ∉ ex -> ∃ o',h'.get? b=some o'
 tups:∀ b xs,H b=some (.tup xs)->H' b=some (.tup xs)
 frzs:∀ b o u,H b=some (.frz o u)->H' b=some (.frz o u)
 tbls:∀ b ps,H b=some (.tbl ps) -> ∃ more,H' b=some (.tbl (ps++more))
section
variable {fs fs' ex ex':List Addr} {H H1 H2:Hp} {h h1 h2 h':Heap} {a x e:Addr} {o:HO}
theorem Un.any (u:Un fs ex H H1 h h1) {b:Addr} {ob:Obj} (q:h.get? b=some ob) (n:H b=none) (hx:b ∉ ex):∃ sl,h1.get? b=some { ob with slots:=sl }:=by
 by_cases hb:b∈fs
 ·exact u.slot b ob q n hb hx
 ·exact ⟨ob.slots,u.keep b ob q n hb hx⟩
theorem Un.kept (k:∀ b u,h.get? b=some u->h'.get? b=some u):Un fs ex H H h h' :=
 ⟨fun b ob q _ _ _=>k b ob q,fun b ob q _ _ _=>⟨ob.slots,k b ob q⟩,fun _ _ _ n _=>n,fun b ob q _=>⟨ob,k b ob q⟩,fun _ _ q=>q,fun _ _ _ q=>q,fun _ ps q=>⟨#[],by rw [q];simp⟩⟩
theorem Un.refl:Un fs ex H H h h:=Un.kept fun _ _ q=>q
theorem Un.laid (k:∀ b u,h.get? b=some u->h'.get? b=some u) (hp:h.objs.size≤a) (hn:H a=none):Un fs ex H (upd H a o) h h' where
 keep:=fun b u q _ _ _=>k b u q
 slot:=fun b u q _ _ _=>⟨u.slots,k b u q⟩
 free:=fun b u q n _=>by rw [qV (AX (Au (AK q) hp))];exact n
 there:=fun b u q _=>⟨u,k b u q⟩
 tups:=fun b xs q=>by rw [qV (qM q hn)];exact q
 frzs:=fun b u xs q=>by rw [qV (qM q hn)];exact q
 tbls:=fun b ps q=>⟨#[],by rw [qV (qM q hn),q];simp⟩
theorem Un.write (mu:Mut (H x)) (he:e=x∨H e=some (.own x)) (k:∀ b u,b≠e->h.get? b=some u->h'.get? b=some u) (heo:∃ u,h'.get? e=some u):Un fs ex H (upd H x o) h h':=by
 have hx:∀ b,H b=none->b≠x:=fun b n z=>by subst z;rw [n] at mu;exact mu
 have hb:∀ b,H b=none->b≠e:=fun b n z=>by
  subst z
  rcases he with r |r
  ·exact hx b n r
  ·rw [n] at r;cases r
 have hm:∀ b u,H b=some u -> ¬ Mut (some u)->b≠x:=fun b u q nm z=>by subst z;rw [q] at mu;exact nm mu
 refine ⟨fun b u q n _ _=>k b u (hb b n) q,fun b u q n _ _=>⟨u.slots,k b u (hb b n) q⟩,fun b u q n _=>by rw [qV (hx b n)];exact n,fun b u q _ => ?_,
  fun b xs q=>by rw [qV (hm b _ q fun z=>z)];exact q,fun b u xs q=>by rw [qV (hm b _ q fun z=>z)];exact q,fun b ps q=>⟨#[],by rw [qV (hm b _ q fun z=>z),q];simp⟩⟩
 by_cases hbe:b=e
 ·subst hbe;exact heo
 ·exact ⟨u,k b u hbe q⟩
end
def trk (h:Heap) (H:Hp):List Addr:=(List.range h.objs.size).filter fun a=>(H a).isSome
def jI (h:Heap) (H:Hp):Heap:=W.hideAll h (trk h H)
theorem qB5 (h:Heap) (H:Hp):(jI h H).objs.size=h.objs.size:=W.hideAll_size _ _
theorem qDu {h:Heap} {H:Hp} {b:Addr} {o:Obj} (e:h.get? b=some o) (n:H b=none):(jI h H).get? b=some o :=
 W.hideAll_get _ e fun hm=>by
  have q:(H b).isSome=true:=(CC.mp hm).2
  rw [n] at q;simp at q
theorem qFO {h:Heap} {H:Hp} {b:Addr} {o:Obj} (e:(jI h H).get? b=some o):h.get? b=some o∧H b=none:=by
 have e':h.get? b=some o:=W.of_hideAll (trk h H) e
 refine ⟨e',?_⟩
 cases q:H b with
 |none=>rfl
 |some x =>
  have hm:b∈trk h H:=CC.mpr ⟨BE.mpr (AK e'),by simp [q]⟩
  have z:(jI h H).get? b=none:=W.hideAll_none (trk h H) hm
  rw [z] at e;cases e
end L2
namespace L2
open PySem PySem.Spec PyProof.Rows
structure Mod (K:W.Frag) (mg:Str->Option Value) (base:Heap):Prop where
 kin:K.In base
 glob:base.Ns mainGlobals mg
 blt:∃ mb,base.Ns builtinsNs mb ∧ ∀ x:Str,x ≠ "__name__" -> mb x=bootBuiltins x
 nolimit:base.NoLimit
structure Cx where
 prog:Program
 w:World
 K:W.Frag
 mg:Str->Option Value
 base:Heap
 A:Around
 N:List Str
 s₀:Shared
 H₀:Hp
 env:Env
 outer:List Env
 stack:List Env
 ex:List Addr
 fn:Str->Bool
 calm:Bool
 pn:List (Addr×Obj)
 xe:Value->Shared->Prop
def frs (l:List Env):List Addr:=l.filterMap (·.frame)
abbrev Cx.fs (X:Cx):List Addr:=frs X.outer
def Vis (sc:Scope) (x:Str):Prop:=sc.names.lookup x=some .local∨sc.names.lookup x=some .cell∨sc.names.lookup x=some .free
def Loc (sc:Scope) (x:Str):Prop:=sc.names.lookup x=some .local∨sc.names.lookup x=some .cell
def qJK (env:Env) (h:Heap) (m:Str->Option Value) (x:Str) (u:Value):Prop :=
 (env.kindOf x=some .local∧m x=some u)∨((env.kindOf x=some .cell∨env.kindOf x=some .free) ∧ ∃ c,env.cells.lookup x=some c∧h.IsCell c (some u))
structure Cx.Ok (X:Cx):Prop where
 mod:Mod X.K X.mg X.base
 kind:X.env.scope.kind = .function
 glob:X.env.globals=mainGlobals
 blt:X.env.builtins=builtinsNs
 above:X.s₀.heap.objs.size≤X.env.locals
 inj:∀ x y c,X.env.cells.lookup x=some c->X.env.cells.lookup y=some c->x=y
 has:∀ x,(X.env.kindOf x=some .cell∨X.env.kindOf x=some .free) -> ∃ c,X.env.cells.lookup x=some c
 cab:∀ x c,X.fn x=true->X.env.cells.lookup x=some c->X.s₀.heap.objs.size≤c
 hd:X.calm=true->X.A.handled=none
 frames:X.A.frames=some X.stack
 stk:X.stack=X.outer∨(X.stack=X.env::X.outer∧X.env.frame=some X.env.locals)
 exf:∀ b∈X.ex,b≠X.env.locals ∧ ∀ x c,X.env.cells.lookup x=some c->c≠b
 bs:∀ b o,X.base.get? b=some o->X.s₀.heap.get? b=some o∧X.H₀ b=none
 bsz:X.base.objs.size≤X.s₀.heap.objs.size
 noex:∀ b o,X.base.get? b=some o->b ∉ X.ex
 exfs:∀ b∈X.ex,b ∉ X.fs
 funs:X.s₀.heap.FunFrames X.base X.outer
 frf:∀ b∈X.fs,X.H₀ b=none
def HndH (A:Around) (H:Hp):Prop := ∀ v,A.handled=some v -> ∃ ea oe u vs,v=Value.ref ea∧H ea=some (.frz oe u)∧oe.data = .fields vs∧vs[2]? = some .none
theorem HndH.none {A:Around} {H:Hp} (h:A.handled=none):HndH A H:=fun v e=>by rw [h] at e;cases e
structure Inv (X:Cx) (pins:List (Addr×Obj)) (σ:List (Option V)) (H:Hp) (s:Shared):Prop where
 ok:X.Ok
 os:s.os=X.s₀.os
 bare:AllBare s.gens
 base:Un X.fs X.ex X.H₀ H X.s₀.heap s.heap
 loc:∃ m,s.heap.Ns X.env.locals m ∧ ∀ (i:Nat) (x:Str) (v:V),X.N[i]? = some x->σ[i]? = some (some v)->Vis X.env.scope x -> ∃ u,RelV v u∧qJK X.env s.heap m x u
 cell:∀ x c,X.env.cells.lookup x=some c -> ∃ v,s.heap.IsCell c v
 free:H X.env.locals=none
 freeC:∀ x c,X.env.cells.lookup x=some c->H c=none
 pin:∀ p∈X.pn++pins,s.heap.get? p.1=some p.2∧H p.1=none∧p.1≠X.env.locals∧p.1 ∉ X.fs ∧ ∀ v,p.2.data ≠ .cell v
 hok:HOk X.prog X.w H s.heap
 len:σ.length=X.N.length
 hnd:HndH X.A H
section
variable {X:Cx} {pins:List (Addr×Obj)} {σ:List (Option V)} {H H':Hp} {s:Shared} {h':Heap}
theorem Cx.Ok.nofr (ok:X.Ok) {b:Addr} {o:Obj} (e:X.base.get? b=some o):b ∉ X.fs:=fun hb=>by
 have:=(ok.funs.mem hb).1
 rw [e] at this;cases this
theorem Inv.bs (I:Inv X pins σ H s):∀ b o,X.base.get? b=some o->s.heap.get? b=some o∧H b=none:=fun b o e =>
 ⟨I.base.keep b o (I.ok.bs b o e).1 (I.ok.bs b o e).2 (I.ok.nofr e) (I.ok.noex b o e),I.base.free b o (I.ok.bs b o e).1 (I.ok.bs b o e).2 (I.ok.noex b o e)⟩
theorem Inv.bk (I:Inv X pins σ H s):∀ b o,X.base.get? b=some o->s.heap.get? b=some o:=fun b o e=>(I.bs b o e).1
theorem Inv.mod (I:Inv X pins σ H s):Mod X.K X.mg X.base:=I.ok.mod
theorem Inv.kIn (I:Inv X pins σ H s):X.K.In s.heap:=I.ok.mod.kin.keeps I.bk
theorem Inv.lt (I:Inv X pins σ H s):X.env.locals < s.heap.objs.size:=let ⟨_,hn,_⟩:=I.loc;hn.lt
theorem Inv.sz (I:Inv X pins σ H s):X.s₀.heap.objs.size≤s.heap.objs.size:=Am I.ok.above (CZ I.lt)
theorem Inv.nofs (I:Inv X pins σ H s) {a:Addr} (h:s.heap.objs.size≤a):a ∉ X.fs:=fun hb=>by
 obtain ⟨_,o,ho,_⟩:=I.ok.funs.mem hb
 exact absurd (Au (AK ho) (Am I.sz h)) (BD _)
theorem Inv.cne (I:Inv X pins σ H s):∀ x c,X.env.cells.lookup x=some c->c≠X.env.locals:=fun x c e z=>by
 obtain ⟨v,o,ho,hd⟩:=I.cell x c e
 obtain ⟨m,⟨o',es,ep,ho',hd',_⟩,_⟩:=I.loc
 rw [z,ho'] at ho;cases ho;rw [hd'] at hd;cases hd
theorem Inv.funs (I:Inv X pins σ H s):s.heap.FunFrames X.base X.outer:=by
 have all:∀ (l:List Env),(∀ b∈frs l,b∈X.fs)->X.s₀.heap.FunFrames X.base l->s.heap.FunFrames X.base l:=by
  intro l
  induction l with
  |nil=>intro _ _;trivial
  |cons env r ih =>
   intro hs hl
   obtain ⟨hk,⟨L,o,hf,hn,ho,hd⟩,hr⟩:=hl
   have hL:L∈X.fs:=hs L (by unfold frs;rw [Bl,hf];exact AE)
   obtain ⟨sl,e⟩:=I.base.slot L o ho (I.ok.frf L hL) hL fun z=>I.ok.exfs L z hL
   exact ⟨hk,⟨L,_,hf,hn,e,hd⟩,ih (fun b hb=>hs b (by unfold frs;rw [Bl,hf];exact AB _ hb)) hr⟩
 exact all X.outer (fun _ hb=>hb) I.ok.funs
theorem Inv.stack (I:Inv X pins σ H s):s.heap.FunFrames X.base X.stack:=by
 rcases I.ok.stk with e |⟨e,hf⟩
 ·rw [e];exact I.funs
 ·rw [e]
  obtain ⟨m,hn,_⟩:=I.loc
  refine .cons (by rw [I.ok.kind];decide) hf hn ?_ I.funs
  exact Heap.get?_none_of_le (Am I.ok.bsz I.ok.above)
theorem Inv.stkSub (I:Inv X pins σ H s):∀ b∈frs X.stack,b∈X.env.locals::X.fs:=fun b hb=>by
 rcases I.ok.stk with e |⟨e,hf⟩
 ·rw [e] at hb;exact AB _ hb
 ·rw [e] at hb
  unfold frs at hb
  rw [Bl,hf] at hb
  exact hb
theorem Inv.stkFree (I:Inv X pins σ H s):∀ b∈frs X.stack,H b=none:=fun b hb=>by
 rcases AL.mp (I.stkSub b hb) with e |hb
 ·rw [e];exact I.free
 ·obtain ⟨_,o,ho,_⟩:=I.ok.funs.mem hb
  exact I.base.free b o ho (I.ok.frf b hb) fun z=>I.ok.exfs b z hb
theorem Inv.step {g':Array GenState} {t':Nat} {d':Drawn} {ch:List Addr} (I:Inv X pins σ H s)
  (hch:∀ b∈ch,(b∈X.ex∨X.s₀.heap.objs.size≤b)∧b≠X.env.locals∧(∀ x c,X.env.cells.lookup x=some c->c≠b) ∧ ∀ p∈X.pn++pins,p.1≠b)
  (keep:∀ b o,b≠X.env.locals->b ∉ X.fs->b ∉ ch->s.heap.get? b=some o->H b=none->h'.get? b=some o)
  (slot:∀ b o,b≠X.env.locals->b∈X.fs->b ∉ ch->s.heap.get? b=some o->H b=none -> ∃ sl,h'.get? b=some { o with slots:=sl }) (free:∀ b o,b ∉ ch->s.heap.get? b=some o->H b=none->H' b=none)
  (there:∀ b o,b ∉ ch->s.heap.get? b=some o -> ∃ o',h'.get? b=some o')
  (tups:∀ b xs,H b=some (.tup xs)->H' b=some (.tup xs)) (frzs:∀ b o u,H b=some (.frz o u)->H' b=some (.frz o u)) (tbls:∀ b ps,H b=some (.tbl ps) -> ∃ more,H' b=some (.tbl (ps++more)))
  (ns:∀ m,s.heap.Ns X.env.locals m->h'.Ns X.env.locals m) (hok:HOk X.prog X.w H' h') (hg:AllBare g') :
  Inv X pins σ H' { s with heap:=h',gens:=g',drawn:=d',toks:=t' }:=by
 have neL:∀ b o,X.s₀.heap.get? b=some o->b≠X.env.locals:=fun b o e=>AX (Au (AK e) I.ok.above)
 have neC:∀ b o,X.s₀.heap.get? b=some o->b ∉ X.ex->b ∉ ch:=fun b o e hx hb=>by
  rcases (hch b hb).1 with z |z
  ·exact hx z
  ·exact absurd (Au (AK e) z) (BD _)
 have cellK:∀ x c,X.env.cells.lookup x=some c -> ∀ v,s.heap.IsCell c v->h'.IsCell c v:=fun x c e v ⟨o,ho,hd⟩=>by
  have nch:c ∉ ch:=fun z=>(hch c z).2.2.1 x c e rfl
  by_cases hc:c∈X.fs
  ·obtain ⟨sl,q⟩:=slot c o (I.cne x c e) hc nch ho (I.freeC x c e)
   exact ⟨_,q,hd⟩
  ·exact ⟨o,keep c o (I.cne x c e) hc nch ho (I.freeC x c e),hd⟩
 refine ⟨I.ok,I.os,hg,⟨fun b o e n hb hx => ?_,fun b o e n hb hx => ?_,fun b o e n hx => ?_,fun b o e hx => ?_,fun b xs e=>tups b xs (I.base.tups b xs e),fun b o xs e=>frzs b o xs (I.base.frzs b o xs e),fun b ps e => ?_⟩,?_,fun x c e => ?_,?_,fun x c e => ?_,fun p hp => ?_,hok,I.len,fun v hv=>(let ⟨ea,oe,u,vs,e1,e2,e3⟩:=I.hnd v hv;⟨ea,oe,u,vs,e1,frzs _ _ _ e2,e3⟩)⟩
 ·exact keep b o (neL b o e) hb (neC b o e hx) (I.base.keep b o e n hb hx) (I.base.free b o e n hx)
 ·obtain ⟨sl,e1⟩:=I.base.slot b o e n hb hx
  obtain ⟨sl',e2⟩:=slot b _ (neL b o e) hb (neC b o e hx) e1 (I.base.free b o e n hx)
  exact ⟨sl',e2⟩
 ·obtain ⟨o',e1⟩:=I.base.there b o e hx
  exact free b o' (neC b o e hx) e1 (I.base.free b o e n hx)
 ·obtain ⟨o',e1⟩:=I.base.there b o e hx
  exact there b o' (neC b o e hx) e1
 ·obtain ⟨m1,e1⟩:=I.base.tbls b ps e
  obtain ⟨m2,e2⟩:=tbls b _ e1
  exact ⟨m1++m2,by rw [e2,Array.append_assoc]⟩
 ·obtain ⟨m,hn,hl⟩:=I.loc
  refine ⟨m,ns m hn,fun i x v e1 e2 e3 => ?_⟩
  obtain ⟨u,r,l⟩:=hl i x v e1 e2 e3
  refine ⟨u,r,?_⟩
  rcases l with l |⟨k,c,e,z⟩
  ·exact .inl l
  ·exact .inr ⟨k,c,e,cellK x c e _ z⟩
 ·obtain ⟨v,z⟩:=I.cell x c e
  exact ⟨v,cellK x c e v z⟩
 ·obtain ⟨m,⟨o,_,_,ho,_⟩,_⟩:=I.loc
  exact free _ o (fun z=>(hch _ z).2.1 rfl) ho I.free
 ·obtain ⟨v,o,ho,hd⟩:=I.cell x c e
  exact free c o (fun z=>(hch c z).2.2.1 x c e rfl) ho (I.freeC x c e)
 ·obtain ⟨e,n,ne,nf,d⟩:=I.pin p hp
  have nch:p.1 ∉ ch:=fun z=>(hch p.1 z).2.2.2 p hp rfl
  exact ⟨keep p.1 p.2 ne nf nch e n,free p.1 p.2 nch e n,ne,nf,d⟩
theorem Inv.un {t':Nat} (I:Inv X pins σ H s) (u:Un X.fs [] H H' s.heap h') (hok:HOk X.prog X.w H' h'):Inv X pins σ H' { s with heap:=h',toks:=t' }:=by
 obtain ⟨m,⟨o,es,ep,ho,r⟩,_⟩:=id I.loc
 obtain ⟨sl,hL⟩:=u.any ho I.free (by simp)
 exact I.step (g':=s.gens) (d':=s.drawn) (ch:=[]) (fun _ z=>nomatch z) (fun b o _ hb _ e n=>u.keep b o e n hb (by simp)) (fun b o _ hb _ e n=>u.slot b o e n hb (by simp)) (fun b o _ e n=>u.free b o e n (by simp)) (fun b o _ e=>u.there b o e (by simp)) u.tups u.frzs u.tbls (fun m' hm=>by
  obtain ⟨o',es',ep',ho',r'⟩:=hm
  rw [ho] at ho';cases ho'
  exact ⟨_,es',ep',hL,r'⟩) hok I.bare
theorem Inv.call {g':Array GenState} {t':Nat} {d':Drawn} {ch:List Addr} (I:Inv X pins σ H s) (u:Un (frs X.stack) ch H H' s.heap h') (hok:HOk X.prog X.w H' h') (hg:AllBare g')
  (hch:∀ b∈ch,(b∈X.ex∨X.s₀.heap.objs.size≤b)∧b≠X.env.locals∧(∀ x c,X.env.cells.lookup x=some c->c≠b) ∧ ∀ p∈X.pn++pins,p.1≠b) :
  Inv X pins σ H' { s with heap:=h',gens:=g',drawn:=d',toks:=t' }:=by
 obtain ⟨m,⟨o,es,ep,ho,r⟩,_⟩:=id I.loc
 obtain ⟨sl,hL⟩:=u.any ho I.free fun z=>(hch _ z).2.1 rfl
 exact I.step (ch:=ch) hch (fun b o hL hb hc e n=>u.keep b o e n (fun z=>(AL.mp (I.stkSub b z)).elim hL hb) hc) (fun b o _ _ hc e n=>u.any e n hc) (fun b o hc e n=>u.free b o e n hc) (fun b o hc e=>u.there b o e hc) u.tups u.frzs u.tbls (fun m' hm=>by
  obtain ⟨o',es',ep',ho',r'⟩:=hm
  rw [ho] at ho';cases ho'
  exact ⟨_,es',ep',hL,r'⟩) hok hg
theorem Inv.turned {t':Nat} {it:Addr} (I:Inv X pins σ H s) (k:∀ b o,b≠it->s.heap.get? b=some o->h'.get? b=some o) (hn:H it=none) (hL:it≠X.env.locals)
  (h1:it∈X.ex∨X.s₀.heap.objs.size≤it) (h2:∀ x c,X.env.cells.lookup x=some c->c≠it) (h3:∀ p∈X.pn++pins,p.1≠it):Inv X pins σ H { s with heap:=h',toks:=t' }:=by
 have nit:∀ b u,H b=some u->b≠it:=fun b u e z=>by rw [z,hn] at e;cases e
 refine I.step (g':=s.gens) (d':=s.drawn) (ch:=[it]) (fun b hb => ?_) (fun b o _ _ hc e _=>k b o (fun z=>hc (by simp [z])) e) (fun b o _ _ hc e _=>⟨o.slots,k b o (fun z=>hc (by simp [z])) e⟩) (fun _ _ _ _ n=>n)
  (fun b o hc e=>⟨o,k b o (fun z=>hc (by simp [z])) e⟩) (fun _ _ e=>e) (fun _ _ _ e=>e) (fun b ps e=>⟨#[],by rw [e];simp⟩) (fun m hm => ?_) (fun b u e => ?_) I.bare
 ·have e:b=it:=by simpa using hb
  subst e
  exact ⟨h1,hL,h2,h3⟩
 ·obtain ⟨o,es,ep,ho,r⟩:=hm
  exact ⟨o,es,ep,k _ o (Ne.symm hL) ho,r⟩
 ·refine (I.hok b u e).stay (fun c v hc q=>k c v ?_ q) (fun _ q=>q) fun _ _ q=>q
  rcases hc with z |z
  ·rw [z];exact nit b u e
  ·exact nit c _ z
theorem Inv.tok (I:Inv X pins σ H s) (t:Nat):Inv X pins σ H { s with toks:=t }:=I.un (h':=s.heap) (t':=t) Un.refl I.hok
theorem Inv.kept {t':Nat} (I:Inv X pins σ H s) (k:∀ b u,s.heap.get? b=some u->h'.get? b=some u):Inv X pins σ H { s with heap:=h',toks:=t' }:=I.un (Un.kept k) (I.hok.kept k)
theorem Inv.laid {a:Addr} {o:HO} {t':Nat} (I:Inv X pins σ H s) (k:∀ b u,s.heap.get? b=some u->h'.get? b=some u) (hp:s.heap.objs.size≤a) (new:ObjOk X.prog X.w (upd H a o) h' a o) :
  Inv X pins σ (upd H a o) { s with heap:=h',toks:=t' }:=I.un (Un.laid k hp (I.hok.fresh hp)) (I.hok.laid k hp new)
theorem Inv.write {x e:Addr} {o:HO} {t':Nat} (I:Inv X pins σ H s) (mu:Mut (H x)) (he:e=x∨H e=some (.own x)) (k:∀ b u,b≠e->s.heap.get? b=some u->h'.get? b=some u) (heo:∃ u,h'.get? e=some u)
  (new:ObjOk X.prog X.w (upd H x o) h' x o):Inv X pins σ (upd H x o) { s with heap:=h',toks:=t' }:=I.un (Un.write mu he k heo) (I.hok.write mu he k heo new)
theorem Inv.pins_of {pins':List (Addr×Obj)} (I:Inv X pins σ H s) (h:∀ p∈pins',s.heap.get? p.1=some p.2∧H p.1=none∧p.1≠X.env.locals∧p.1 ∉ X.fs ∧ ∀ v,p.2.data ≠ .cell v):Inv X pins' σ H s :=
 ⟨I.ok,I.os,I.bare,I.base,I.loc,I.cell,I.free,I.freeC,fun p hp=>(Ar.mp hp).elim (fun z=>I.pin p (List.mem_append_left _ z)) (h p),I.hok,I.len,I.hnd⟩
theorem j0 {N:List Str} (hN:N.Nodup) {i j:Nat} {x:Str} (a:N[i]? = some x) (b:N[j]? = some x):i=j:=by
 obtain ⟨h1,e1⟩:=AO.mp a
 obtain ⟨h2,e2⟩:=AO.mp b
 exact (List.getElem_inj hN).mp (e1.trans e2.symm)
theorem qBz {M:Model} {A:Around} {E:Value->Shared->Prop} {i:Nat} {x:Str} {v:V} {u:Value} {Q:Unit->Shared->Prop} (I:Inv X pins σ H s) (hN:X.N.Nodup) (hi:X.N[i]? = some x) (hx:Loc X.env.scope x) (r:RelV v u)
  (h:∀ s',Inv X pins (σ.set i (some v)) H s'->(∃ a,Heap.SameBut a s.heap s'.heap∧(a=X.env.locals∨X.env.cells.lookup x=some a))->Q () s') (hf:X.fn x=true∨X.env.scope.names.lookup x=some .local:=by first |exact .inl rfl |exact .inr rfl |assumption):wpAny M A (storeName X.env x u) Q E s:=by
 obtain ⟨m,hn,hl⟩:=id I.loc
 have hcls:(X.env.scope.kind == .class || (X.env.scope.kind == .module&&X.env.locals != X.env.globals))=false:=by rw [I.ok.kind];rfl
 have hiσ:i < σ.length:=by rw [I.len];exact (AO.mp hi).1
 have cne:=I.cne
 have tracked:∀ {a:Addr} {h':Heap},(∃ o,s.heap.get? a=some o∧H a=none)->Heap.SameBut a s.heap h'->HOk X.prog X.w H h':=fun {a h'} ha hs b ob e=>by
  obtain ⟨_,_,hfree⟩:=ha
  refine (I.hok b ob e).stay (fun c w' hc q=>(hs.2 c ?_).trans q) (fun _ q=>q) fun _ _ q=>q
  rintro rfl
  rcases hc with rfl |hc
  ·rw [hfree] at e;cases e
  ·rw [hfree] at hc;cases hc
 rcases hx with hk |hk
 ·refine wpAny_storeName_local hk hn (fun h' hn' hs => ?_) hcls
  obtain ⟨oL,_,_,hoL,_⟩:=id hn
  refine h _ ⟨I.ok,I.os,I.bare,⟨fun b o e n hb hx => ?_,fun b o e n hb hx => ?_,I.base.free,fun b o e hx => ?_,I.base.tups,I.base.frzs,I.base.tbls⟩,⟨_,hn',fun j y v' e1 e2 e3 => ?_⟩,fun y c e => ?_,I.free,I.freeC,fun p hp => ?_,tracked ⟨oL,hoL,I.free⟩ hs,by simpa using I.len,I.hnd⟩ ⟨_,hs,.inl rfl⟩
  ·exact (hs.2 b (AX (Au (AK e) I.ok.above))).trans (I.base.keep b o e n hb hx)
  ·obtain ⟨sl,e1⟩:=I.base.slot b o e n hb hx
   exact ⟨sl,(hs.2 b (AX (Au (AK e) I.ok.above))).trans e1⟩
  ·obtain ⟨o',e1⟩:=I.base.there b o e hx
   exact ⟨o',(hs.2 b (AX (Au (AK e) I.ok.above))).trans e1⟩
  ·by_cases hj:j=i
   ·subst hj
    rw [hi] at e1;cases e1
    rw [BU hiσ] at e2
    cases e2
    exact ⟨u,r,.inl ⟨hk,by simp⟩⟩
   ·rw [Bd (Ne.symm hj)] at e2
    obtain ⟨u',r',q⟩:=hl j y v' e1 e2 e3
    refine ⟨u',r',?_⟩
    rcases q with ⟨k,e⟩ |⟨k,c,e,z⟩
    ·refine .inl ⟨k,?_⟩
     have:y≠x:=fun e=>hj (j0 hN e1 (e ▸ hi))
     simp [this,e]
    ·exact .inr ⟨k,c,e,z.sameBut hs (cne y c e)⟩
  ·obtain ⟨w',z⟩:=I.cell y c e
   exact ⟨w',z.sameBut hs (cne y c e)⟩
  ·obtain ⟨e,n,ne,nf,d⟩:=I.pin p hp
   exact ⟨(hs.2 p.1 ne).trans e,n,ne,nf,d⟩
 ·have hfn:X.fn x=true:=by
   rcases hf with z |z
   ·exact z
   ·rw [z] at hk;cases hk
  obtain ⟨c,hc⟩:=I.ok.has x (.inl hk)
  obtain ⟨w',z⟩:=I.cell x c hc
  refine wpAny_storeName_cell I.ok.kind hk hc z (fun h' hc' hs => ?_)
  obtain ⟨oc,hoc,hocd⟩:=id z
  refine h { s with heap:=h' } ⟨I.ok,I.os,I.bare,⟨fun b o e n hb hx => ?_,fun b o e n hb hx => ?_,I.base.free,fun b o e hx => ?_,I.base.tups,I.base.frzs,I.base.tbls⟩,⟨m,hn.sameBut hs (Ne.symm (cne x c hc)),fun j y v' e1 e2 e3 => ?_⟩,fun y c' e => ?_,I.free,I.freeC,fun p hp => ?_,tracked ⟨oc,hoc,I.freeC x c hc⟩ hs,by simpa using I.len,I.hnd⟩ ⟨c,hs,.inr hc⟩
  ·exact (hs.2 b (AX (Au (AK e) (I.ok.cab x c hfn hc)))).trans (I.base.keep b o e n hb hx)
  ·obtain ⟨sl,e1⟩:=I.base.slot b o e n hb hx
   exact ⟨sl,(hs.2 b (AX (Au (AK e) (I.ok.cab x c hfn hc)))).trans e1⟩
  ·obtain ⟨o',e1⟩:=I.base.there b o e hx
   exact ⟨o',(hs.2 b (AX (Au (AK e) (I.ok.cab x c hfn hc)))).trans e1⟩
  ·by_cases hj:j=i
   ·subst hj
    rw [hi] at e1;cases e1
    rw [BU hiσ] at e2
    cases e2
    exact ⟨u,r,.inr ⟨.inl hk,c,hc,hc'⟩⟩
   ·rw [Bd (Ne.symm hj)] at e2
    obtain ⟨u',r',q⟩:=hl j y v' e1 e2 e3
    refine ⟨u',r',?_⟩
    rcases q with q |⟨k,c',e,z'⟩
    ·exact .inl q
    ·refine .inr ⟨k,c',e,z'.sameBut hs ?_⟩
     rintro rfl
     exact hj (j0 hN e1 (I.ok.inj _ _ _ e hc ▸ hi))
  ·by_cases hcc:c'=c
   ·subst hcc;exact ⟨_,hc'⟩
   ·obtain ⟨w2,z2⟩:=I.cell y c' e
    exact ⟨w2,z2.sameBut hs hcc⟩
  ·obtain ⟨e,n,ne,nf,d⟩:=I.pin p hp
   refine ⟨(hs.2 p.1 ?_).trans e,n,ne,nf,d⟩
   intro q
   rw [q,hoc] at e
   have q':oc=p.2:=An e
   exact d w' (by rw [← q'];exact hocd)
theorem zS {M:Model} {A:Around} {E:Value->Shared->Prop} {i:Nat} {x:Str} {v:V} {u:Value} {Q:Unit->Shared->Prop} (I:Inv X pins σ H s) (hN:X.N.Nodup) (hi:X.N[i]? = some x) (hx:Loc X.env.scope x) (r:RelV v u)
  (h:∀ s',Inv X pins (σ.set i (some v)) H s'->Q () s') (hf:X.fn x=true∨X.env.scope.names.lookup x=some .local:=by first |exact .inl rfl |exact .inr rfl |assumption):wpAny M A (storeName X.env x u) Q E s :=
 qBz I hN hi hx r (fun s' I' _=>h s' I') hf
end
abbrev XK:=Value->Option Addr->Hp->Prop
abbrev St:=List (Option V)
abbrev VK:=V->Hp->Prop
abbrev TE:=St->Hp->VK->Prop
abbrev TT:=St->Hp->(Bool->Hp->Prop)->Prop
abbrev TA:=St->Hp->(List V->Hp->Prop)->Prop
structure Ends where
 nx:St->Hp->Prop
 rt:VK
 bk:St->Hp->Prop:=fun _ _=>False
 ct:St->Hp->Prop:=fun _ _=>False
abbrev TS:=Ends->St->Hp->Prop
def EP (X:Cx) (pins:List (Addr×Obj)) (σ:St) (Q:VK) (u:Value) (s':Shared):Prop := ∃ v H',Inv X pins σ H' s'∧RelV v u∧Q v H'
def TP (X:Cx) (pins:List (Addr×Obj)) (σ:St) (Q:Bool->Hp->Prop) (b:Bool) (s':Shared):Prop := ∃ H',Inv X pins σ H' s'∧Q b H'
def AP (X:Cx) (pins:List (Addr×Obj)) (σ:St) (Q:List V->Hp->Prop) (us:List Value) (s':Shared):Prop := ∃ vs H',Inv X pins σ H' s'∧Vals vs us∧Q vs H'
def SP (X:Cx) (pins:List (Addr×Obj)) (D:Ends) (f:Flow) (s':Shared):Prop :=
 match f with
 | .next => ∃ σ' H',Inv X pins σ' H' s'∧D.nx σ' H'
 | .brk => ∃ σ' H',Inv X pins σ' H' s'∧D.bk σ' H'
 | .cont => ∃ σ' H',Inv X pins σ' H' s'∧D.ct σ' H'
 | .ret u => ∃ v σ' H',Inv X pins σ' H' s'∧RelV v u∧D.rt v H'
def PE (X:Cx) (e:Expr) (t:TE):Prop :=
 ∀ (pins:List (Addr×Obj)) (s:Shared) (σ:St) (H:Hp) (Q:VK),Inv X pins σ H s->t σ H Q->wpAny (model X.prog X.w) X.A (eval e X.env) (EP X pins σ Q) X.xe s
def PT (X:Cx) (e:Expr) (t:TT):Prop :=
 ∀ (pins:List (Addr×Obj)) (s:Shared) (σ:St) (H:Hp) (Q:Bool->Hp->Prop),Inv X pins σ H s->t σ H Q->wpAny (model X.prog X.w) X.A (isTrue e X.env (eval e X.env)) (TP X pins σ Q) X.xe s
def PW (X:Cx) (e:Expr) (t:TT):Prop :=
 ∀ (whole:Sem Value) (pins:List (Addr×Obj)) (s:Shared) (σ:St) (H:Hp) (Q:Bool->Hp->Prop),Inv X pins σ H s->t σ H Q->wpAny (model X.prog X.w) X.A (isTrue e X.env whole) (TP X pins σ Q) X.xe s
theorem PW.pt {X:Cx} {e:Expr} {t:TT} (h:PW X e t):PT X e t:=h _
def PA (X:Cx) (es:List Expr) (t:TA):Prop :=
 ∀ (pos:Pos) (pins:List (Addr×Obj)) (s:Shared) (σ:St) (H:Hp) (Q:List V->Hp->Prop),Inv X pins σ H s->t σ H Q->wpAny (model X.prog X.w) X.A (spliced (backTo pos (starEach es X.env))) (AP X pins σ Q) X.xe s
def PS (X:Cx) (st:Stmt) (t:TS):Prop :=
 ∀ (pins:List (Addr×Obj)) (s:Shared) (σ:St) (H:Hp) (D:Ends),Inv X pins σ H s->t D σ H->wpAny (model X.prog X.w) X.A (exec st X.env) (SP X pins D) X.xe s
def PSs (X:Cx) (st:List Stmt) (t:TS):Prop :=
 ∀ (pins:List (Addr×Obj)) (s:Shared) (σ:St) (H:Hp) (D:Ends),Inv X pins σ H s->t D σ H->wpAny (model X.prog X.w) X.A (execs st X.env) (SP X pins D) X.xe s
theorem thn {α:Type} {t:Sem α} {Q Q':α->Shared->Prop} {M:Model} {A:Around} {E:Value->Shared->Prop} {s:Shared} (h:wpAny M A t Q E s) (hQ:∀ a s,Q a s->Q' a s):wpAny M A t Q' E s:=Be h hQ fun _ _ x=>x
end L2
namespace L2
open PySem PySem.Spec PyProof.Rows
section
variable {X:Cx}
def qG1 (i:Nat):TE:=fun σ H Q => ∃ v,σ[i]? = some (some v)∧Q v H
def tC (v:V):TE:=fun _ H Q=>Q v H
theorem qG9 {i:Nat} {x:Str} {pos:Pos} (hN:X.N[i]? = some x) (hv:Vis X.env.scope x) (hd:(x==("__debug__":Str))=false:=by decide) (hcd:(x==("__classdict__":Str))=false:=by decide):PE X (.Name x pos) (qG1 i):=by
 intro pins s σ H Q I h
 obtain ⟨v,e,h⟩:=h
 obtain ⟨m,hn,hl⟩:=I.loc
 obtain ⟨u,r,l⟩:=hl i x v hN e hv
 have fin:EP X pins σ Q u s:=⟨v,H,I,r,h⟩
 rcases l with ⟨hk,hm⟩ |⟨hk,c,hc,hcell⟩
 ·exact wpAny_Name (wpAny_loadName_local I.ok.kind hk hn hm fin) hd
 ·rcases hk with hk |hk
  ·exact wpAny_Name (wpAny_loadName_cell I.ok.kind hk hc hcell fin) hd
  ·exact wpAny_Name (wpAny_loadName_free I.ok.kind hk hc hcell fin hcd) hd
theorem qHb {i j pos}:PE X (.Constant (.int i) j pos) (tC (.int i)):=fun _ _ _ H _ I h=>wpAny_Constant_int ⟨.int i,H,I.tok _,⟨_,rfl⟩,h⟩
theorem qIN {b j pos}:PE X (.Constant (.bool b) j pos) (tC (.bl b)):=fun _ _ _ H _ I h=>Constant_bool ⟨.bl b,H,I,rfl,h⟩
theorem qHc {j pos}:PE X (.Constant .none j pos) (tC .non):=fun _ _ _ H _ I h=>Constant_none ⟨.non,H,I,rfl,h⟩
def Gl (X:Cx) (x:Str):Prop:=X.env.kindOf x=some .globalImplicit
theorem qA9 {E:Value->Shared->Prop} {pins:List (Addr×Obj)} {s:Shared} {σ:St} {H:Hp} {x:Str} {u:Value} {pos:Pos} {Q:Value->Shared->Prop} (I:Inv X pins σ H s) (hg:Gl X x) (hm:X.mg x=some u) (h:Q u s)
  (hd:(x==("__debug__":Str))=false:=by decide):wpAny (model X.prog X.w) X.A (eval (.Name x pos) X.env) Q E s :=
 Calls.Name_function_global I.ok.kind hg (Calls.loadGlobal_global (by rw [I.ok.glob];exact I.mod.glob.keeps I.bk) hm h) hd
theorem WC {E:Value->Shared->Prop} {pins:List (Addr×Obj)} {s:Shared} {σ:St} {H:Hp} {x:Str} {u:Value} {pos:Pos} {Q:Value->Shared->Prop} (I:Inv X pins σ H s) (hg:Gl X x) (hm:X.mg x=none) (hv:bootBuiltins x=some u) (h:Q u s)
  (hn:x ≠ "__name__" := by decide) (hd:(x==("__debug__":Str))=false:=by decide):wpAny (model X.prog X.w) X.A (eval (.Name x pos) X.env) Q E s:=by
 obtain ⟨mb,h1,h2⟩:=I.mod.blt
 exact Calls.Name_function_global I.ok.kind hg (Calls.loadGlobal_builtin (by rw [I.ok.glob];exact I.mod.glob.keeps I.bk) hm (by rw [I.ok.blt];exact h1.keeps I.bk) ((h2 x hn).trans hv) h) hd
theorem qEX {x:Str} {v:V} {u:Value} {pos:Pos} (hg:Gl X x) (hm:X.mg x=some u) (r:RelV v u) (hd:(x==("__debug__":Str))=false:=by decide):PE X (.Name x pos) (tC v) :=
 fun _ _ _ H _ I h=>qA9 I hg hm ⟨v,H,I,r,h⟩ hd
theorem qFI {x:Str} {v:V} {u:Value} {pos:Pos} (hg:Gl X x) (hm:X.mg x=none) (hv:bootBuiltins x=some u) (r:RelV v u) (hn:x ≠ "__name__" := by decide) (hd:(x==("__debug__":Str))=false:=by decide):PE X (.Name x pos) (tC v) :=
 fun _ _ _ H _ I h=>WC I hg hm hv ⟨v,H,I,r,h⟩ hn hd
variable {a b:Expr} {ta tb:TE} {pos:Pos}
variable {tA tB':TT} {rest:List Expr}
def qJQ (t u:TT):TT:=fun σ H Q=>t σ H fun c H1=>if c=true then u σ H1 Q else Q false H1
def tOr (t u:TT):TT:=fun σ H Q=>t σ H fun c H1=>if c=true then Q true H1 else u σ H1 Q
def qI9 (t:TT):TT:=fun σ H Q=>t σ H fun c H1=>Q (!c) H1
theorem qEW (ha:PT X a tA):PW X (.BoolOp .And [a] pos) tA:=by
 intro wh pins s σ H Q I h
 refine isTrue_and (thn (ha pins s σ H Q I h) fun c s1 e => ?_)
 cases c with
 |true=>exact isTrue_and_nil e
 |false=>exact e
theorem qGN (ha:PT X a tA):PW X (.BoolOp .Or [a] pos) tA:=by
 intro wh pins s σ H Q I h
 refine isTrue_or (thn (ha pins s σ H Q I h) fun c s1 e => ?_)
 cases c with
 |false=>exact isTrue_or_nil e
 |true=>exact e
theorem qGk (ha:PT X a tA) (hb:PW X (.BoolOp .And (b::rest) pos) tB'):PW X (.BoolOp .And (a::b::rest) pos) (qJQ tA tB'):=by
 intro wh pins s σ H Q I h
 refine isTrue_and (thn (ha pins s σ H _ I h) fun c s1 ⟨H1,I1,q1⟩ => ?_)
 cases c with
 |true=>exact hb wh pins s1 σ H1 Q I1 q1
 |false=>exact ⟨H1,I1,q1⟩
theorem qHw (ha:PT X a tA) (hb:PW X (.BoolOp .Or (b::rest) pos) tB'):PW X (.BoolOp .Or (a::b::rest) pos) (tOr tA tB'):=by
 intro wh pins s σ H Q I h
 refine isTrue_or (thn (ha pins s σ H _ I h) fun c s1 ⟨H1,I1,q1⟩ => ?_)
 cases c with
 |true=>exact ⟨H1,I1,q1⟩
 |false=>exact hb wh pins s1 σ H1 Q I1 q1
theorem qHD (ha:PT X a tA):PT X (.UnaryOp .Not a pos) (qI9 tA):=by
 intro pins s σ H Q I h
 exact isTrue_not (ha pins s σ H (fun c H1=>Q (!c) H1) I h)
def qIf (ta tb:TE):TE:=fun σ H Q=>ta σ H fun x H1 => ∃ c,x = .bl c∧if c=true then tb σ H1 Q else Q (.bl false) H1
def qIo (ta:TE):TE:=fun σ H Q=>ta σ H fun x H1 => ∃ c,x = .bl c∧Q (.bl (!c)) H1
theorem qHN {op} {t:TE} (h:PE X a t):PE X (.BoolOp op [a] pos) t:=fun pins s σ H Q I hw=>BoolOp_one (h pins s σ H Q I hw)
theorem qGZ (ha:PE X a ta) (hb:PE X (.BoolOp .And (b::rest) pos) tb):PE X (.BoolOp .And (a::b::rest) pos) (qIf ta tb):=by
 intro pins s σ H Q I h
 refine BoolOp_and (thn (ha pins s σ H _ I h) fun v s1 ⟨x,H1,I1,r1,q1⟩ => ?_)
 obtain ⟨c,rfl,q1⟩:=q1
 cases r1
 refine CJ ?_
 cases c with
 |true=>exact hb pins s1 σ H1 Q I1 q1
 |false=>exact ⟨.bl false,H1,I1,rfl,q1⟩
theorem qGj (ha:PE X a ta):PE X (.UnaryOp .Not a pos) (qIo ta):=by
 intro pins s σ H Q I h
 refine UnaryOp_ (thn (ha pins s σ H _ I h) fun v s1 ⟨x,H1,I1,r1,q1⟩ => ?_)
 obtain ⟨c,rfl,q1⟩:=q1
 cases r1
 exact not_of (CJ ⟨.bl (!c),H1,I1,rfl,q1⟩)
def tIf (t:TT) (ta tb:TE):TE:=fun σ H Q=>t σ H fun c H1=>if c=true then ta σ H1 Q else tb σ H1 Q
theorem qEF {c:Expr} (hc:PT X c tA) (ha:PE X a ta) (hb:PE X b tb):PE X (.IfExp c a b pos) (tIf tA ta tb):=by
 intro pins s σ H Q I h
 refine wpAny_IfExp (thn (hc pins s σ H _ I h) fun d s1 ⟨H1,I1,q1⟩ => ?_)
 cases d with
 |true=>exact ha pins s1 σ H1 Q I1 q1
 |false=>exact hb pins s1 σ H1 Q I1 q1
end
end L2
namespace L2
open PySem PySem.Spec PyProof.Rows
def SqL (K:W.Frag) (H:Hp) (a:Addr) (xs:List V):Prop :=
 Rd H a (.lst xs) ∨
  ∃ (o:Obj) (its:Array Value) (n:Nat),K.lookup a=some o∧o.cls = .type "list" ∧ o.dict=none∧o.data = .seq its n∧its.size≤sizeLine∧Vals xs its.toList
def SqT (K:W.Frag) (H:Hp) (a:Addr) (xs:List V):Prop :=
 Rd H a (.tup xs) ∨
  ∃ (o:Obj) (its:Array Value) (n:Nat),K.lookup a=some o∧o.cls = .type "tuple" ∧ o.data = .seq its n∧its.size≤sizeLine∧Vals xs its.toList
def qJC:Value->Option V
 | .none=>some .non
 | .bool b=>some (.bl b)
 | .int i _=>some (.int i)
 | .str x _=>some (.str x)
 | .bytes b _=>some (.byt b)
 | .float b _=>some (.flt b)
 | .ref a=>some (.ref a)
 | .type n=>some (.ty n)
 |_=>none
theorem RelV.abs {x:V} {u:Value} (r:RelV x u):qJC u=some x:=by
 cases x with
 |non=>cases r;rfl
 |bl _=>cases r;rfl
 |int _=>obtain ⟨t,rfl⟩:=r;rfl
 |str _=>obtain ⟨t,rfl⟩:=r;rfl
 |byt _=>obtain ⟨t,rfl⟩:=r;rfl
 |flt _=>obtain ⟨t,rfl⟩:=r;rfl
 |ref _=>cases r;rfl
 |ty _=>cases r;rfl
theorem RelV.inj {x y:V} {u:Value} (r:RelV x u) (q:RelV y u):x=y:=An (r.abs.symm.trans q.abs)
theorem Vals.inj:∀ {xs ys:List V} {us:List Value},Vals xs us->Vals ys us->xs=ys
 |_,_,_,.nil,.nil=>rfl
 |_,_,_,.cons r t,.cons r' t'=>by rw [r.inj r',Vals.inj t t']
section
variable {X:Cx} {pins:List (Addr×Obj)} {σ:St} {H:Hp} {s:Shared} {a:Addr} {xs ys:List V}
theorem SqL.of {K:W.Frag} (h:H a=some (.lst xs)):SqL K H a xs := .inl (.inl h)
theorem Inv.list (I:Inv X pins σ H s) (h:SqL X.K H a xs):∃ its:List Value,Vals xs its∧PlainL s.heap a its.toArray∧xs.length≤sizeLine:=by
 rcases h with h |⟨o,its,n,hk,hc,hd,hs,hz,r⟩
 ·obtain ⟨z,its,n,r,e⟩:=h.ok I.hok
  exact ⟨its,r,⟨_,n,e,rfl,rfl,rfl⟩,z⟩
 ·refine ⟨its.toList,r,⟨o,n,I.kIn a o hk,hc,hd,by simpa using hs⟩,?_⟩
  have e:=r.length
  simp only [AR] at e
  omega
theorem Inv.tuple (I:Inv X pins σ H s) (h:SqT X.K H a xs):∃ its:List Value,Vals xs its∧IsTup s.heap a its.toArray∧xs.length≤sizeLine:=by
 rcases h with h |⟨o,its,n,hk,hc,hs,hz,r⟩
 ·obtain ⟨z,its,r,p⟩:=h.ok I.hok
  exact ⟨its,r,p,z⟩
 ·refine ⟨its.toList,r,⟨o,I.kIn a o hk,hc,n,by simpa using hs⟩,?_⟩
  have e:=r.length
  simp only [AR] at e
  omega
theorem Inv.list_inj (I:Inv X pins σ H s) (h:SqL X.K H a xs) (h':SqL X.K H a ys):xs=ys:=by
 obtain ⟨its,r,⟨o,n,e,_,_,d⟩,_⟩:=I.list h
 obtain ⟨its',r',⟨o',n',e',_,_,d'⟩,_⟩:=I.list h'
 rw [e] at e';cases e'
 rw [d] at d'
 injection d' with d1 _
 have:its=its':=by simpa using B3 Array.toList d1
 subst this
 exact r.inj r'
theorem Inv.tuple_inj (I:Inv X pins σ H s) (h:SqT X.K H a xs) (h':SqT X.K H a ys):xs=ys:=by
 obtain ⟨its,r,⟨o,e,_,n,d⟩,_⟩:=I.tuple h
 obtain ⟨its',r',⟨o',e',_,n',d'⟩,_⟩:=I.tuple h'
 rw [e] at e';cases e'
 rw [d] at d'
 injection d' with d1 _
 have:its=its':=by simpa using B3 Array.toList d1
 subst this
 exact r.inj r'
end
abbrev Cx.wish (X:Cx) (E:Value->Shared->Prop):Cx:={ X with xe:=E }
abbrev Cx.nox (X:Cx):Cx:=X.wish fun _ _=>False
theorem Cx.Ok.wish {X:Cx} (ok:X.Ok) (E:Value->Shared->Prop):(X.wish E).Ok :=
 ⟨ok.mod,ok.kind,ok.glob,ok.blt,ok.above,ok.inj,ok.has,ok.cab,ok.hd,ok.frames,ok.stk,ok.exf,ok.bs,ok.bsz,ok.noex,ok.exfs,ok.funs,ok.frf⟩
theorem Cx.Ok.unwish {X:Cx} {E:Value->Shared->Prop} (ok:(X.wish E).Ok):X.Ok :=
 ⟨ok.mod,ok.kind,ok.glob,ok.blt,ok.above,ok.inj,ok.has,ok.cab,ok.hd,ok.frames,ok.stk,ok.exf,ok.bs,ok.bsz,ok.noex,ok.exfs,ok.funs,ok.frf⟩
section
variable {X:Cx} {pins:List (Addr×Obj)} {σ:St} {H:Hp} {s:Shared} {E:Value->Shared->Prop}
theorem Inv.wish (I:Inv X pins σ H s) (E:Value->Shared->Prop):Inv (X.wish E) pins σ H s:=⟨I.ok.wish E,I.os,I.bare,I.base,I.loc,I.cell,I.free,I.freeC,I.pin,I.hok,I.len,I.hnd⟩
theorem Inv.unwish (I:Inv (X.wish E) pins σ H s):Inv X pins σ H s:=⟨I.ok.unwish,I.os,I.bare,I.base,I.loc,I.cell,I.free,I.freeC,I.pin,I.hok,I.len,I.hnd⟩
theorem SP.unwish {D:Ends} {f:Flow} {s':Shared} (h:SP (X.wish E) pins D f s'):SP X pins D f s':=by
 cases f with
 |next=>obtain ⟨σ',H',I,q⟩:=h;exact ⟨σ',H',I.unwish,q⟩
 |brk=>obtain ⟨σ',H',I,q⟩:=h;exact ⟨σ',H',I.unwish,q⟩
 |cont=>obtain ⟨σ',H',I,q⟩:=h;exact ⟨σ',H',I.unwish,q⟩
 |ret u=>obtain ⟨v,σ',H',I,r,q⟩:=h;exact ⟨v,σ',H',I.unwish,r,q⟩
end
section
variable {X:Cx} {st:Stmt} {rest:List Stmt} {t u:TS} {e:Expr} {te:TE} {pos:Pos}
def qH3:TS:=fun D σ H=>D.nx σ H
def qJP (t u:TS):TS:=fun D σ H=>t { D with nx:=u D } σ H
theorem qEb:PSs X [] qH3:=fun _ _ σ H _ I h=>wpAny_execs_nil ⟨σ,H,I,h⟩
theorem qC5 (h1:PS X st t) (h2:PSs X rest u):PSs X (st::rest) (qJP t u):=by
 intro pins s σ H D I h
 refine wpAny_execs_cons (thn (h1 pins s σ H { D with nx:=u D } I h) fun f s1 q => ?_)
 cases f with
 |next =>
  obtain ⟨σ',H',I',q⟩:=q
  exact h2 pins s1 σ' H' D I' q
 |ret v=>exact q
 |brk=>exact q
 |cont=>exact q
theorem qFY (h1:PS X st t):PSs X [st] t:=by
 intro pins s σ H D I h
 refine wpAny_execs_cons (thn (h1 pins s σ H D I h) fun f s1 q => ?_)
 cases f with
 |next=>exact wpAny_execs_nil q
 |ret v=>exact q
 |brk=>exact q
 |cont=>exact q
theorem Inv.quiet {pins:List (Addr×Obj)} {σ:St} {H:Hp} {s:Shared} (I:Inv X pins σ H s):interactive X.env=false:=by simp [interactive,I.ok.kind]
def qHx (te:TE):TS:=fun D σ H=>te σ H fun _ H1=>D.nx σ H1
theorem qEg (he:PE X e te) (hs:swapsWith e none pos.line X.env=pure false:=by rfl):PS X (.Expr e pos) (qHx te):=by
 intro pins s σ H D I h
 exact wpAny_Expr_any (thn (he pins s σ H _ I h) fun v s1 ⟨x,H1,I1,r1,q1⟩=>⟨σ,H1,I1,q1⟩) I.quiet hs
def qI8 (te:TE):TS:=fun D σ H=>te σ H D.rt
theorem qDp (he:PE X e te):PS X (.Return (some e) pos) (qI8 te):=by
 intro pins s σ H D I h
 exact wpAny_Return_some (thn (he pins s σ H _ I h) fun v s1 ⟨x,H1,I1,r1,q1⟩=>⟨x,σ,H1,I1,r1,q1⟩)
def qJA (c:TT) (t u:TS):TS:=fun D σ H=>c σ H fun b H1=>if b=true then t D σ H1 else u D σ H1
theorem qIs {c:Expr} {a b:List Stmt} {tc:TT} (hc:PT X c tc) (ha:PSs X a t) (hb:PSs X b u):PS X (.If c a b pos) (qJA tc t u):=by
 intro pins s σ H D I h
 refine wpAny_If (thn (hc pins s σ H _ I h) fun d s1 ⟨H1,I1,q1⟩ => ?_)
 cases d with
 |true=>exact ha pins s1 σ H1 D I1 q1
 |false=>exact hb pins s1 σ H1 D I1 q1
def qHl:TS:=fun _ _ _=>False
theorem qDB:PS X st qHl:=fun _ _ _ _ _ _ h=>h.elim
end
abbrev TG:=V->St->Hp->(St->Hp->Prop)->Prop
abbrev TGs:=List V->St->Hp->(St->Hp->Prop)->Prop
def PG (X:Cx) (target:Expr) (t:TG):Prop :=
 ∀ (pins:List (Addr×Obj)) (s:Shared) (σ:St) (H:Hp) (v:V) (u:Value) (Q:St->Hp->Prop),Inv X pins σ H s->RelV v u->t v σ H Q ->
  wpAny (model X.prog X.w) X.A (assign target X.env u) (fun _ s' => ∃ σ' H',Inv X pins σ' H' s'∧Q σ' H') X.xe s
def PGs (X:Cx) (ts:List Expr) (t:TGs):Prop :=
 ∀ (pins:List (Addr×Obj)) (s:Shared) (σ:St) (H:Hp) (vs:List V) (us:List Value) (Q:St->Hp->Prop),Inv X pins σ H s->Vals vs us->t vs σ H Q ->
  wpAny (model X.prog X.w) X.A (assignInOrder ((assignEach ts X.env).map (·.2)) us) (fun _ s' => ∃ σ' H',Inv X pins σ' H' s'∧Q σ' H') X.xe s
abbrev qCN:=V->V->V->Hp->(Hp->Prop)->Prop
def qG8 (X:Cx) (t:qCN):Prop :=
 ∀ (pins:List (Addr×Obj)) (s:Shared) (σ:St) (H:Hp) (o i v:V) (ov iv u:Value) (Q:Hp->Prop),Inv X pins σ H s->RelV o ov->RelV i iv->RelV v u->t o i v H Q ->
  wpAny (model X.prog X.w) X.A (setItem ov iv u) (fun _ s' => ∃ H',Inv X pins σ H' s'∧Q H') X.xe s
abbrev TIp:=V->V->Hp->VK->Prop
def PIp (X:Cx) (op:Operator) (t:TIp):Prop :=
 ∀ (pins:List (Addr×Obj)) (s:Shared) (σ:St) (H:Hp) (x y:V) (v u:Value) (Q:VK),Inv X pins σ H s->RelV x v->RelV y u->t x y H Q ->
  wpAny (model X.prog X.w) X.A (inplaceOp op v u) (EP X pins σ Q) X.xe s
section
variable {X:Cx} {pos:Pos}
def qDg (i:Nat):TG:=fun v σ H Q=>Q (σ.set i (some v)) H
theorem qFR {i:Nat} {x:Str} (hN:X.N.Nodup) (hi:X.N[i]? = some x) (hx:Loc X.env.scope x) (hf:X.fn x=true∨X.env.scope.names.lookup x=some .local:=by first |exact .inl rfl |exact .inr rfl |assumption):PG X (.Name x pos) (qDg i):=by
 intro pins s σ H v u Q I r h
 exact wpAny_assign_Name (zS I hN hi hx r (fun s' I'=>⟨_,H,I',h⟩) hf)
def qJU:TGs:=fun vs σ H Q=>vs=[]∧Q σ H
def qIM (t:TG) (u:TGs):TGs:=fun vs σ H Q => ∃ v r,vs=v::r∧t v σ H fun σ' H'=>u r σ' H' Q
theorem qEi:PGs X [] qJU:=by
 intro pins s σ H vs us Q I r h
 obtain ⟨e,h⟩:=h
 subst e
 cases r
 exact assignInOrder_nil ⟨σ,H,I,h⟩
theorem qDO {e:Expr} {es:List Expr} {t:TG} {u:TGs} (h1:PG X e t) (h2:PGs X es u)
  (hs:(assignEach (e::es) X.env).map (·.2)=assign e X.env::(assignEach es X.env).map (·.2):=by rfl):PGs X (e::es) (qIM t u):=by
 intro pins s σ H vs us Q I r h
 obtain ⟨v,vr,e1,h⟩:=h
 subst e1
 cases r with
 |cons r rr =>
  rw [hs]
  refine assignInOrder_cons (thn (h1 pins s σ H _ _ _ I r h) fun _ s1 ⟨σ1,H1,I1,q1⟩ => ?_)
  exact h2 pins s1 σ1 H1 _ _ Q I1 rr q1
def qJI (K:W.Frag) (n:Nat) (t:TGs):TG:=fun v σ H Q => ∃ a xs,v = .ref a∧SqT K H a xs∧xs.length=n∧t xs σ H Q
theorem qHE {es:List Expr} {k:Nat} {t:TGs} {n:Nat} (hc:X.calm=true) (h:PGs X es t)
  (hn:(assignEach es X.env).length=n:=by rfl) (hst:(assignEach es X.env).findIdx? (·.1)=none:=by rfl):PG X (.Tuple es k pos) (qJI X.K n t):=by
 intro pins s σ H v u Q I r hw
 obtain ⟨a,xs,e1,hq,hl,hw⟩:=hw
 subst e1
 cases r
 obtain ⟨its,rv,ht,hz⟩:=I.tuple hq
 refine assign_Tuple_tuple (I.ok.hd hc) ht (by simp [hn,← hl,rv.length]) hst fun h' hx => ?_
 have I1:Inv X pins σ H { s with heap:=h' }:=I.kept (t':=s.toks) fun b o e=>hx b o (AX (AK e)) e
 exact h pins _ σ H xs _ Q I1 (by simpa using rv) hw
def WQ (to ti:TE) (t:qCN):TG:=fun v σ H Q=>to σ H fun o H1=>ti σ H1 fun i H2=>t o i v H2 fun H3=>Q σ H3
theorem qG4 {o i:Expr} {to ti:TE} {t:qCN} (ho:PE X o to) (hi:PE X i ti) (hs:qG8 X t)
  (ha:∀ v,assign (.Subscript o i pos) X.env v=(do
   let ov ← holding [v] (eval o X.env)
   let iv ← holding [v,ov] (eval i X.env)
   standAt pos
   holding [v,ov,iv] (setItem ov iv v)
   release [v,ov,iv] []):=by intro _;rfl):PG X (.Subscript o i pos) (WQ to ti t):=by
 intro pins s σ H v u Q I r h
 rw [ha]
 refine AA (Ao (thn (ho pins s σ H _ I h) fun ov s1 ⟨x,H1,I1,r1,q1⟩ => ?_))
 refine AA (Ao (thn (hi pins s1 σ H1 _ I1 q1) fun iv s2 ⟨y,H2,I2,r2,q2⟩ => ?_))
 refine AA (CS (AA (Ao (thn (hs pins s2 σ H2 x y v ov iv u _ I2 r1 r2 r q2) fun _ s3 ⟨H3,I3,q3⟩ => ?_))))
 exact wpAny_release ⟨σ,H3,I3,q3⟩
def qGo (te:TE) (g:TG):TS:=fun D σ H=>te σ H fun x H1=>g x σ H1 D.nx
theorem qCv {tg e:Expr} {te:TE} {g:TG} (he:PE X e te) (hg:PG X tg g) (hs:swapsWithSole [tg] e pos.line X.env=pure false:=by rfl) (hw:swappedStores [tg] e X.env=pure none:=by rfl)
  (h1:(assignEach [tg] X.env).map (·.2)=[assign tg X.env]:=by rfl):PS X (.Assign [tg] e pos) (qGo te g):=by
 intro pins s σ H D I h
 refine wpAny_Assign_stores (thn (he pins s σ H _ I h) fun v s1 ⟨x,H1,I1,r1,q1⟩ => ?_) hs hw
 rw [h1]
 exact thn (hg pins s1 σ H1 x v _ I1 r1 q1) fun _ s2 q=>q
theorem qD8 {i:Nat} {x:Str} {e:Expr} {te:TE} {pos':Pos} (hN:X.N.Nodup) (hi:X.N[i]? = some x) (hx:Loc X.env.scope x) (he:PE X e te) (hs:swapsWith e (some (.Name x pos')) pos.line X.env=pure false:=by rfl) (hf:X.fn x=true∨X.env.scope.names.lookup x=some .local:=by first |exact .inl rfl |exact .inr rfl |assumption) :
  PS X (.Assign [.Name x pos'] e pos) (qGo te (qDg i)):=by
 intro pins s σ H D I h
 refine wpAny_Assign_Name (thn (he pins s σ H _ I h) fun v s1 ⟨y,H1,I1,r1,q1⟩ => ?_) hs
 exact zS I1 hN hi hx r1 (fun s2 I2=>⟨_,H1,I2,q1⟩) hf
def qJO (i j:Nat) (ta:TA):TS:=fun D σ H=>ta σ H fun vs H1 => ∃ v w,vs=[v,w]∧D.nx ((σ.set i (some v)).set j (some w)) H1
theorem qGL {i j:Nat} {x y:Str} {a b:Expr} {ta:TA} {px py pt:Pos} {kt k2 pt2} (hc:X.calm=true) (hN:X.N.Nodup) (hi:X.N[i]? = some x) (hj:X.N[j]? = some y) (hij:i≠j)
  (hx:X.env.scope.names.lookup x=some .local) (hy:X.env.scope.names.lookup y=some .local) (ha:PA X [a,b] ta)
  (hw:swappedStores [.Tuple [.Name x px,.Name y py] kt pt] (.Tuple [a,b] k2 pt2) X.env=pure (some [x,y]))
  (hs:swapsWithSole [.Tuple [.Name x px,.Name y py] kt pt] (.Tuple [a,b] k2 pt2) pos.line X.env=pure false:=by rfl) :
  PS X (.Assign [.Tuple [.Name x px,.Name y py] kt pt] (.Tuple [a,b] k2 pt2) pos) (qJO i j ta):=by
 intro pins s σ H D I h
 rw [exec_Assign_arm]
 refine AA (CS ?_)
 rw [hs]
 refine AA (AD ?_)
 rw [AH (by decide)]
 refine AA (Tuple_ (thn (ha _ pins s σ H _ I h) fun us s1 ⟨vs,H1,I1,r1,q1⟩ => ?_))
 obtain ⟨v,w,e1,q1⟩:=q1
 subst e1
 obtain ⟨u1,u2,rfl,rv,rw'⟩:∃ u1 u2,us=[u1,u2]∧RelV v u1∧RelV w u2:=by
  cases r1 with
  |cons p q =>
   cases q with
   |cons p' q' =>
    cases q'
    exact ⟨_,_,rfl,p,p'⟩
 refine CI ?_ (by show 2≤sizeLine;decide)
 have I2:Inv X pins σ H1 { s1 with heap:=s1.heap.push { cls := .type "tuple",data := .seq [u1,u2].toArray } }:=I1.kept (t':=s1.toks) fun b o e=>AF _ e
 rw [hw]
 refine AA (AD ?_)
 show wpAny (model X.prog X.w) X.A (do rule "assign.swapped-stores";let items ← unpackItems (.ref s1.heap.objs.size) 2 none;assignInOrder [fun v=>bindName X.env y v,fun v=>bindName X.env x v] items.reverse;pure Flow.next) _ _ _
 refine AA (Cc (AA (unpackItems_tuple (items := #[u1,u2]) (I.ok.hd hc) (IsTup.new s1.heap _) fun h' hx' => ?_)))
 have I3:=I2.kept (h':=h') (t':=s1.toks) fun b o e=>hx' b o (AX (AK e)) e
 show wpAny _ _ (assignInOrder [fun v=>bindName X.env y v,fun v=>bindName X.env x v] [u2,u1] >>= fun _=>pure Flow.next) _ _ _
 refine AA (assignInOrder_cons (wpAny_bindName (zS I3 hN hj (.inl hy) rw' (fun s2 I4 => ?_) (.inr hy))))
 refine assignInOrder_cons (wpAny_bindName (zS I4 hN hi (.inl hx) rv (fun s3 I5=>assignInOrder_nil (AD ?_)) (.inr hx)))
 rw [List.set_comm _ _ (Ne.symm hij)] at I5
 exact ⟨_,H1,I5,q1⟩
def qHv (to ti te:TE) (tget:V->V->Hp->VK->Prop) (tip:TIp) (tset:qCN):TS:=fun D σ H=>to σ H fun o H1=>ti σ H1 fun i H2=>tget o i H2 fun x H3=>te σ H3 fun y H4=>tip x y H4 fun z H5=>tset o i z H5 fun H6=>D.nx σ H6
def qIb (X:Cx) (t:V->V->Hp->VK->Prop):Prop :=
 ∀ (pins:List (Addr×Obj)) (s:Shared) (σ:St) (H:Hp) (o i:V) (ov iv:Value) (Q:VK),Inv X pins σ H s->RelV o ov->RelV i iv->t o i H Q ->
  wpAny (model X.prog X.w) X.A (getItem ov iv) (EP X pins σ Q) X.xe s
theorem qE7 {o i e:Expr} {to ti te:TE} {tget:V->V->Hp->VK->Prop} {tip:TIp} {tset:qCN} {op:Operator} {tpos:Pos} (ho:PE X o to) (hi:PE X i ti) (hg:qIb X tget) (he:PE X e te) (hp:PIp X op tip) (hs:qG8 X tset)
  (ha:∀ ov iv new,augStore i ov iv new=(do holding [new,ov,iv] (setItem ov iv new);release [new,ov,iv] [];pure .next):=by intros;rfl):PS X (.AugAssign (.Subscript o i tpos) op e pos) (qHv to ti te tget tip tset):=by
 intro pins s σ H D I h
 refine wpAny_AugAssign_SubscriptAny (thn (ho pins s σ H _ I h) fun ov s1 ⟨x1,H1,I1,r1,q1⟩ => ?_) ha
 refine thn (hi pins s1 σ H1 _ I1 q1) fun iv s2 ⟨x2,H2,I2,r2,q2⟩ => ?_
 refine thn (hg pins s2 σ H2 x1 x2 ov iv _ I2 r1 r2 q2) fun old s3 ⟨x3,H3,I3,r3,q3⟩ => ?_
 refine thn (he pins s3 σ H3 _ I3 q3) fun v s4 ⟨x4,H4,I4,r4,q4⟩ => ?_
 refine thn (hp pins s4 σ H4 x3 x4 old v _ I4 r3 r4 q4) fun new s5 ⟨x5,H5,I5,r5,q5⟩ => ?_
 exact thn (hs pins s5 σ H5 x1 x2 x5 ov iv new _ I5 r1 r2 r5 q5) fun _ s6 ⟨H6,I6,q6⟩=>⟨σ,H6,I6,q6⟩
def ipI (f:Int->Int->Int):TIp:=fun x y H Q => ∃ i j,x = .int i∧y = .int j∧Q (.int (f i j)) H
theorem qHC:PIp X .Add (ipI fun i j=>i + j):=by
 intro pins s σ H x y v u Q I r1 r2 h
 obtain ⟨i,j,e1,e2,q⟩:=h
 subst e1;subst e2
 obtain ⟨t,rfl⟩:=r1
 obtain ⟨t',rfl⟩:=r2
 exact iadd_int ⟨.int _,H,I.tok _,⟨_,rfl⟩,q⟩
end
structure It where
 go:Nat->Hp->Prop
 yld:Nat->Hp->V->Hp->Prop
 stop:Nat->Hp->Prop
def z8 (X:Cx) (pins:List (Addr×Obj)) (H:Hp) (b:Addr):Prop :=
 H b=none∧b≠X.env.locals∧b ∉ X.fs∧(b∈X.ex∨X.s₀.heap.objs.size≤b)∧(∀ x c,X.env.cells.lookup x=some c->c≠b) ∧ ∀ p∈X.pn++pins,p.1≠b
theorem Inv.fpOk {X:Cx} {pins:List (Addr×Obj)} {σ:St} {H H':Hp} {s:Shared} {b:Addr} (I:Inv X pins σ H s) (hb:s.heap.objs.size≤b) (hn:H' b=none):z8 X pins H' b:=by
 refine ⟨hn,Nat.ne_of_gt (Au I.lt hb),I.nofs hb,.inr (Am I.sz hb),fun x c e z => ?_,fun p hp z => ?_⟩
 ·obtain ⟨v,q⟩:=I.cell x c e
  exact absurd (Au q.lt (by rw [z];exact hb)) (BD _)
 ·exact absurd (Au (AK (I.pin p hp).1) (by rw [z];exact hb)) (BD _)
theorem Inv.hndH {X:Cx} {pins:List (Addr×Obj)} {σ:St} {H:Hp} {s:Shared} (I:Inv X pins σ H s):EX.Hnd X.A s.heap:=fun v hv=>by
 obtain ⟨ea,oe,u,vs,e1,e2,e3⟩:=I.hnd v hv
 exact ⟨ea,oe,vs,e1,(I.hok _ _ e2).1,e3⟩
theorem Inv.hndNe {X:Cx} {pins:List (Addr×Obj)} {σ:St} {H:Hp} {s:Shared} (I:Inv X pins σ H s) {it:Addr} (hn:H it=none):∀ v,X.A.handled=some v->v ≠ .ref it:=fun v hv z=>by
 obtain ⟨ea,oe,u,vs,e1,e2,e3⟩:=I.hnd v hv
 rw [e1] at z;cases z;rw [hn] at e2;cases e2
structure Turn (P:Program) (w:World) (K:W.Frag) (A:Around) (tg:Expr) (J:It) (fp:List Addr) (it:Addr) (tn:Nat->Heap->Prop):Prop where
 mem:it∈fp
 obj:∀ i h,tn i h -> ∀ b∈fp,∃ o,h.get? b=some o ∧ ∀ v,o.data ≠ .cell v
 keep:∀ i h h',tn i h->(∀ b∈fp,∀ o,h.get? b=some o->h'.get? b=some o)->tn i h'
 item:∀ (X:Cx),X.prog=P->X.w=w->X.K=K->X.A=A -> ∀ (i:Nat) (pins:List (Addr×Obj)) (s:Shared) (σ:St) (H:Hp) (E:Value->Shared->Prop),Inv X pins σ H s->(∀ b∈fp,z8 X pins H b)->tn i s.heap->J.go i H ->
  wpAny (model P w) X.A (pyNext (.ref it)) (fun r s1 => ∃ u,r=some u ∧
   wpAny (model P w) X.A (letOwnedTupleGo tg (.ref it) u) (fun _ s2 => ∃ x H',Inv X pins σ H' s2∧RelV x u∧J.yld i H x H'∧tn (i + 1) s2.heap ∧ ∀ b∈fp,H' b=none) E s1) E s
 done:∀ (X:Cx),X.prog=P->X.w=w->X.K=K->X.A=A -> ∀ (i:Nat) (pins:List (Addr×Obj)) (s:Shared) (σ:St) (H:Hp) (E:Value->Shared->Prop),Inv X pins σ H s->(∀ b∈fp,z8 X pins H b)->tn i s.heap->J.stop i H ->
  wpAny (model P w) X.A (pyNext (.ref it)) (fun r s1=>r=none∧Inv X pins σ H s1) E s
 self:∀ (A:Around) (i:Nat) (s:Shared) (Q:Value->Shared->Prop) (E:Value->Shared->Prop),tn i s.heap->Q (.ref it) s->wpAny (model P w) A (pyIter (.ref it)) Q E s
abbrev TI:=St->Hp->(It->Hp->Prop)->Prop
def PIE (X:Cx) (pins:List (Addr×Obj)) (σ:St) (tg:Expr) (R:It->Hp->Prop) (itv:Value) (s2:Shared):Prop :=
 ∃ (it:Addr) (fp:List Addr) (tn:Nat->Heap->Prop) (J:It) (H':Hp),itv = .ref it∧Inv X pins σ H' s2∧Turn X.prog X.w X.K X.A tg J fp it tn∧tn 0 s2.heap∧(∀ b∈fp,z8 X pins H' b)∧R J H'
def PI (X:Cx) (tg iter:Expr) (wi:TI):Prop :=
 ∀ (pins:List (Addr×Obj)) (s:Shared) (σ:St) (H:Hp) (R:It->Hp->Prop),Inv X pins σ H s->wi σ H R ->
  wpAny (model X.prog X.w) X.A (eval iter X.env) (fun v s1=>wpAny (model X.prog X.w) X.A (pyIter v) (PIE X pins σ tg R) X.xe s1) X.xe s
theorem qEL {M : Model} {A : Around} {E : Value->Shared->Prop} {s : Shared} {tg : Expr} {it : Addr} {u : Value} {o : Obj} {n : String} {vs : Array Value} {Q : Unit->Shared->Prop} (ho : s.heap.get? it=some o) (hc : o.cls = .type n) (hd : o.data = .fields vs)
    (hn : ["enumerate", "zip", "dict_itemiterator", "dict_reverseitemiterator", "odict_iterator", "itertools.zip_longest", "itertools.pairwise"].contains n=false) (hQ : Q () s) : wpAny M A (letOwnedTupleGo tg (.ref it) u) Q E s:=by
  unfold letOwnedTupleGo
  cases tg <;> first
    |exact AD hQ
    |(cases u <;> first
        |exact AD hQ
        | (refine AA (wpAny_load ho ?_)
           rw [hc, hd]
           show wpAny M A (if (["enumerate", "zip", "dict_itemiterator", "dict_reverseitemiterator", "odict_iterator", "itertools.zip_longest", "itertools.pairwise"].contains n&&vs[0]? == some (rawInt _))=true then _ else _) Q E s
           rw [AH (by intro h; rw [hn, Bool.false_and] at h; cases h)]
           exact AD hQ))
def Itl (K:W.Frag) (a:Addr):It :=
 ⟨fun i H => ∃ xs x,SqL K H a xs∧xs[i]? = some x,fun i H x H'=>H'=H ∧ ∀ xs,SqL K H a xs->xs[i]? = some x,fun i H => ∃ xs,SqL K H a xs∧xs.length≤i⟩
def Itt (K:W.Frag) (a:Addr):It :=
 ⟨fun i H => ∃ xs x,SqT K H a xs∧xs[i]? = some x,fun i H x H'=>H'=H ∧ ∀ xs,SqT K H a xs->xs[i]? = some x,fun i H => ∃ xs,SqT K H a xs∧xs.length≤i⟩
def Itr (lo:Int) (n:Nat):It:=⟨fun i _=>i < n,fun i H x H'=>H'=H∧x = .int (lo + i),fun i _=>n≤i⟩
theorem qBi {P:Program} {w:World} {K:W.Frag} {A:Around} {tg:Expr} (a it:Addr):Turn P w K A tg (Itl K a) [it] it (fun i h=>h.IsListIter it a i) where
 mem:=by simp
 obj:=fun i h st b hb=>by
  have e:b=it:=by simpa using hb
  subst e
  obtain ⟨o,e,c,d⟩:=st
  exact ⟨o,e,fun v z=>by rw [d] at z;cases z⟩
 keep:=fun i h h' st k=>st.at fun o e=>k it (by simp) o e
 item:=by
  intro X hP hw hK _ i pins s σ H E I hf st hg
  subst hP hw hK
  obtain ⟨xs,x,hq,hx⟩:=hg
  obtain ⟨its,rv,p,hz⟩:=I.list hq
  obtain ⟨u,hu,ru⟩:=rv.get hx
  obtain ⟨f0,f1,f2,f3,f4,f5⟩:=hf it (by simp)
  refine wpAny_pyNext_list_item st p.isList (x:=u) (by simpa using hu) fun h' st' sb => ?_
  have I1:Inv X pins σ H { s with heap:=h' }:=I.turned (t':=s.toks) (fun b o hb e=>(sb.2 b hb).trans e) f0 f1 f3 f4 f5
  obtain ⟨o,e,c,d⟩:=id st'
  exact ⟨u,rfl,qEL (s:={ s with heap:=h' }) e c d (by decide) ⟨x,H,I1,ru,⟨rfl,fun ys hy=>by rw [I.list_inj hy hq];exact hx⟩,st',fun b hb=>(hf b hb).1⟩⟩
 done:=by
  intro X hP hw hK _ i pins s σ H E I hf st hg
  subst hP hw hK
  obtain ⟨xs,hq,hx⟩:=hg
  obtain ⟨its,rv,p,hz⟩:=I.list hq
  obtain ⟨f0,f1,f2,f3,f4,f5⟩:=hf it (by simp)
  have hl:=rv.length
  exact EX.list_end I.hndH st p.isList (by simp;omega) (I.hndNe f0) fun h' eb=>⟨rfl,I.turned (t':=s.toks) (fun b o hb e=>eb b o hb e) f0 f1 f3 f4 f5⟩
 self:=fun _ _ _ _ _ st h=>wpAny_pyIter_listiter st h
theorem Jz {P:Program} {w:World} {K:W.Frag} {A:Around} {tg:Expr} (a it:Addr):Turn P w K A tg (Itt K a) [it] it (fun i h=>h.IsTupleIter it a i) where
 mem:=by simp
 obj:=fun i h st b hb=>by
  have e:b=it:=by simpa using hb
  subst e
  obtain ⟨o,e,c,d⟩:=st
  exact ⟨o,e,fun v z=>by rw [d] at z;cases z⟩
 keep:=fun i h h' st k=>st.at fun o e=>k it (by simp) o e
 item:=by
  intro X hP hw hK _ i pins s σ H E I hf st hg
  subst hP hw hK
  obtain ⟨xs,x,hq,hx⟩:=hg
  obtain ⟨its,rv,p,hz⟩:=I.tuple hq
  obtain ⟨u,hu,ru⟩:=rv.get hx
  obtain ⟨f0,f1,f2,f3,f4,f5⟩:=hf it (by simp)
  refine wpAny_pyNext_tuple_item st (show s.heap.IsTuple a its.toArray from p) (x:=u) (by simpa using hu) fun h' st' sb => ?_
  have I1:Inv X pins σ H { s with heap:=h' }:=I.turned (t':=s.toks) (fun b o hb e=>(sb.2 b hb).trans e) f0 f1 f3 f4 f5
  obtain ⟨o,e,c,d⟩:=id st'
  exact ⟨u,rfl,qEL (s:={ s with heap:=h' }) e c d (by decide) ⟨x,H,I1,ru,⟨rfl,fun ys hy=>by rw [I.tuple_inj hy hq];exact hx⟩,st',fun b hb=>(hf b hb).1⟩⟩
 done:=by
  intro X hP hw hK _ i pins s σ H E I hf st hg
  subst hP hw hK
  obtain ⟨xs,hq,hx⟩:=hg
  obtain ⟨its,rv,p,hz⟩:=I.tuple hq
  obtain ⟨f0,f1,f2,f3,f4,f5⟩:=hf it (by simp)
  have hl:=rv.length
  exact EX.tuple_end I.hndH st (show s.heap.IsTuple a its.toArray from p) (by simp;omega) (I.hndNe f0) fun h' eb=>⟨rfl,I.turned (t':=s.toks) (fun b o hb e=>eb b o hb e) f0 f1 f3 f4 f5⟩
 self:=fun _ _ _ _ _ st h=>wpAny_pyIter_tupleiter st h
theorem qAM {P:Program} {w:World} {K:W.Frag} {A:Around} {tg:Expr} (it:Addr) (lo:Int) (n:Nat):Turn P w K A tg (Itr lo n) [it] it (fun i h=>IsRangeIter h it (lo + (i:Nat) * 1) ((n:Int) - (i:Nat)) 1) where
 mem:=by simp
 obj:=fun i h st b hb=>by
  have e:b=it:=by simpa using hb
  subst e
  exact ⟨_,st,fun v z=>by
   have z':Data.fields _=Data.cell v:=z
   cases z'⟩
 keep:=fun i h h' st k=>k it (by simp) _ st
 item:=by
  intro X hP hw hK _ i pins s σ H E I hf st hg
  subst hP hw hK
  obtain ⟨f0,f1,f2,f3,f4,f5⟩:=hf it (by simp)
  refine wpAny_pyNext_range_item st (by have:i < n:=hg;omega) fun h' st' sb => ?_
  have I1:Inv X pins σ H { s with heap:=h',toks:=s.toks + 1 }:=I.turned (fun b o hb e=>(sb.2 b hb).trans e) f0 f1 f3 f4 f5
  have st2:IsRangeIter h' it (lo + ((i + 1:Nat):Int) * 1) ((n:Int) - ((i + 1:Nat):Int)) 1:=by
   have q1:lo + (i:Int) * 1 + 1=lo + ((i + 1:Nat):Int) * 1:=by omega
   have q2:(n:Int) - (i:Int) - 1=(n:Int) - ((i + 1:Nat):Int):=by omega
   rw [← q1,← q2];exact st'
  refine ⟨_,rfl,qEL (s:={ s with heap:=h',toks:=s.toks + 1 }) (n := "range_iterator") st2 rfl rfl (by decide) ⟨.int (lo + i),H,I1,⟨s.toks,?_⟩,⟨rfl,rfl⟩,st2,fun b hb=>(hf b hb).1⟩⟩
  rw [Int.mul_one]
 done:=by
  intro X hP hw hK _ i pins s σ H E I hf st hg
  subst hP hw hK
  obtain ⟨f0,f1,f2,f3,f4,f5⟩:=hf it (by simp)
  exact EX.range_end I.hndH st (by have:n≤i:=hg;omega) fun h' eb=>⟨rfl,I.turned (t':=s.toks) (fun b o hb e=>eb b o e) f0 f1 f3 f4 f5⟩
 self:=fun _ _ _ _ _ st h=>wpAny_pyIter_rangeiter st h
end L2
namespace L2
open PySem PySem.Spec PyProof.Rows
section
variable {X:Cx} {tg:Expr}
theorem Jb {pins:List (Addr×Obj)} {σ:St} {H:Hp} {s:Shared} {R:It->Hp->Prop} {E:Value->Shared->Prop} {lo hi:Int} {t u v:Tok} {tk:Nat} (I:Inv X pins σ H s) (h1:-(2 ^ 62)≤lo) (h2:lo < 2 ^ 62) (h3:-(2 ^ 62)≤hi) (h4:hi < 2 ^ 62)
  (q:R (Itr lo (hi - lo).toNat) H):wpAny (model X.prog X.w) X.A (pyIter (.ref s.heap.objs.size)) (PIE X pins σ tg R) E { s with heap:=s.heap.push { cls := .type "range",data := .fields #[.int lo t,.int hi u,.int 1 v] },toks:=tk }:=by
 refine wpAny_pyIter_range (IsRange.new ..) (small_one h1 h2 h3 h4) ?_
 have I1:Inv X pins σ H { s with heap:=s.heap.push { cls := .type "range",data := .fields #[.int lo t,.int hi u,.int 1 v] },toks:=tk }:=I.kept fun b o e=>AF _ e
 refine ⟨(s.heap.push { cls := .type "range",data := .fields #[.int lo t,.int hi u,.int 1 v] }).objs.size,[(s.heap.push { cls := .type "range",data := .fields #[.int lo t,.int hi u,.int 1 v] }).objs.size],_,_,H,rfl,
  I1.kept (t':=tk) fun b o e=>AF _ e,qAM _ lo (hi - lo).toNat,?_,fun b hb => ?_,q⟩
 ·have e1:lo + ((0:Nat):Int) * 1=lo:=by simp
  have e2:(((hi - lo).toNat:Nat):Int) - ((0:Nat):Int)=Builtin.Range.rangeSize lo hi 1:=by rw [rangeSize_one];split <;> omega
  show IsRangeIter _ _ (lo + ((0:Nat):Int) * 1) ((((hi - lo).toNat:Nat):Int) - ((0:Nat):Int)) 1
  rw [e1,e2]
  exact AW _ rfl
 ·have e:b=(s.heap.push { cls := .type "range",data := .fields #[.int lo t,.int hi u,.int 1 v] }).objs.size:=by simpa using hb
  subst e
  exact I1.fpOk (AM _) (I1.hok.fresh (AM _))
def qIP (ta:TA):TI:=fun σ H R=>ta σ H fun vs H1 => ∃ j:Int,vs=[.int j] ∧ -(2 ^ 62)≤j∧j < 2 ^ 62∧R (Itr 0 j.toNat) H1
def qHq (ta:TA):TI:=fun σ H R=>ta σ H fun vs H1 => ∃ i j:Int,vs=[.int i,.int j]∧(-(2 ^ 62)≤i∧i < 2 ^ 62 ∧ -(2 ^ 62)≤j∧j < 2 ^ 62)∧R (Itr i (j - i).toNat) H1
theorem qBj {a:Expr} {ta:TA} {p pos:Pos} (hg:Gl X "range") (hm:X.mg "range" = none) (ha:PA X [a] ta) (hs:starEach [a] X.env=[(false,eval a X.env)]:=by rfl):PI X tg (.Call (.Name "range" p) [a] [] pos) (qIP ta):=by
 intro pins s σ H R I h
 refine Call_ (WC I hg hm boot_range (BH (thn (ha pos pins s σ H _ I h) fun us s1 ⟨vs,H1,I1,r1,q1⟩ => ?_) hs rfl))
 obtain ⟨j,e,q1,q2,q⟩:=q1
 subst e
 cases r1 with
 |cons r rr =>
  cases rr
  obtain ⟨t,rfl⟩:=r
  exact call_range_1 (Jb I1 (by omega) (by omega) q1 q2 (by simpa using q))
theorem qBe {a b:Expr} {ta:TA} {p pos:Pos} (hg:Gl X "range") (hm:X.mg "range" = none) (ha:PA X [a,b] ta) (hs:starEach [a,b] X.env=[(false,eval a X.env),(false,eval b X.env)]:=by rfl) (hs2:starEach [b] X.env=[(false,eval b X.env)]:=by rfl) :
  PI X tg (.Call (.Name "range" p) [a,b] [] pos) (qHq ta):=by
 intro pins s σ H R I h
 refine Call_ (WC I hg hm boot_range (BH (thn (ha pos pins s σ H _ I h) fun us s1 ⟨vs,H1,I1,r1,q1⟩ => ?_) (by rw [hs,hs2]) (by rw [hs2];rfl)))
 obtain ⟨i,j,e,⟨q1,q2,q3,q4⟩,q⟩:=q1
 subst e
 cases r1 with
 |cons r rr =>
  cases rr with
  |cons r' rr =>
   cases rr
   obtain ⟨t,rfl⟩:=r
   obtain ⟨t',rfl⟩:=r'
   exact call_range_2 (Jb I1 q1 q2 q3 q4 q)
def qIw (wi:TI) (g:TG) (tb:TS):TS:=fun D σ H=>wi σ H fun J H1 => ∃ W:Nat->Nat->St->Hp->Prop,(∃ m,W 0 m σ H1) ∧ ∀ i m σ H,W i m σ H ->
 (J.stop i H∧D.nx σ H)∨(J.go i H ∧ ∃ N:St->Hp->Prop,(∀ σ' H',N σ' H' -> ∃ m',m' < m∧W (i + 1) m' σ' H') ∧ ∀ x H',J.yld i H x H'->g x σ H' fun σ2 H2=>tb { D with nx:=N,ct:=N,bk:=D.nx } σ2 H2)
def zu (fp:List Addr) (h:Heap):List (Addr×Obj):=fp.filterMap fun b=>(h.get? b).map fun o=>(b,o)
theorem W4 {fp:List Addr} {h:Heap} {b:Addr} {o:Obj} (hb:b∈fp) (e:h.get? b=some o):(b,o)∈zu fp h:=List.mem_filterMap.mpr ⟨b,hb,by rw [e];rfl⟩
theorem qBn {fp:List Addr} {h:Heap} {p:Addr×Obj} (hp:p∈zu fp h):p.1∈fp∧h.get? p.1=some p.2:=by
 obtain ⟨b,hb,e⟩:=List.mem_filterMap.mp hp
 cases q:h.get? b with
 |none=>rw [q] at e;cases e
 |some o =>
  rw [q] at e
  have e':(b,o)=p:=An e
  subst e'
  exact ⟨hb,q⟩
theorem Inv.pinned {pins:List (Addr×Obj)} {σ:St} {H:Hp} {s:Shared} {fp:List Addr} (I:Inv X pins σ H s) (hf:∀ b∈fp,z8 X pins H b) (ho:∀ b∈fp,∃ o,s.heap.get? b=some o ∧ ∀ v,o.data ≠ .cell v):Inv X (pins++zu fp s.heap) σ H s :=
 I.pins_of fun p hp=>(Ar.mp hp).elim (fun z=>I.pin p (A4 _ z)) fun z=>by
  obtain ⟨hb,e⟩:=qBn z
  obtain ⟨f0,f1,f2,_⟩:=hf p.1 hb
  obtain ⟨o,e',d⟩:=ho p.1 hb
  rw [e] at e';cases e'
  exact ⟨e,f0,f1,f2,d⟩
theorem Inv.unpinned {pins pl:List (Addr×Obj)} {σ:St} {H:Hp} {s:Shared} (I:Inv X (pins++pl) σ H s):Inv X pins σ H s:=I.pins_of fun p hp=>I.pin p (A4 _ (List.mem_append_left _ hp))
end
end L2
namespace L2
open PySem PySem.Spec PyProof.Rows
abbrev R2:=V->V->Hp->VK->Prop
def OpR (X:Cx) (f:Value->Value->Sem Value) (r:R2):Prop :=
 ∀ (pins:List (Addr×Obj)) (s:Shared) (σ:St) (H:Hp) (x y:V) (v u:Value) (Q:VK),Inv X pins σ H s->RelV x v->RelV y u->r x y H Q ->
  wpAny (model X.prog X.w) X.A (f v u) (EP X pins σ Q) X.xe s
def UnR (X:Cx) (f:Value->Sem Value) (r:V->Hp->VK->Prop):Prop :=
 ∀ (pins:List (Addr×Obj)) (s:Shared) (σ:St) (H:Hp) (x:V) (v:Value) (Q:VK),Inv X pins σ H s->RelV x v->r x H Q ->
  wpAny (model X.prog X.w) X.A (f v) (EP X pins σ Q) X.xe s
def zT (X:Cx) (f:Value) (r:List V->Hp->VK->Prop):Prop :=
 ∀ (pins:List (Addr×Obj)) (s:Shared) (σ:St) (H:Hp) (xs:List V) (us:List Value) (Q:VK),Inv X pins σ H s->Vals xs us->r xs H Q ->
  wpAny (model X.prog X.w) X.A (call f us) (EP X pins σ Q) X.xe s
def qI2 (X:Cx) (r:V->Hp->(Bool->Hp->Prop)->Prop):Prop :=
 ∀ (pins:List (Addr×Obj)) (s:Shared) (σ:St) (H:Hp) (x:V) (v:Value) (Q:Bool->Hp->Prop),Inv X pins σ H s->RelV x v->r x H Q ->
  wpAny (model X.prog X.w) X.A (truthy v) (TP X pins σ Q) X.xe s
def tOp (r:R2) (ta tb:TE):TE:=fun σ H Q=>ta σ H fun x H1=>tb σ H1 fun y H2=>r x y H2 Q
def tUn (r:V->Hp->VK->Prop) (ta:TE):TE:=fun σ H Q=>ta σ H fun x H1=>r x H1 Q
def rI (C:Int->Int->Prop) (g:Int->Int->V):R2:=fun x y H Q => ∃ i j,x = .int i∧y = .int j∧C i j∧Q (g i j) H
def rI0 (g:Int->Int->V):R2:=fun x y H Q => ∃ i j,x = .int i∧y = .int j∧Q (g i j) H
def rU (g:Int->V):V->Hp->VK->Prop:=fun x H Q => ∃ i,x = .int i∧Q (g i) H
section
variable {X:Cx} {a b c:Expr} {ta tb tc:TE} {pos:Pos}
theorem qHY (ha:PE X a ta) (hb:PE X b tb) {pins:List (Addr×Obj)} {s:Shared} {σ:St} {H:Hp} {R:V->V->Hp->Prop} (I:Inv X pins σ H s)
  (h:ta σ H fun x H1=>tb σ H1 fun y H2=>R x y H2) {Q:Value->Shared->Prop} {f:Value->Value->Sem Value}
  (hf:∀ v u s2 x y H2,Inv X pins σ H2 s2->RelV x v->RelV y u->R x y H2->wpAny (model X.prog X.w) X.A (f v u) Q X.xe s2) :
  wpAny (model X.prog X.w) X.A (eval a X.env) (fun v s₁=>wpAny (model X.prog X.w) X.A (eval b X.env) (fun u s₂=>wpAny (model X.prog X.w) X.A (f v u) Q X.xe s₂) X.xe s₁) X.xe s:=by
 refine thn (ha pins s σ H _ I h) fun v s1 ⟨x,H1,I1,r1,q1⟩ => ?_
 refine thn (hb pins s1 σ H1 _ I1 q1) fun u s2 ⟨y,H2,I2,r2,q2⟩ => ?_
 exact hf v u s2 x y H2 I2 r1 r2 q2
theorem qD4 {op:Operator} {r:R2} (ho:OpR X (binaryOp op) r) (ha:PE X a ta) (hb:PE X b tb):PE X (.BinOp a op b pos) (tOp r ta tb):=by
 intro pins s σ H Q I h
 exact wpAny_BinOp (qHY ha hb I h fun v u s2 x y H2 I2 rx ry q=>ho pins s2 σ H2 x y v u Q I2 rx ry q)
theorem qH2 {op:UnaryOp} {r:V->Hp->VK->Prop} (ho:UnR X (unaryOp op) r) (ha:PE X a ta):PE X (.UnaryOp op a pos) (tUn r ta):=by
 intro pins s σ H Q I h
 exact UnaryOp_ (thn (ha pins s σ H _ I h) fun v s1 ⟨x,H1,I1,r1,q1⟩=>ho pins s1 σ H1 x v Q I1 r1 q1)
theorem opI {f:Value->Value->Sem Value} {C:Int->Int->Prop} {g:Int->Int->Int}
  (rule:∀ (i j:Int) (t u:Tok) (s:Shared) (Q:Value->Shared->Prop) (E:Value->Shared->Prop),C i j->Q (.int (g i j) s.toks) { s with toks:=s.toks + 1 }->wpAny (model X.prog X.w) X.A (f (.int i t) (.int j u)) Q E s) :
  OpR X f (rI C fun i j => .int (g i j)):=by
 intro pins s σ H x y v u Q I rx ry h
 obtain ⟨i,j,rfl,rfl,hc,q⟩:=h
 obtain ⟨t,rfl⟩:=rx
 obtain ⟨t',rfl⟩:=ry
 exact rule i j t t' s _ _ hc ⟨.int (g i j),H,I.tok _,⟨_,rfl⟩,q⟩
theorem qIU {f:Value->Value->Sem Value} {g:Int->Int->Int}
  (rule:∀ (i j:Int) (t u:Tok) (s:Shared) (Q:Value->Shared->Prop) (E:Value->Shared->Prop),Q (.int (g i j) s.toks) { s with toks:=s.toks + 1 }->wpAny (model X.prog X.w) X.A (f (.int i t) (.int j u)) Q E s) :
  OpR X f (rI0 fun i j => .int (g i j)):=by
 intro pins s σ H x y v u Q I rx ry h
 obtain ⟨i,j,rfl,rfl,q⟩:=h
 obtain ⟨t,rfl⟩:=rx
 obtain ⟨t',rfl⟩:=ry
 exact rule i j t t' s _ _ ⟨.int (g i j),H,I.tok _,⟨_,rfl⟩,q⟩
theorem qGc {f:Value->Value->Sem Value} {g:Int->Int->Bool}
  (rule:∀ (i j:Int) (t u:Tok) (s:Shared) (Q:Value->Shared->Prop) (E:Value->Shared->Prop),Q (.bool (g i j)) s->wpAny (model X.prog X.w) X.A (f (.int i t) (.int j u)) Q E s) :
  OpR X f (rI0 fun i j => .bl (g i j)):=by
 intro pins s σ H x y v u Q I rx ry h
 obtain ⟨i,j,rfl,rfl,q⟩:=h
 obtain ⟨t,rfl⟩:=rx
 obtain ⟨t',rfl⟩:=ry
 exact rule i j t t' s _ _ ⟨.bl (g i j),H,I,rfl,q⟩
def qJF (i j:Int):Prop:=0 < j∧j < 1073741824
def CMul (i j:Int):Prop:=(-(2 ^ 64) < i∧i < 2 ^ 64)∨(-(2 ^ 64) < j∧j < 2 ^ 64)
theorem CMul.ok {i j:Int} (h:CMul i j):IntMulOk i j:=by
 rcases h with ⟨h1,h2⟩ |⟨h1,h2⟩
 ·exact .of_left (intBits_le_64 h1 h2)
 ·exact .of_right (intBits_le_64 h1 h2)
theorem qGY:OpR X (binaryOp .Add) (rI0 fun i j => .int (i + j)):=qIU fun _ _ _ _ _ _ _ q=>add_int q
theorem qGE:OpR X (binaryOp .Sub) (rI0 fun i j => .int (i - j)):=qIU fun _ _ _ _ _ _ _ q=>sub_int q
theorem qGU:OpR X (binaryOp .Mult) (rI CMul fun i j => .int (i * j)):=opI fun _ _ _ _ _ _ _ hc q=>mul_int q hc.ok
theorem qFg:OpR X (binaryOp .FloorDiv) (rI qJF fun i j => .int (i / j)):=opI fun i j _ _ _ _ _ hc q=>by
 have h1:(0:Int) < j:=hc.1
 have h2:j < 1073741824:=hc.2
 exact floordiv_int (by omega) (by rw [Int.fdiv_eq_ediv_of_nonneg i (by omega)];exact q) (.inl (PyProof.noPylong_small (by omega)))
theorem qGM:OpR X (binaryOp .Mod) (rI (fun _ j=>0 < j) fun i j => .int (i % j)):=opI fun i j _ _ _ _ _ hc q=>by
 have h1:(0:Int) < j:=hc
 exact mod_int' (by omega) (by rw [Int.fmod_eq_emod_of_nonneg i (by omega)];exact q)
theorem unI {f:Value->Sem Value} {g:Int->Int}
  (rule:∀ (i:Int) (t:Tok) (s:Shared) (Q:Value->Shared->Prop) (E:Value->Shared->Prop),Q (.int (g i) s.toks) { s with toks:=s.toks + 1 }->wpAny (model X.prog X.w) X.A (f (.int i t)) Q E s) :
  UnR X f (rU fun i => .int (g i)):=by
 intro pins s σ H x v Q I rx h
 obtain ⟨i,rfl,q⟩:=h
 obtain ⟨t,rfl⟩:=rx
 exact rule i t s _ _ ⟨.int (g i),H,I.tok _,⟨_,rfl⟩,q⟩
theorem qHi:UnR X (unaryOp .USub) (rU fun i => .int (-i)):=unI fun _ _ _ _ _ q=>neg_int q
theorem qDC {pins:List (Addr×Obj)} {σ:St} {H:Hp} {s:Shared} {Q:VK} {k k':Bool} (I:Inv X pins σ H s) (q:Q (.bl k) H) (e:k=k'):EP X pins σ Q (.bool k') s:=by
 subst e
 exact ⟨.bl k,H,I,rfl,q⟩
theorem qFw:OpR X (compareOp .Lt) (rI0 fun i j => .bl (decide (i < j))):=qGc fun _ _ _ _ _ _ _ q=>lt_int q
theorem qDX:OpR X (compareOp .LtE) (rI0 fun i j => .bl (decide (i≤j))):=qGc fun _ _ _ _ _ _ _ q=>le_int q
theorem qFp:OpR X (compareOp .Gt) (rI0 fun i j => .bl (decide (j < i))):=qGc fun _ _ _ _ _ _ _ q=>gt_int q
theorem qCM:OpR X (compareOp .Is) (fun x y H Q=>y = .non∧Q (.bl (decide (x = .non))) H):=by
 intro pins s σ H x y v u Q I rx ry h
 obtain ⟨rfl,q⟩:=h
 cases ry
 refine is_none_gen (qDC I q ?_)
 cases x <;> first
  |(cases rx;rfl)
  |(obtain ⟨t,rfl⟩:=rx;rfl)
theorem Y8:OpR X (compareOp .IsNot) (fun x y H Q=>y = .non∧Q (.bl (!decide (x = .non))) H):=by
 intro pins s σ H x y v u Q I rx ry h
 obtain ⟨rfl,q⟩:=h
 cases ry
 refine isnot_none_gen (qDC I q ?_)
 cases x <;> first
  |(cases rx;rfl)
  |(obtain ⟨t,rfl⟩:=rx;rfl)
theorem qu (b:Expr) {op:CmpOp} (h:op ≠ .In:=by decide) (h2:op ≠ .NotIn:=by decide):behindInMarks op b=false:=by
 have e1:(op==CmpOp.In)=false:=by cases op <;> first |rfl |exact absurd rfl h
 have e2:(op==CmpOp.NotIn)=false:=by cases op <;> first |rfl |exact absurd rfl h2
 cases b <;> simp [behindInMarks,e1,e2]
theorem qES {op:CmpOp} {r:R2} (ho:OpR X (compareOp op) r) (ha:PE X a ta) (hb:PE X b tb) (hm:behindInMarks op b=false):PE X (.Compare a [op] [b] pos) (tOp r ta tb):=by
 intro pins s σ H Q I h
 exact wpAny_Compare1 (qHY ha hb I h fun v u s2 x y H2 I2 rx ry q=>ho pins s2 σ H2 x y v u Q I2 rx ry q) hm
def qIp (t:TE):TT:=fun σ H Q=>t σ H fun x H' => ∃ k,x = .bl k∧Q k H'
theorem qFX {op:CmpOp} {r:R2} (ho:OpR X (compareOp op) r) (ha:PE X a ta) (hb:PE X b tb) (hm:behindInMarks op b=false):PT X (.Compare a [op] [b] pos) (qIp (tOp r ta tb)):=by
 intro pins s σ H Q I h
 refine wpAny_isTrue_Compare1 (thn (ha pins s σ H _ I h) fun v s1 ⟨x,H1,I1,r1,q1⟩=>thn (hb pins s1 σ H1 _ I1 q1) fun u s2 ⟨y,H2,I2,r2,q2⟩ =>
  thn (ho pins s2 σ H2 x y v u _ I2 r1 r2 q2) fun c s3 ⟨z,H3,I3,r3,k,e,q3⟩ => ?_) hm
 subst e
 cases r3
 exact CJ ⟨H3,I3,q3⟩
def qGs (r r':R2) (ta tb tc:TE):TE:=fun σ H Q=>ta σ H fun x H1=>tb σ H1 fun y H2=>r x y H2 fun z H3 => ∃ k,z = .bl k ∧
 (if k=true then tc σ H3 fun w' H4=>r' y w' H4 Q else Q (.bl false) H3)
theorem qCW {op op':CmpOp} {r r':R2} (ho:OpR X (compareOp op) r) (ho':OpR X (compareOp op') r') (ha:PE X a ta) (hb:PE X b tb) (hc:PE X c tc)
  (hm:lastMarks [op,op'] [b,c]=false:=by with_unfolding_all rfl):PE X (.Compare a [op,op'] [b,c] pos) (qGs r r' ta tb tc):=by
 intro pins s σ H Q I h
 refine Compare_chain (thn (ha pins s σ H _ I h) fun v s1 ⟨x,H1,I1,r1,q1⟩=>chain_link (thn (hb pins s1 σ H1 _ I1 q1) fun u s2 ⟨y,H2,I2,r2,q2⟩ =>
  thn (ho pins s2 σ H2 x y v u _ I2 r1 r2 q2) fun d s3 ⟨z,H3,I3,r3,k,e,q3⟩ => ?_)) hm
 subst e
 cases r3
 refine CJ ?_
 cases k with
 |false=>exact ite_ff ⟨.bl false,H3,I3,rfl,q3⟩
 |true=>exact ite_tt (chain_last (thn (hc pins s3 σ H3 _ I3 q3) fun w' s4 ⟨z',H4,I4,r4,q4⟩=>ho' pins s4 σ H4 y z' u w' Q I4 r2 r4 q4))
def qEj (K:W.Frag) (x:V) (H:Hp) (k:Bool):Prop :=
 match x with
 | .non=>k=false
 | .bl b=>k=b
 | .int i=>k=(i != 0)
 | .str y=>y.length≤sizeLine∧k=((y.length:Int) != 0)
 | .byt y=>y.size≤sizeLine∧k=((y.size:Int) != 0)
 | .ref p=>(∃ xs,SqL K H p xs∧k = !xs.isEmpty)∨(∃ xs,SqT K H p xs∧k = !xs.isEmpty) ∨ ∃ kvs,H p=some (.dK kvs)∧k = !kvs.isEmpty
 |_=>False
theorem Jy {κ:Type} {kvs:List (κ×V)} {vs:List (κ×Value)} (r:KV kvs vs):(!vs.isEmpty) = !kvs.isEmpty:=by
 cases r <;> rfl
theorem yT {xs:List V} {its:List Value} (r:Vals xs its):(!its.toArray.isEmpty) = !xs.isEmpty:=by
 cases r <;> simp
theorem zq:(sizeLine:Nat) < 2 ^ 63:=by rw [Bo];decide
theorem qHk:qI2 X (fun x H Q => ∃ k,qEj X.K x H k∧Q k H):=by
 intro pins s σ H x v Q I rx h
 obtain ⟨k,e,q⟩:=h
 have hl:=zq
 have hs:sizeLine=16777216:=Bo
 cases x with
 |non =>
  cases rx
  have e':k=false:=e
  subst e'
  exact truthy_none ⟨H,I,q⟩
 |bl b =>
  cases rx
  have e':k=b:=e
  subst e'
  exact CJ ⟨H,I,q⟩
 |int i =>
  obtain ⟨t,rfl⟩:=rx
  have e':k=(i != 0):=e
  subst e'
  exact PySem.P.truthy_int ⟨H,I,q⟩
 |str y =>
  obtain ⟨t,rfl⟩:=rx
  obtain ⟨hy,e'⟩:y.length≤sizeLine∧k=((y.length:Int) != 0):=e
  subst e'
  exact PySem.P.truthy_str (by omega) ⟨H,I.tok _,q⟩
 |byt y =>
  obtain ⟨t,rfl⟩:=rx
  obtain ⟨hy,e'⟩:y.size≤sizeLine∧k=((y.size:Int) != 0):=e
  subst e'
  exact W.truthy_bytes (by omega) ⟨H,I.tok _,q⟩
 |ref p =>
  cases rx
  have e':(∃ xs,SqL X.K H p xs∧k = !xs.isEmpty)∨(∃ xs,SqT X.K H p xs∧k = !xs.isEmpty) ∨ ∃ kvs,H p=some (.dK kvs)∧k = !kvs.isEmpty:=e
  rcases e' with ⟨xs,hx,e'⟩ |⟨xs,hx,e'⟩ |⟨kvs,hx,e'⟩
  ·subst e'
   obtain ⟨its,r,pl,hz⟩:=I.list hx
   have hlen:=r.length
   exact wpAny_truthy_list pl.isList (by simp only [AV];omega) ⟨H,I.tok _,by rw [yT r];exact q⟩
  ·subst e'
   obtain ⟨its,r,pl,hz⟩:=I.tuple hx
   have hlen:=r.length
   exact truthy_tuple pl (by simp only [AV];omega) ⟨H,I.tok _,by rw [yT r];exact q⟩
  ·subst e'
   obtain ⟨hz,hS,vs,r,m⟩:kvs.length≤sizeLine∧(p==sysModules)=false ∧ ∃ vs,KV kvs vs∧s.heap.DictOf (jP X.prog X.w) p vs:=I.hok p _ hx
   have hlen:kvs.length=vs.length:=Paired.length r
   exact wpAny_truthy_dict hS m (by omega) ⟨H,I.tok _,by rw [Jy r];exact q⟩
 |_=>exact (show False from e).elim
theorem qCm (ha:PE X a ta) (he:∀ whole,isTrue a X.env whole=(do let v ← whole;standAt a.pos;holding [v] (truthy v))) :
  PT X a (fun σ H Q=>ta σ H fun x H' => ∃ k,qEj X.K x H' k∧Q k H'):=by
 intro pins s σ H Q I h
 exact isTrue_plain (thn (ha pins s σ H _ I h) fun v s1 ⟨x,H1,I1,r1,q1⟩=>qHk pins s1 σ H1 x v Q I1 r1 q1) (he _)
theorem qBT {x:V} {us:List Value} (r:Vals [x] us):∃ u,us=[u]∧RelV x u:=by
 cases r with
 |cons r1 r2=>cases r2;exact ⟨_,rfl,r1⟩
theorem qA6 {x y:V} {us:List Value} (r:Vals [x,y] us):∃ u w',us=[u,w']∧RelV x u∧RelV y w':=by
 cases r with
 |cons r1 r2 =>
  cases r2 with
  |cons r3 r4=>cases r4;exact ⟨_,_,rfl,r1,r3⟩
theorem qBw (hc:X.calm=true):zT X (.builtin "max") (fun xs H Q => ∃ i j,xs=[.int i,.int j]∧Q (.int (if j > i then j else i)) H):=by
 intro pins s σ H xs us Q I r h
 obtain ⟨i,j,rfl,q⟩:=h
 obtain ⟨u,w',rfl,⟨t,rfl⟩,⟨t',rfl⟩⟩:=qA6 r
 refine max_two_ints (I.ok.hd hc) fun h' tk k=>⟨_,H,I.kept k,?_,q⟩
 by_cases hj:j > i
 ·rw [AG hj,AG hj];exact ⟨_,rfl⟩
 ·rw [AH hj,AH hj];exact ⟨_,rfl⟩
theorem qB4 (hc:X.calm=true):zT X (.builtin "min") (fun xs H Q => ∃ i j,xs=[.int i,.int j]∧Q (.int (if j < i then j else i)) H):=by
 intro pins s σ H xs us Q I r h
 obtain ⟨i,j,rfl,q⟩:=h
 obtain ⟨u,w',rfl,⟨t,rfl⟩,⟨t',rfl⟩⟩:=qA6 r
 refine min_two_ints (I.ok.hd hc) fun h' tk k=>⟨_,H,I.kept k,?_,q⟩
 by_cases hj:j < i
 ·rw [AG hj,AG hj];exact ⟨_,rfl⟩
 ·rw [AH hj,AH hj];exact ⟨_,rfl⟩
end
end L2
namespace L2
open PySem PySem.Spec PyProof.Rows
end L2
namespace L2
open PySem PySem.Spec PyProof.Rows
structure Room (k:Nat) (A:Around):Prop where
 hd:1 < k->A.handled=none
 dp:A.depth + 3 * k + 5 < recursionLimit
 un:A.units + 16 * k + 200 < cLine
 gd:A.guards=some []
theorem Room.mono {j k:Nat} {A:Around} (r:Room k A) (h:j≤k):Room j A:=⟨fun z=>r.hd (by omega),by have:=r.dp;omega,by have:=r.un;omega,r.gd⟩
theorem Room.deeper {k:Nat} {A:Around} (r:Room (k + 1) A) (env:Env):Room k (A.deeper env) :=
 ⟨fun z=>r.hd (by omega),by have:=r.dp;show A.depth + 1 + 3 * k + 5 < _;omega,by have:=r.un;show A.units + 3 + 16 * k + 200 < _;omega,r.gd⟩
theorem Room.depth {k:Nat} {A:Around} (r:Room k A):A.depth < recursionLimit:=by have:=r.dp;omega
theorem Room.units {k:Nat} {A:Around} (r:Room k A):A.units + 64 < cLine:=by have:=r.un;omega
def qJT:TA:=fun _ H Q=>Q [] H
def qIh (ta:TE) (tr:TA):TA:=fun σ H Q=>ta σ H fun x H1=>tr σ H1 fun xs H2=>Q (x::xs) H2
section
variable {X:Cx} {e:Expr} {es:List Expr} {te:TE} {t:TA} {pos:Pos}
theorem qCs:PA X [] qJT:=fun _ _ _ _ H Q I h=>By ⟨[],H,I,.nil,h⟩
theorem qAs (ha:PE X e te) (hr:PA X es t) (hs:starEach (e::es) X.env=(false,eval e X.env)::starEach es X.env:=by rfl):PA X (e::es) (qIh te t):=by
 intro pos pins s σ H Q I h
 rw [hs]
 show wpAny _ _ (spliced ((false,eval e X.env)::backTo pos (starEach es X.env))) _ _ s
 refine Bp (thn (ha pins s σ H _ I h) fun u s1 ⟨x,H1,I1,r1,q1⟩ => ?_)
 exact thn (hr pos pins s1 σ H1 _ I1 q1) fun us s2 ⟨xs,H2,I2,r2,q2⟩=>⟨x::xs,H2,I2,.cons r1 r2,q2⟩
def qIz (t:TA):TE:=fun σ H Q=>t σ H fun xs H1=>xs.length≤sizeLine ∧ ∀ p,H1 p=none->Q (.ref p) (upd H1 p (.tup xs))
def qJS (t:TA):TE:=fun σ H Q=>t σ H fun xs H1=>xs.length≤sizeLine ∧ ∀ p,H1 p=none->Q (.ref p) (upd H1 p (.lst xs))
theorem qG6 {x1} (h:PA X es t):PE X (.Tuple es x1 pos) (qIz t):=by
 intro pins s σ H Q I hq
 refine wpAny_Tuple_spliced (thn (h pos pins s σ H _ I hq) fun us s1 ⟨xs,H1,I1,r,z,q⟩=>⟨by rw [← r.length];exact z,?_⟩)
 have hf:H1 s1.heap.objs.size=none:=I1.hok.fresh (AM _)
 refine ⟨.ref s1.heap.objs.size,upd H1 s1.heap.objs.size (.tup xs),I1.laid (t':=s1.toks) (fun b u e=>AF _ e) (AM _) ?_,rfl,q _ hf⟩
 exact ⟨z,us,r,⟨_,AW _ rfl,rfl,_,rfl⟩⟩
theorem qHW (h:PA X es t):PE X (.List es pos) (qJS t):=by
 intro pins s σ H Q I hq
 refine wpAny_List_spliced (thn (h pos pins s σ H _ I hq) fun us s1 ⟨xs,H1,I1,r,z,q⟩=>⟨by rw [← r.length];exact z,?_⟩)
 have hf:H1 s1.heap.objs.size=none:=I1.hok.fresh (AM _)
 refine ⟨.ref s1.heap.objs.size,upd H1 s1.heap.objs.size (.lst xs),I1.laid (t':=s1.toks) (fun b u e=>AF _ e) (AM _) ?_,rfl,q _ hf⟩
 exact ⟨z,us,0,r,AW _ rfl⟩
end
abbrev Sp:=List V->Hp->VK->XK->Prop
abbrev CXT:=List Env->Hp->Shared->XK->Value->Shared->Prop
structure Env0 (P:Program) (w:World) (K:W.Frag) (mg:Str->Option Value) (base:Heap) (A:Around) (outer:List Env) (s:Shared) (H:Hp):Prop where
 frames:A.frames=some outer
 mod:Mod K mg base
 bs:∀ b o,base.get? b=some o->s.heap.get? b=some o∧H b=none
 bsz:base.objs.size≤s.heap.objs.size
 funs:s.heap.FunFrames base outer
 frf:∀ b∈frs outer,H b=none
 hok:HOk P w H s.heap
 bare:AllBare s.gens
 hnd:HndH A H
def CE (outer:List Env) (P:Program) (w:World) (H:Hp) (s:Shared) (Q:VK) (u:Value) (s':Shared):Prop :=
 ∃ v H',s'.os=s.os∧AllBare s'.gens∧Un (frs outer) [] H H' s.heap s'.heap∧HOk P w H' s'.heap∧RelV v u∧Q v H'
def CR (CX:CXT) (outer:List Env) (P:Program) (w:World) (H:Hp) (s:Shared) (Q:VK) (E:XK) (r:Result) (s':Shared):Prop :=
 match r with
 | .ok (.ret u)=>CE outer P w H s Q u s'
 | .ok _=>False
 | .error e=>CX outer H s E e s'
structure FnOk (P:Program) (w:World) (K:W.Frag) (mg:Str->Option Value) (base:Heap) (CX:CXT) (k:Nat) (f:Addr) (fd:FuncData) (ps:List Str) (sp:Sp):Prop where
 len:∀ vs H Q E,sp vs H Q E->vs.length=ps.length
 run:∀ (A:Around) (outer:List Env) (s:Shared) (H:Hp) (args:Args) (us:List Value) (vs:List V) (Q:VK) (E:XK),Room k A->Env0 P w K mg base A outer s H->BindsTo s fd args (ps.zip us)->Vals vs us->sp vs H Q E ->
  codeAny (model P w) A (.call (.ref f) args) (CR CX outer P w H s Q E) s
section
variable {X:Cx} {pins:List (Addr×Obj)} {σ:St} {H:Hp} {s s':Shared}
theorem Inv.env0 (I:Inv X pins σ H s):Env0 X.prog X.w X.K X.mg X.base X.A X.stack s H :=
 ⟨I.ok.frames,I.ok.mod,I.bs,Am I.ok.bsz I.sz,I.stack,I.stkFree,I.hok,I.bare,I.hnd⟩
theorem Inv.after {Q:VK} {u:Value} (I:Inv X pins σ H s) (h:CE X.stack X.prog X.w H s Q u s'):EP X pins σ Q u s':=by
 obtain ⟨v,H',os,bare,un,hok,r,q⟩:=h
 obtain ⟨hh,g,d,t,os'⟩:=s'
 obtain rfl:os'=s.os:=os
 exact ⟨v,H',I.call (h':=hh) (g':=g) (d':=d) (t':=t) (ch:=[]) un hok bare (fun b z=>absurd z (by simp)),r,q⟩
end
def qIF (sp:Sp) (dvs:List V) (E:XK) (t:TA):TE:=fun σ H Q=>t σ H fun vs H1=>sp (vs++dvs) H1 Q E
def Binds (K:W.Frag) (fd:FuncData) (ps:List Str) (ds:List Value):Prop :=
 ∀ (s:Shared) (us:List Value),K.In s.heap->(us++ds).length=ps.length->BindsTo s fd ⟨us,[]⟩ (ps.zip (us++ds))
theorem Binds.all {K:W.Frag} {fd:FuncData} {ps:List Str} (h:∀ us:List Value,us.length=ps.length->bindArgs fd ⟨us,[]⟩=pure (ps.zip us)):Binds K fd ps []:=fun s us _ hl=>by
 rw [A8] at hl ⊢
 exact .of_eq (h us hl)
def ZZ (CX:CXT) (X:Cx) (E:XK):Prop := ∀ (pins:List (Addr×Obj)) (σ:St) (H:Hp) (s:Shared) (e:Value) (s':Shared),Inv X pins σ H s->CX X.stack H s E e s'->X.xe e s'
section
variable {X:Cx} {CX:CXT} {k:Nat} {f C:Addr} {fd:FuncData} {ps:List Str} {sp:Sp} {dvs:List V} {ds:List Value} {E:XK} {x m:Str} {p pos apos:Pos} {e o:Expr} {es:List Expr} {ta:TE} {t:TA}
theorem qGX {pins:List (Addr×Obj)} {σ:St} {H:Hp} {s:Shared} {Q:VK} {us:List Value} {vs:List V} (F:FnOk X.prog X.w X.K X.mg X.base CX k f fd ps sp) (hr:Room k X.A) (hb:Binds X.K fd ps ds) (hd:Vals dvs ds) (hx:ZZ CX X E)
  (I:Inv X pins σ H s) (r:Vals vs us) (h:sp (vs++dvs) H Q E):wpAny (model X.prog X.w) X.A (call (.ref f) us) (EP X pins σ Q) X.xe s:=by
 have r2:Vals (vs++dvs) (us++ds):=r.append hd
 have hl:(us++ds).length=ps.length:=by rw [← r2.length];exact F.len _ _ _ _ h
 refine Bf (codeAny_mono (F.run X.A X.stack s H ⟨us,[]⟩ (us++ds) (vs++dvs) Q E hr I.env0 (hb s us I.kIn hl) r2 h) fun r s' hq => ?_)
 cases r with
 |error e=>exact hx pins σ H s e s' I hq
 |ok fl =>
  cases fl with
  |ret u=>exact I.after hq
  |next=>exact False.elim hq
  |brk=>exact False.elim hq
  |cont=>exact False.elim hq
theorem qEU (F:FnOk X.prog X.w X.K X.mg X.base CX k f fd ps sp) (hr:Room k X.A) (hg:Gl X x) (hm:X.mg x=some (.ref f)) (hk:W.keepIn X.K (.ref f)=true) (hb:Binds X.K fd ps ds) (hd:Vals dvs ds) (hx:ZZ CX X E)
  (ha:PA X (e::es) t) (hdb:(x==("__debug__":Str))=false:=by decide) (he:starEach (e::es) X.env=(false,eval e X.env)::starEach es X.env:=by rfl) (hpl:(backTo pos (starEach es X.env)).any (·.1)=false:=by rfl) :
  PE X (.Call (.Name x p) (e::es) [] pos) (qIF sp dvs E t):=by
 intro pins s σ H Q I h
 refine BI (qA9 I hg hm ?_ hdb)
 refine W.callWith_K (h₀:=X.base) I.ok.mod.kin hk (thn (ha pos pins s σ H _ I h) fun us s1 ⟨vs,H1,I1,r,q⟩=>⟨I1.kIn,?_⟩) he hpl
 exact qGX F hr hb hd hx I1 r q
end
structure FnScope (N P:List Str) (sc:Scope):Prop where
 kind:sc.kind = .function
 co:sc.isCoroutine=false
 gen:sc.isGenerator=false
 nd:N.Nodup
 pre:N.take P.length=P
 par:∀ x∈P,sc.names.lookup x=some .local∨sc.names.lookup x=some .cell
 nofree:∀ y∈sc.names,y.2 ≠ .free
theorem YZ {kindOf:Str->Option NameKind} {x:Str}:∀ {binds:List (Str×Value)} {m:Str->Option Value},(∀ v,(x,v) ∉ binds)->bindL kindOf binds m x=m x
 |[],_,_=>rfl
 |(n,v)::r,m,h=>by
  unfold bindL
  rw [YZ fun w hw=>h w (AB _ hw)]
  split
  ·have:x≠n:=by rintro rfl;exact h v AE
   simp [this]
  ·rfl
theorem Yh {kindOf:Str->Option NameKind} {x:Str}:∀ {binds:List (Str×Value)} {m:Str->Option Value},(∀ v,(x,v) ∉ binds)->bindC kindOf binds m x=m x
 |[],_,_=>rfl
 |(n,v)::r,m,h=>by
  unfold bindC
  rw [Yh fun w hw=>h w (AB _ hw)]
  split
  ·rfl
  ·have:x≠n:=by rintro rfl;exact h v AE
   simp [this]
theorem Yn {kindOf:Str->Option NameKind} {x:Str} {v:Value}:∀ {P:List Str} {vs:List Value} {i:Nat} {m:Str->Option Value},P.Nodup->P[i]? = some x->vs[i]? = some v->kindOf x=some .local ->
  bindL kindOf (P.zip vs) m x=some v
 |[],_,_,_,_,h,_,_=>by simp at h
 |_::_,[],_,_,_,_,h,_=>by simp at h
 |p::P,w::vs,0,m,nd,h1,h2,hk=>by
  simp at h1 h2;subst h1;subst h2
  show bindL kindOf ((p,w)::P.zip vs) m p=_
  unfold bindL
  rw [YZ fun v hv=>(Bg.mp nd).1 (List.of_mem_zip hv).1,AG hk]
  simp
 |p::P,w::vs,i + 1,m,nd,h1,h2,hk=>by
  show bindL kindOf ((p,w)::P.zip vs) m x=_
  unfold bindL
  exact Yn (i:=i) (Bg.mp nd).2 (by simpa using h1) (by simpa using h2) hk
theorem Yq {kindOf:Str->Option NameKind} {x:Str} {v:Value}:∀ {P:List Str} {vs:List Value} {i:Nat} {m:Str->Option Value},P.Nodup->P[i]? = some x->vs[i]? = some v->kindOf x≠some .local ->
  bindC kindOf (P.zip vs) m x=some v
 |[],_,_,_,_,h,_,_=>by simp at h
 |_::_,[],_,_,_,_,h,_=>by simp at h
 |p::P,w::vs,0,m,nd,h1,h2,hk=>by
  simp at h1 h2;subst h1;subst h2
  show bindC kindOf ((p,w)::P.zip vs) m p=_
  unfold bindC
  rw [Yh fun v hv=>(Bg.mp nd).1 (List.of_mem_zip hv).1,AH hk]
  simp
 |p::P,w::vs,i + 1,m,nd,h1,h2,hk=>by
  show bindC kindOf ((p,w)::P.zip vs) m x=_
  unfold bindC
  exact Yq (i:=i) (Bg.mp nd).2 (by simpa using h1) (by simpa using h2) hk
def start (N:List Str) (vs:List V):St:=vs.map some++List.replicate (N.length - vs.length) none
def Wd (CX:CXT) (P:Program) (w:World) (K:W.Frag) (mg:Str->Option Value) (base:Heap) (N:List Str) (qual:Str) (scope:Scope) (f:Addr) (cd:Value) (A:Around) (outer:List Env) (s:Shared) (H:Hp) (E:XK):Cx where
 prog:=P
 w:=w
 K:=K
 mg:=mg
 base:=base
 A:=A.deeper (envOfC qual scope s.heap.objs.size f cd)
 N:=N
 s₀:=s
 H₀:=H
 env:=envOfC qual scope s.heap.objs.size f cd
 outer:=outer
 stack:=envOfC qual scope s.heap.objs.size f cd::outer
 ex:=[]
 calm:=A.handled.isNone
 fn:=fun _=>true
 pn:=[]
 xe:=fun e s'=>wpAny (model P w) (A.deeper (envOfC qual scope s.heap.objs.size f cd)) (leaving (envOfC qual scope s.heap.objs.size f cd) e) (fun _ s''=>CX outer H s E e s'') (fun e' s''=>CX outer H s E e' s'') s'
theorem JM {sc:Scope} {n:Nat} {x:Str} (h:sc.names.lookup x=some .cell):∃ c,(cellsFrom n sc.names []).lookup x=some c:=by
 have q:=W.cellsFrom_some sc.names n [] (.inl h)
 exact Option.isSome_iff_exists.mp q
theorem qBx {CX:CXT} {P:Program} {w:World} {K:W.Frag} {mg:Str->Option Value} {base:Heap} {N ps:List Str} {qual:Str} {scope:Scope} {f:Addr} {cd:Value} {A:Around} {outer:List Env} {s s1:Shared} {H:Hp} {E:XK} {us:List Value} {vs:List V}
  (S:FnScope N ps scope) (e0:Env0 P w K mg base A outer s H) (hl:vs.length=ps.length) (r:Vals vs us)
  (x:InCallC s s.heap.objs.size (bindL (envOfC qual scope s.heap.objs.size f cd).kindOf (ps.zip us) fun _=>none) (cellsFrom (s.heap.objs.size + 1) scope.names []) (bindC (envOfC qual scope s.heap.objs.size f cd).kindOf (ps.zip us) fun _=>none) s1) :
  Inv (Wd CX P w K mg base N qual scope f cd A outer s H E) [] (start N vs) H s1:=by
 have hpl:ps.length≤N.length:=by have:=B3 List.length S.pre;rw [B4] at this;omega
 obtain ⟨h1,tk,rfl,hk⟩:=x.done
 have noA:∀ b:Addr,b ∉ (Wd CX P w K mg base N qual scope f cd A outer s H E).ex:=fun b z=>absurd (show b∈([]:List Addr) from z) (by simp)
 refine ⟨⟨e0.mod,S.kind,rfl,rfl,AM _,fun y z c h1 h2 => ?_,fun y hy => ?_,fun y c _ h => ?_,fun z=>Option.isNone_iff_eq_none.mp z,Around.frames_deeper e0.frames,.inr ⟨rfl,rfl⟩,fun b z=>absurd z (noA b),e0.bs,e0.bsz,fun b _ _=>noA b,fun b z=>absurd z (noA b),e0.funs,e0.frf⟩,
  rfl,e0.bare,Un.kept hk,⟨_,x.toInCall.ns,fun i y v h1 h2 h3 => ?_⟩,fun y c h=>⟨_,x.cell y c h⟩,e0.hok.fresh (AM _),fun y c h => ?_,fun p hp=>absurd (show p∈([]:List (Addr×Obj)) from hp) (by simp),e0.hok.kept hk,?_,e0.hnd⟩
 ·exact name_of_addr x.apart (BT h1) (BT h2)
 ·have hy:scope.names.lookup y=some .cell∨scope.names.lookup y=some .free:=hy
  rcases hy with hy |hy
  ·exact JM hy
  ·exact absurd rfl (S.nofree _ (BT hy))
 ·exact CZ (x.above y c (BT h))
 ·have hi:i < vs.length:=by
   unfold start at h2
   by_cases hi:i < vs.length
   ·exact hi
   ·rw [Ac (by simpa using hi)] at h2
    rw [BK] at h2
    split at h2 <;> cases h2
  have ha:vs[i]? = some v:=by
   unfold start at h2
   rw [Ab (by simpa using hi),Ag] at h2
   cases e:vs[i]? with
   |none=>rw [e] at h2;cases h2
   |some a=>rw [e] at h2;cases h2;rfl
  obtain ⟨u,hu,rv⟩:=r.get ha
  have hp:ps[i]? = some y:=by
   rw [← S.pre,List.getElem?_take_of_lt (by omega)];exact h1
  have ndP:ps.Nodup:=by rw [← S.pre];exact S.nd.sublist (List.take_sublist _ _)
  refine ⟨u,rv,?_⟩
  rcases S.par y (As hp) with k |k
  ·exact .inl ⟨k,Yn ndP hp hu k⟩
  ·obtain ⟨c,e⟩:=JM (n:=s.heap.objs.size + 1) k
   refine .inr ⟨.inl k,c,e,?_⟩
   have q:=x.cell y c e
   rw [Yq ndP hp hu (by show scope.names.lookup y≠_;rw [k];decide)] at q
   exact q
 ·exact e0.hok.fresh (CZ (x.above y c (BT h)))
 ·unfold start
  show _=N.length
  rw [AY,AC,List.length_replicate]
  omega
theorem qH5 {CX:CXT} {P:Program} {w:World} {K:W.Frag} {mg:Str->Option Value} {base:Heap} {k:Nat} {f:Addr} {name qual:Str} {params:Arguments} {body:List Stmt} {scope:Scope} {dV kV doc pm cdv ct oc:Value} {an od:Option Addr}
  {osl:Array (Option Value)} {N ps:List Str} {sp:Sp} (lk:K.lookup f=some ⟨oc,od,.func (W.fnOf name qual params body scope dV kV doc pm an cdv ct),osl⟩) (hcd:W.codeIn K cdv qual=true) (S:FnScope N ps scope)
  (len:∀ vs H Q E,sp vs H Q E->vs.length=ps.length)
  (hbody:∀ (A:Around) (outer:List Env) (s:Shared) (H:Hp) (vs:List V) (Q:VK) (E:XK),Room k (A.deeper (envOfC qual scope s.heap.objs.size f cdv))->(0 < k->A.handled=none)->sp vs H Q E ->
   ∃ t,PSs (Wd CX P w K mg base N qual scope f cdv A outer s H E) body t∧t { nx:=fun _ H'=>Q .non H',rt:=Q } (start N vs) H) :
  FnOk P w K mg base CX (k + 1) f (W.fnOf name qual params body scope dV kV doc pm an cdv ct) ps sp:=by
 refine ⟨len,fun A outer s H args us vs Q E hr e0 hb r hsp => ?_⟩
 have hl:=len _ _ _ _ hsp
 have KX:K.In s.heap:=e0.mod.kin.keeps fun b o e=>(e0.bs b o e).1
 have lim:s.heap.NoLimit:=e0.mod.nolimit.keeps fun b o e=>(e0.bs b o e).1
 have hkind:∀ y∈ps.zip us,scope.names.lookup y.1=some .local∨(scope.names.lookup y.1=some .cell∧((cellsFrom (s.heap.objs.size + 1) scope.names []).lookup y.1).isSome=true):=fun ⟨n,v⟩ hy=>by
  rcases S.par n (List.of_mem_zip hy).1 with q |q
  ·exact .inl q
  ·exact .inr ⟨q,W.cellsFrom_some _ _ _ (.inl q)⟩
 refine codeAny_call_function hr.depth (KX _ _ lk) rfl S.co S.gen rfl (W.codeRec_of KX hcd) (hb _ _ _ _ ?_)
 refine wpAny_newFunctionEnv_cells S.kind hkind fun env he s1 x => ?_
 subst he
 refine ⟨lim.keeps x.toInCall.keep,codeAny_func ?_⟩
 obtain ⟨t,ht,hq⟩:=hbody A outer s H vs Q E (hr.deeper _) (fun z=>hr.hd (by omega)) hsp
 have I:Inv (Wd CX P w K mg base N qual scope f cdv A outer s H E) [] (start N vs) H s1:=qBx S e0 hl r x
 refine Be (ht [] s1 (start N vs) H _ I hq) (fun fl s' hs => ?_) fun e s' hs=>hs
 have fin:∀ {σ':St} {H':Hp} {v:V} {u:Value},Inv (Wd CX P w K mg base N qual scope f cdv A outer s H E) [] σ' H' s'->RelV v u->Q v H'->CE outer P w H s Q u s' :=
  fun {σ' H' v u} J rv q=>⟨v,H',J.os,J.bare,J.base,J.hok,rv,q⟩
 cases fl with
 |ret u =>
  obtain ⟨v,σ',H',J,rv,q⟩:=hs
  exact fin J rv q
 |next =>
  obtain ⟨σ',H',J,q⟩:=hs
  exact fin (v:=V.non) (u:=Value.none) J rfl q
 |brk =>
  obtain ⟨_,_,_,q⟩:=hs
  exact False.elim q
 |cont =>
  obtain ⟨_,_,_,q⟩:=hs
  exact False.elim q
end L2
namespace L2
open PySem PySem.Spec PyProof.Rows
section
variable {X:Cx} {x:Str} {p pos:Pos} {e:Expr} {es:List Expr} {t:TA} {id T:String} {r:List V->Hp->VK->Prop}
def tCB (r:List V->Hp->VK->Prop) (t:TA):TE:=fun σ H Q=>t σ H fun vs H1=>r vs H1 Q
theorem qEK (hc:zT X (.builtin id) r) (hg:Gl X x) (hm:X.mg x=none) (hv:bootBuiltins x=some (.builtin id)) (ha:PA X (e::es) t) (hn:x ≠ "__name__" := by decide) (hdb:(x==("__debug__":Str))=false:=by decide)
  (he:starEach (e::es) X.env=(false,eval e X.env)::starEach es X.env:=by rfl) (hpl:(backTo pos (starEach es X.env)).any (·.1)=false:=by rfl):PE X (.Call (.Name x p) (e::es) [] pos) (tCB r t):=by
 intro pins s σ H Q I h
 refine BI (WC I hg hm hv ?_ hn hdb)
 exact Bh (thn (ha pos pins s σ H _ I h) fun us s1 ⟨vs,H1,I1,r1,q1⟩=>hc pins s1 σ H1 vs us Q I1 r1 q1) he hpl
theorem qBV (hc:zT X (.type T) r) (hg:Gl X x) (hm:X.mg x=none) (hv:bootBuiltins x=some (.type T)) (ha:PA X (e::es) t) (hn:x ≠ "__name__" := by decide) (hdb:(x==("__debug__":Str))=false:=by decide)
  (he:starEach (e::es) X.env=(false,eval e X.env)::starEach es X.env:=by rfl) (hpl:(backTo pos (starEach es X.env)).any (·.1)=false:=by rfl):PE X (.Call (.Name x p) (e::es) [] pos) (tCB r t):=by
 intro pins s σ H Q I h
 refine BI (WC I hg hm hv ?_ hn hdb)
 exact BH (thn (ha pos pins s σ H _ I h) fun us s1 ⟨vs,H1,I1,r1,q1⟩=>hc pins s1 σ H1 vs us Q I1 r1 q1) he hpl
end
end L2
namespace HT
open PySem PyProof.Rows
theorem rcLt_int (A:Around) (s:Shared) (a:Int) (t:Tok) (c:Int) (u:Tok) (prog:Program) (w:World) (E:Value->Shared->Prop) (Q:Value->Shared->Prop) (h:Q (.bool (decide (a < c))) s) :
  wpAny (model prog w) A (richCompare .Lt (.int a t) (.int c u)) Q E s :=
 (PyProof.Rows.lt_int h:wpAny (model prog w) A (compareOp .Lt (.int a t) (.int c u)) Q E s)
section
variable {prog:Program} {w:World} {A:Around} {E:Value->Shared->Prop} {s:Shared}
def sIx (n d:Nat):Option Int->Nat
 |none=>d
 |some v=>if v < 0 then (v + (n:Int)).toNat else min v.toNat n
theorem sIx_nat (n d k:Nat):sIx n d (some (k:Int))=min k n:=by
 show (if (k:Int) < 0 then ((k:Int) + (n:Int)).toNat else min (k:Int).toNat n)=min k n
 rw [AH (by omega),A5]
end
end HT
namespace L2
open PySem PySem.Spec PyProof.Rows
abbrev TO:=St->Hp->(Option Int->Hp->Prop)->Prop
def PO (X:Cx) (e:Option Expr) (t:TO):Prop :=
 ∀ (pins:List (Addr×Obj)) (s:Shared) (σ:St) (H:Hp) (Q:Option Int->Hp->Prop),Inv X pins σ H s->t σ H Q ->
  wpAny (model X.prog X.w) X.A (evalPart e X.env) (fun u s' => ∃ o H',Inv X pins σ H' s'∧IsPart u o∧Q o H') X.xe s
def qEh:TO:=fun _ H Q=>Q none H
def qIG (t:TE):TO:=fun σ H Q=>t σ H fun x H1 => ∃ i,x = .int i∧Q (some i) H1
theorem J8 {ns:List Int}:∀ {us:List Value},Vals (ns.map V.int) us->IntsAre us ns:=by
 induction ns with
 |nil=>intro us r;rw [List.map_nil] at r;cases r;exact .nil
 |cons n ns ih =>
  intro us r
  rw [AU] at r
  cases r with
  |cons r1 r2 =>
   obtain ⟨t,e⟩:=r1
   subst e
   exact .cons n t (ih r2)
section
variable {X:Cx} {e:Expr} {te:TE} {lo hi:Option Expr} {tl th:TO} {pos p2:Pos}
theorem qET:PO X none qEh:=by
 intro pins s σ H Q I h
 rw [evalPart_none]
 exact AD ⟨none,H,I,.none,h⟩
theorem qEk (h:PE X e te):PO X (some e) (qIG te):=by
 intro pins s σ H Q I hw
 rw [evalPart_some]
 refine thn (h pins s σ H _ I hw) fun u s1 ⟨x,H1,I1,r1,q1⟩ => ?_
 obtain ⟨i,rfl,q⟩:=q1
 obtain ⟨t,rfl⟩:=r1
 exact ⟨some i,H1,I1,.int i t,q⟩
def SlR (X:Cx) (r:V->Option Int->Option Int->Hp->VK->Prop):Prop :=
 ∀ (pins:List (Addr×Obj)) (s:Shared) (σ:St) (H:Hp) (x:V) (v vl vu:Value) (lo hi:Option Int) (sl:Addr) (Q:VK),Inv X pins σ H s->RelV x v->s.heap.IsSliceOf sl vl vu .none->IsPart vl lo->IsPart vu hi->r x lo hi H Q ->
  ∃ T id,typeLookup (.type T) "__getitem__" = pure (some (.builtin id))∧s.TypeIs v T∧wpAny (model X.prog X.w) X.A (getItem v (.ref sl)) (EP X pins σ Q) X.xe s
def tSl (r:V->Option Int->Option Int->Hp->VK->Prop) (te:TE) (tl th:TO):TE:=fun σ H Q=>te σ H fun x H1=>tl σ H1 fun l H2=>th σ H2 fun u H3=>r x l u H3 Q
theorem qDF {r:V->Option Int->Option Int->Hp->VK->Prop} (hr:SlR X r) (he:PE X e te) (hl:PO X lo tl) (hu:PO X hi th):PE X (.Subscript e (.Slice lo hi none p2) pos) (tSl r te tl th):=by
 intro pins s σ H Q I h
 refine Subscript_ (thn (he pins s σ H _ I h) fun v s1 ⟨x,H1,I1,r1,q1⟩ => ?_)
 refine wpAny_Slice (thn (hl pins s1 σ H1 _ I1 q1) fun vl s2 ⟨l,H2,I2,pl,q2⟩=>thn (hu pins s2 σ H2 _ I2 q2) fun vu s3 ⟨u,H3,I3,pu,q3⟩ => ?_)
 rw [evalPart_none]
 refine AD ?_
 have I4:Inv X pins σ H3 { s3 with heap:=s3.heap.push { cls := .type "slice",data := .fields #[vl,vu,.none] } }:=I3.kept (t':=s3.toks) fun b ob q=>AF _ q
 obtain ⟨T,id,hT,ht,hg⟩:=hr pins { s3 with heap:=s3.heap.push { cls := .type "slice",data := .fields #[vl,vu,.none] } } σ H3 x v vl vu l u s3.heap.objs.size Q I4 r1 (Heap.IsSliceOf.new ..) pl pu q3
 show wpAny (model X.prog X.w) X.A (subscriptTail e (.Slice lo hi none p2) v (.ref s3.heap.objs.size)) (EP X pins σ Q) X.xe { s3 with heap:=s3.heap.push { cls := .type "slice",data := .fields #[vl,vu,.none] } }
 exact tail_any (ops:=[.ref s3.heap.objs.size,v]) ht hT hg (by with_unfolding_all rfl)
def qCB (xs:List V) (lo hi:Option Int):List V:=(xs.drop (HT.sIx xs.length 0 lo)).take (HT.sIx xs.length xs.length hi - HT.sIx xs.length 0 lo)
theorem JD (xs:List V) (lo hi:Option Int):(qCB xs lo hi).length≤xs.length:=by
 unfold qCB
 rw [B4,List.length_drop]
 omega
end
end L2
namespace L2
open PySem PySem.Spec PyProof.Rows
def ixN (n:Nat) (i:Int):Option Nat:=if 0≤i then (if i < n then some i.toNat else none) else if -(n:Int)≤i then some (i + n).toNat else none
def atI {α:Type} (xs:List α) (i:Int):Option α:=(ixN xs.length i).bind fun j=>xs[j]?
theorem qBR {n:Nat} {i:Int} {j:Nat} (h:ixN n i=some j):seqIndex? i n=some j∧j < n ∧ -(n:Int)≤i∧i < n:=by
 unfold ixN at h
 by_cases h0:0≤i
 ·rw [AG h0] at h
  by_cases h1:i < n
  ·rw [AG h1] at h
   have e:i.toNat=j:=An h
   exact ⟨by rw [seqIndex_of h0 h1,e],by omega,by omega,h1⟩
  ·rw [AH h1] at h;cases h
 ·rw [AH h0] at h
  by_cases h1:-(n:Int)≤i
  ·rw [AG h1] at h
   have e:(i + n).toNat=j:=An h
   exact ⟨by rw [seqIndex_neg (by omega) h1,e],by omega,h1,by omega⟩
  ·rw [AH h1] at h;cases h
theorem jK {α:Type} {xs:List α} {i:Int} {v:α} (h:atI xs i=some v):∃ j,seqIndex? i xs.length=some j∧xs[j]? = some v∧j < xs.length ∧ -(xs.length:Int)≤i∧i < xs.length:=by
 unfold atI at h
 cases e:ixN xs.length i with
 |none=>rw [e] at h;cases h
 |some j =>
  rw [e] at h
  obtain ⟨h1,h2,h3,h4⟩:=qBR e
  exact ⟨j,h1,h,h2,h3,h4⟩
def qAz (b:Expr):Prop := ∀ o i,subscripted b false o i=operate [o,i] (getItem o i)
def IxR (X:Cx) (r:R2):Prop :=
 ∀ (value slice:Expr) (pins:List (Addr×Obj)) (s:Shared) (σ:St) (H:Hp) (x y:V) (v u:Value) (Q:VK),Inv X pins σ H s->RelV x v->RelV y u->r x y H Q ->
  subscripted slice false v u=operate [v,u] (getItem v u)->wpAny (model X.prog X.w) X.A (subscriptTail value slice v u) (EP X pins σ Q) X.xe s
def MtR (X:Cx) (id:String) (r:V->List V->Hp->VK->Prop):Prop :=
 ∀ (pins:List (Addr×Obj)) (s:Shared) (σ:St) (H:Hp) (x:V) (xs:List V) (v:Value) (us:List Value) (Q:VK),Inv X pins σ H s->RelV x v->Vals xs us->r x xs H Q ->
  wpAny (model X.prog X.w) X.A (call (.builtin id) (v::us)) (EP X pins σ Q) X.xe s
section
variable {X:Cx} {a b:Expr} {ta tb:TE} {pos:Pos}
theorem IxR.or {r r':R2} (h:IxR X r) (h':IxR X r'):IxR X (fun x y H Q=>r x y H Q∨r' x y H Q):=by
 intro value slice pins s σ H x y v u Q I rx ry q hs
 rcases q with q |q
 ·exact h value slice pins s σ H x y v u Q I rx ry q hs
 ·exact h' value slice pins s σ H x y v u Q I rx ry q hs
theorem qIY {r:R2} (hr:IxR X r) (ha:PE X a ta) (hb:PE X b tb) (hs:qAz b):PE X (.Subscript a b pos) (tOp r ta tb):=by
 intro pins s σ H Q I h
 exact Subscript_ (qHY ha hb I h fun v u s2 x y H2 I2 rx ry q=>hr a b pins s2 σ H2 x y v u Q I2 rx ry q (hs _ _))
def qIg (K:W.Frag):R2:=fun x y H Q => ∃ p xs i v,x = .ref p∧y = .int i∧SqL K H p xs∧atI xs i=some v∧Q v H
def qHr (K:W.Frag):R2:=fun x y H Q => ∃ p xs i v,x = .ref p∧y = .int i∧SqT K H p xs∧atI xs i=some v∧Q v H
def qIK:R2:=fun x y H Q => ∃ z i c,x = .str z∧y = .int i∧z.length≤sizeLine∧atI z.cps.toList i=some c∧Q (.str ⟨#[c]⟩) H
theorem ix_list:IxR X (qIg X.K):=by
 intro value slice pins s σ H x y v u Q I rx ry h hs
 obtain ⟨p,xs,i,z,rfl,rfl,hq,he,q⟩:=h
 cases rx
 obtain ⟨t,rfl⟩:=ry
 obtain ⟨its,r,pl,hz⟩:=I.list hq
 obtain ⟨j,h1,h2,h3,h4,h5⟩:=jK he
 obtain ⟨w,ew,rw'⟩:=r.get h2
 have hl:=r.length
 have hn:=zq
 have fin:EP X pins σ Q w s:=⟨z,H,I,rw',q⟩
 by_cases h0:0≤i
 ·have hj:i.toNat=j:=by
   rw [seqIndex_of h0 h5] at h1
   exact An h1
  exact item_listR pl.isList h0 (by omega) (by rw [hj];simpa using ew) fin hs
 ·have hj:(i + (its.toArray.size:Int)).toNat=j:=by
   rw [seqIndex_neg (by omega) h4] at h1
   rw [AV,← hl]
   exact An h1
  exact subscriptTail_builtinR (x:=w) pl.isList.typeIs slot_list_getitem.lookup
   (wpAny_getItem_list_neg (Q:=fun r s'=>r=w∧EP X pins σ Q r s') pl.isList (by omega) (by rw [AV] <;> omega) (by omega) (by rw [hj];simpa using ew) ⟨rfl,fin⟩) hs
theorem ix_tup:IxR X (qHr X.K):=by
 intro value slice pins s σ H x y v u Q I rx ry h hs
 obtain ⟨p,xs,i,z,rfl,rfl,hq,he,q⟩:=h
 cases rx
 obtain ⟨t,rfl⟩:=ry
 obtain ⟨its,r,pl,hz⟩:=I.tuple hq
 obtain ⟨j,h1,h2,h3,h4,h5⟩:=jK he
 obtain ⟨w,ew,rw'⟩:=r.get h2
 have hl:=r.length
 have hn:=zq
 have fin:EP X pins σ Q w s:=⟨z,H,I,rw',q⟩
 exact subscriptTail_builtinR (x:=w) pl.typeIs slot_tuple_getitem.lookup
  (getItem_tuple (j:=j) (Q:=fun r s'=>r=w∧EP X pins σ Q r s') pl (by omega) (by omega) (by rw [AV,← hl];exact h1) (by simpa using ew) ⟨rfl,fin⟩) hs
theorem qHF:IxR X qIK:=by
 intro value slice pins s σ H x y v u Q I rx ry h hs
 obtain ⟨z,i,c,rfl,rfl,hz,he,q⟩:=h
 obtain ⟨t,rfl⟩:=rx
 obtain ⟨t',rfl⟩:=ry
 obtain ⟨j,h1,h2,h3,h4,h5⟩:=jK he
 have hl:z.cps.toList.length=z.length:=by simp [Str.length]
 rw [hl] at h1 h4 h5
 have hn:=zq
 exact tail_any (typeIs_str s z t) slot_str_getitem.lookup (getItem_str (c:=c) (by
  have e1:decide (i < -(2 ^ 63:Int))=false:=Aa (by omega)
  have e2:decide (i ≥ 2 ^ 63)=false:=Aa (by omega)
  rw [e1,e2,Bool.or_false]) (by rw [h1];simpa using h2) ⟨.str ⟨#[c]⟩,H,I.tok _,⟨_,rfl⟩,q⟩) hs
def rIx (K:W.Frag):R2:=fun x y H Q=>qIg K x y H Q∨qHr K x y H Q∨qIK x y H Q
theorem qGr:IxR X (rIx X.K):=ix_list.or (ix_tup.or qHF)
theorem qAN (its:List Value) (n j:Nat) (u:Value):Obj.mapSeq (·.setIfInBounds j u) { cls := .type "list",data := .seq its.toArray n }={ cls := .type "list",data := .seq (its.set j u).toArray n }:=by
 simp [Obj.mapSeq]
theorem Inv.lst {pins:List (Addr×Obj)} {σ:St} {H:Hp} {s:Shared} {p:Addr} {xs:List V} (I:Inv X pins σ H s) (h:H p=some (.lst xs)) :
  ∃ (its:List Value) (n:Nat),Vals xs its∧s.heap.get? p=some { cls := .type "list",data := .seq its.toArray n }∧xs.length≤sizeLine:=by
 obtain ⟨z,its,n,r,e⟩:=I.hok p _ h
 exact ⟨its,n,r,e,z⟩
theorem Inv.lstUpd {pins:List (Addr×Obj)} {σ:St} {H:Hp} {s:Shared} {p:Addr} {xs ys:List V} {its its':List Value} {n n':Nat} {f:Obj->Obj} (I:Inv X pins σ H s) (h:H p=some (.lst xs))
  (ho:s.heap.get? p=some { cls := .type "list",data := .seq its.toArray n }) (hf:f { cls := .type "list",data := .seq its.toArray n }={ cls := .type "list",data := .seq its'.toArray n' }) (r:Vals ys its') (hz:ys.length≤sizeLine) (t:Nat) :
  Inv X pins σ (upd H p (.lst ys)) { s with heap:=s.heap.update p f,toks:=t }:=by
 have e:(s.heap.update p f).get? p=some { cls := .type "list",data := .seq its'.toArray n' }:=by
  rw [Av f ho (by rw [hf] <;> rfl),hf]
 refine I.write (x:=p) (e:=p) (by rw [h];trivial) (.inl rfl) (fun b u hb q=>(Ah _ _ (Ne.symm hb)).trans q) ⟨_,e⟩ ?_
 exact ⟨hz,its',n',r,e⟩
def qF9:V->V->V->Hp->(Hp->Prop)->Prop:=fun o i v H Q => ∃ p xs k j,o = .ref p∧i = .int k∧H p=some (.lst xs)∧ixN xs.length k=some j∧Q (upd H p (.lst (xs.set j v)))
theorem Jl:qG8 X qF9:=by
 intro pins s σ H o i v ov iv u Q I ro ri rv h
 obtain ⟨p,xs,k,j,rfl,rfl,hp,hj,q⟩:=h
 cases ro
 obtain ⟨t,rfl⟩:=ri
 obtain ⟨its,n,r,ho,hz⟩:=I.lst hp
 obtain ⟨h1,h2,h3,h4⟩:=qBR hj
 have hl:=r.length
 have hn:=zq
 have I':Inv X pins σ (upd H p (.lst (xs.set j v))) { s with heap:=s.heap.update p (Obj.mapSeq (·.setIfInBounds j u)) } :=
  I.lstUpd hp ho (qAN its n j u) (r.set rv j) (by rw [CD];exact hz) s.toks
 by_cases h0:0≤k
 ·have hk:k.toNat=j:=by
   rw [seqIndex_of h0 h4] at h1
   exact An h1
  exact W.ki_setAt ho h0 (by omega) (by rw [AV,← hl];exact h4) (by rw [hk];exact ⟨_,I',q⟩)
 ·have hk:(k + (its.toArray.size:Int)).toNat=j:=by
   rw [seqIndex_neg (by omega) h3] at h1
   rw [AV,← hl]
   exact An h1
  exact W.ki_setBack ho (by omega) (by rw [AV,← hl];exact h3) (by omega) (by rw [hk];exact ⟨_,I',q⟩)
theorem jM (lo hi:Option Int) (n:Nat):(sliceBounds lo hi none n).1=((HT.sIx n 0 lo:Nat):Int)∧(sliceBounds lo hi none n).2.1=((HT.sIx n n hi:Nat):Int)∧(sliceBounds lo hi none n).2.2=1:=by
 refine ⟨?_,?_,rfl⟩
 ·cases lo with
  |none=>simp [sliceBounds,HT.sIx]
  |some i =>
   simp only [sliceBounds,HT.sIx,Option.getD_none,show (1:Int) > 0 by decide,if_true]
   by_cases h:i < 0
   ·simp only [h,if_true] <;> omega
   ·simp only [h,Bx] <;> omega
 ·cases hi with
  |none=>simp [sliceBounds,HT.sIx]
  |some i =>
   simp only [sliceBounds,HT.sIx,Option.getD_none,show (1:Int) > 0 by decide,if_true]
   by_cases h:i < 0
   ·simp only [h,if_true] <;> omega
   ·simp only [h,Bx] <;> omega
theorem YM (its:List Value) (lo hi:Option Int):slicePick its.toArray lo hi none=((its.drop (HT.sIx its.length 0 lo)).take (HT.sIx its.length its.length hi - HT.sIx its.length 0 lo)).toArray:=by
 obtain ⟨h1,h2,h3⟩:=jM lo hi its.toArray.size
 unfold slicePick
 rw [h1,h2,h3]
 simp only [sliceRange_one,pick_run,AV] <;> rfl
def qIv (K:W.Frag):V->Option Int->Option Int->Hp->VK->Prop:=fun x lo hi H Q => ∃ a xs,x = .ref a∧SqL K H a xs ∧ ∀ p,H p=none->Q (.ref p) (upd H p (.lst (qCB xs lo hi)))
theorem qEc:SlR X (qIv X.K):=by
 intro pins s σ H x v vl vu lo hi sl Q I rx hs pl pu h
 obtain ⟨a,xs,rfl,hx,q⟩:=h
 cases rx
 obtain ⟨its,r,ht,hz⟩:=I.list hx
 have hlen:=r.length
 refine ⟨"list",_,slot_list_getitem.lookup,ht.isList.typeIs,?_⟩
 refine wpAny_getItem_list_slice ht.isList hs pl pu .none (by simp) ?_ (by rw [AV] <;> omega)
 rw [YM,← hlen]
 refine ⟨.ref s.heap.objs.size,_,I.laid (t':=s.toks) (o := .lst (qCB xs lo hi)) (fun b ob q=>AF _ q) (AM _) ?_,rfl,q _ (I.hok.fresh (AM _))⟩
 exact ⟨Am (JD xs lo hi) hz,_,0,(r.drop (HT.sIx xs.length 0 lo)).take (HT.sIx xs.length xs.length hi - HT.sIx xs.length 0 lo),AW _ rfl⟩
theorem Y6:zT X (.builtin "len") (fun xs H Q => ∃ p ys,xs=[.ref p]∧(SqL X.K H p ys∨SqT X.K H p ys)∧Q (.int ys.length) H):=by
 intro pins s σ H xs us Q I r h
 obtain ⟨p,ys,rfl,hq,q⟩:=h
 obtain ⟨u,rfl,rx⟩:=qBT r
 cases rx
 have hn:=zq
 rcases hq with hq |hq
 ·obtain ⟨its,r',pl,hz⟩:=I.list hq
  have hlen:=r'.length
  exact Calls.call_len_list pl.isList (by simp only [AV] <;> omega) ⟨.int ys.length,H,I.tok _,⟨s.toks + 1,by rw [AV,hlen]⟩,q⟩
 ·obtain ⟨its,r',pl,hz⟩:=I.tuple hq
  have hlen:=r'.length
  exact len_tuple pl (by simp only [AV] <;> omega) ⟨.int ys.length,H,I.tok _,⟨s.toks + 1,by rw [AV,hlen]⟩,q⟩
theorem YN:zT X (.type "tuple") (fun xs H Q => ∃ p ys,xs=[.ref p]∧((SqL X.K H p ys ∧ ∀ l,H l=none->Q (.ref l) (upd H l (.tup ys)))∨(SqT X.K H p ys∧Q (.ref p) H))):=by
 intro pins s σ H xs us Q I r h
 obtain ⟨p,ys,rfl,h⟩:=h
 obtain ⟨u,rfl,rx⟩:=qBT r
 cases rx
 rcases h with ⟨hq,q⟩ |⟨hq,q⟩
 ·obtain ⟨its,r',pl,hz⟩:=I.list hq
  have hlen:=r'.length
  refine call_tuple_list pl.isList (fun h' kp => ?_) (by simp only [AV] <;> omega)
  have I1:Inv X pins σ H { s with heap:=h' }:=I.kept (t':=s.toks) kp
  have I2:Inv X pins σ (upd H h'.objs.size (.tup ys)) { s with heap:=h'.push { cls := .type "tuple",data := .seq its.toArray } } :=
   I1.laid (t':=s.toks) (fun b o e=>AF _ e) (AM _) (show ObjOk X.prog X.w _ _ _ (.tup ys) from ⟨hz,its,r',IsTup.new _ _⟩)
  exact ⟨.ref h'.objs.size,_,I2,rfl,q _ (I1.hok.fresh (AM _))⟩
 ·obtain ⟨its,r',pl,hz⟩:=I.tuple hq
  exact call_tuple_same pl ⟨.ref p,H,I,rfl,q⟩
def tyV (K:W.Frag) (T:String) (x:V) (H:Hp):Prop:=match x with
 | .str _=>T = "str"
 | .int _=>T = "int"
 | .ref p=>(T = "list" ∧ ∃ xs,SqL K H p xs)∨(T = "tuple" ∧ ∃ o,K.lookup p=some o∧o.cls = .type "tuple" ∧ o.dict=none) ∨
   (T = "dict" ∧ ((∃ kvs,H p=some (.dK kvs)) ∨ ∃ kvs,H p=some (.dT kvs)))∨(T = "set" ∧ ∃ S n,H p=some (.set S n))
 |_=>False
theorem qHX {pins:List (Addr×Obj)} {σ:St} {H:Hp} {s:Shared} {T:String} {x:V} {v:Value} (I:Inv X pins σ H s) (r:RelV x v) (ty:tyV X.K T x H) :
  s.TypeIs v T ∧ ∀ a,v = .ref a -> ∃ ob,s.heap.get? a=some ob∧ob.dict=none:=by
 cases x with
 |str z =>
  obtain ⟨t,rfl⟩:=r
  cases (show T = "str" from ty)
  exact ⟨typeIs_str s z t,fun _ e=>nomatch e⟩
 |int i =>
  obtain ⟨t,rfl⟩:=r
  cases (show T = "int" from ty)
  exact ⟨typeIs_int s i t,fun _ e=>nomatch e⟩
 |ref p =>
  cases r
  rcases ty with ⟨rfl,xs,hq⟩ |⟨rfl,o,hk,hc,hd⟩ |⟨rfl,hk⟩ |⟨rfl,S,n,hk⟩
  ·obtain ⟨its,_,pl,_⟩:=I.list hq
   refine ⟨pl.isList.typeIs,fun a e => ?_⟩
   cases e
   obtain ⟨o,n,e,c,hd,_⟩:=pl
   exact ⟨o,e,hd⟩
  ·refine ⟨⟨o,I.kIn p o hk,hc⟩,fun a e => ?_⟩
   cases e
   exact ⟨o,I.kIn _ o hk,hd⟩
  ·have z:∃ o,s.heap.get? p=some o∧o.ExactDict:=by
    rcases hk with ⟨kvs,hk⟩ |⟨kvs,hk⟩
    ·obtain ⟨_,_,_,_,o,_,_,e,ex,_⟩:=I.hok p _ hk
     exact ⟨o,e,ex⟩
    ·obtain ⟨_,_,_,_,o,_,_,e,ex,_⟩:=I.hok p _ hk
     exact ⟨o,e,ex⟩
   obtain ⟨o,e,ex⟩:=z
   refine ⟨⟨o,e,ex.1⟩,fun a e2 => ?_⟩
   cases e2
   exact ⟨o,e,ex.2.1⟩
  ·obtain ⟨o,_,_,_,e,ex,_⟩:=I.hok p _ hk
   refine ⟨⟨o,e,ex.1⟩,fun a e2 => ?_⟩
   cases e2
   exact ⟨o,e,ex.2.1⟩
 |_=>exact False.elim ty
def tBM (K:W.Frag) (T:String) (r:V->List V->Hp->VK->Prop) (to:TE) (t:TA):TE:=fun σ H Q=>to σ H fun x H1=>tyV K T x H1∧t σ H1 fun xs H2=>r x xs H2 Q
variable {o e:Expr} {es:List Expr} {to:TE} {t:TA} {name:Str} {apos cpos:Pos} {T id:String} {r:V->List V->Hp->VK->Prop}
theorem qHu (pa:PlainAttrs T) (slot:Slot T name id) (hty:typeOf (.builtin id)=pure (.type "method_descriptor")) (hm:MtR X id r) (ho:PE X o to) (ha:PA X (e::es) t)
  (hbase:attributeBase o name X.env (eval o X.env)=eval o X.env:=by rfl)
  (hfew:((backTo cpos (starEach (e::es) X.env)).all (fun x => !x.1)&&(backToKw cpos (keywordEach [] X.env)).all (fun x=>x.1.isSome)
   && decide ((e::es).length + ([]:List Keyword).length + (if ([]:List Keyword).isEmpty then 0 else 1) < 30))=true:=by rfl)
  (hline:(apos.endLine==cpos.line)=true:=by rfl) (hs:starEach (e::es) X.env=(false,eval e X.env)::starEach es X.env:=by rfl) (hplain:(backTo cpos (starEach es X.env)).any (·.1)=false:=by rfl) :
  PE X (.Call (.Attribute o name apos) (e::es) [] cpos) (tBM X.K T r to t):=by
 intro pins s σ H Q I h
 refine wpAny_Call_method_late hbase hfew hline rfl (thn (ho pins s σ H _ I h) fun v s1 ⟨x,H1,I1,r1,ty,q1⟩ => ?_)
 obtain ⟨h1,h2⟩:=qHX I1 r1 ty
 refine ⟨T,id,pa,slot,hty,h1,h2,?_⟩
 have hA:=ha cpos pins s1 σ H1 _ I1 q1
 rw [hs] at hA ⊢
 refine Calls.callWith_builtin (by show (false || (backTo cpos (starEach es X.env)).any (·.1))=false;rw [hplain] <;> rfl) (Calls.evalArgs_plain ?_)
 exact thn hA fun us s2 ⟨vs,H2,I2,r2,q2⟩=>hm pins s2 σ H2 x vs v us Q I2 r1 r2 q2
end
end L2
namespace L2
open PySem PySem.Spec PyProof.Rows
def MtM (X:Cx) (id:String) (r:V->List V->Hp->VK->Prop):Prop :=
 ∀ (pins:List (Addr×Obj)) (s:Shared) (σ:St) (H:Hp) (x:V) (xs:List V) (v:Value) (us:List Value) (Q:VK),Inv X pins σ H s->RelV x v->Vals xs us->r x xs H Q ->
  wpAny (model X.prog X.w) X.A (call (.builtin id) (v::us)) (EP X pins σ Q) X.xe s
theorem Vals.one:∀ {x:V} {us:List Value},Vals [x] us -> ∃ u,us=[u]∧RelV x u
 |_,_,.cons r .nil=>⟨_,rfl,r⟩
theorem Vals.eraseIdx:∀ {xs:List V} {us:List Value} (i:Nat),Vals xs us->Vals (xs.eraseIdx i) (us.eraseIdx i)
 |_,_,_,.nil => .nil
 |_,_,0,.cons _ t=>t
 |_,_,i + 1,.cons r t => .cons r (Vals.eraseIdx i t)
theorem Vals.rep {xs:List V} {us:List Value} (h:Vals xs us):∀ k:Nat,Vals (List.replicate k xs).flatten (List.replicate k us).flatten
 |0 => .nil
 |k + 1=>by
  rw [A0,A0,BQ,BQ]
  exact Vals.append h (Vals.rep h k)
theorem Yz {α:Type}:∀ (l:List α) (i:Nat),(l.eraseIdx i).length≤l.length
 |[],_=>AM _
 |_::_,0=>Cd _
 |_::r,i + 1=>BX (Yz r i)
theorem Yv (its:List Value):∀ (k:Nat) (acc:List Value),
  List.foldl (fun x1 x2=>x1++x2) acc.toArray (List.replicate k its.toArray)=(acc++(List.replicate k its).flatten).toArray
 |0,acc=>by simp
 |k + 1,acc=>by
  have e:acc.toArray++its.toArray=(acc++its).toArray:=by simp
  have e2:(acc++its)++(List.replicate k its).flatten=acc++(List.replicate (k + 1) its).flatten:=by
   rw [A0,BQ,Aj]
  rw [← e2,← Yv its k (acc++its),← e,A0,BF]
section
variable {X:Cx} {pins:List (Addr×Obj)} {σ:St} {H:Hp} {s:Shared} {l b:Addr} {xs ys zs:List V}
theorem Inv.lset {its its':List Value} {n:Nat} {f:Array Value->Array Value} {t':Nat} (I:Inv X pins σ H s) (hH:H l=some (.lst xs))
  (e:s.heap.get? l=some { cls := .type "list",data := .seq its.toArray n }) (hf:f its.toArray=its'.toArray) (hv:Vals ys its') (hz:ys.length≤sizeLine) :
  Inv X pins σ (upd H l (.lst ys)) { s with heap:=s.heap.update l (Obj.mapSeq f),toks:=t' }:=by
 have q:=PySem.IsL.update e f
 rw [hf] at q
 refine I.write (x:=l) (e:=l) (by rw [hH];exact trivial) (.inl rfl) (fun b' u hb hu=>(Ah s.heap (Obj.mapSeq f) (Ne.symm hb)).trans hu) ⟨_,q⟩ ?_
 exact ⟨hz,its',_,hv,q⟩
theorem Inv.lnew {its:List Value} {t':Nat} (I:Inv X pins σ H s) (hv:Vals ys its) (hz:ys.length≤sizeLine) :
  Inv X pins σ (upd H s.heap.objs.size (.lst ys)) { s with heap:=s.heap.push { cls := .type "list",data := .seq its.toArray },toks:=t' } :=
 I.laid (fun _ _ q=>AF _ q) (AM _) ⟨hz,its,0,hv,AW _ rfl⟩
theorem Inv.fresh (I:Inv X pins σ H s):H s.heap.objs.size=none:=I.hok.fresh (AM _)
theorem Inv.lstM (I:Inv X pins σ H s) (hH:H l=some (.lst xs)):xs.length≤sizeLine ∧ ∃ (its:List Value) (n:Nat),Vals xs its∧xs.length=its.length∧s.heap.get? l=some { cls := .type "list",data := .seq its.toArray n }:=by
 obtain ⟨z,its,n,r,e⟩:=I.hok l _ hH
 exact ⟨z,its,n,r,r.length,e⟩
theorem qEN {n:Nat} (h:n≤sizeLine):Builtin.List.listTooLong n=false:=by
 unfold Builtin.List.listTooLong
 exact Aa (by omega)
end
section
variable {X:Cx}
def qFJ:V->List V->Hp->VK->Prop:=fun x vs H Q => ∃ l xs y,x = .ref l∧vs=[y]∧H l=some (.lst xs)∧xs.length < sizeLine∧Q .non (upd H l (.lst (xs++[y])))
theorem qBY:MtM X "list.append" qFJ:=by
 intro pins s σ H x vs v us Q I rx rv h
 obtain ⟨l,xs,y,rfl,rfl,hH,hz,q⟩:=h
 cases rx
 obtain ⟨u,rfl,ru⟩:=rv.one
 obtain ⟨z,its,n,r,hl,e⟩:=I.lstM hH
 refine call_meets F.slot_list_append ⟨_,e,rfl⟩ F.entry_list_append (F.args_list_append_2 _ _) (PySem.list_append l its.toArray n u (by rw [AV];omega)) ⟨e,?_⟩
 refine ⟨.non,_,I.lset (its':=its++[u]) hH e (by simp) (r.append (.cons ru .nil)) ?_,rfl,q⟩
 rw [AY,Bt]
 omega
def qHK:V->List V->Hp->VK->Prop:=fun x vs H Q => ∃ l xs i k y,x = .ref l∧vs=[.int i]∧H l=some (.lst xs) ∧ -(2 ^ 63)≤i∧i < 2 ^ 63∧seqIndex? i xs.length=some k∧xs[k]? = some y∧Q y (upd H l (.lst (xs.eraseIdx k)))
theorem qCn:MtM X "list.pop" qHK:=by
 intro pins s σ H x vs v us Q I rx rv h
 obtain ⟨l,xs,i,k,y,rfl,rfl,hH,h1,h2,hk,hy,q⟩:=h
 cases rx
 obtain ⟨u,rfl,ru⟩:=rv.one
 obtain ⟨t,rfl⟩:=ru
 obtain ⟨z,its,n,r,hl,e⟩:=I.lstM hH
 obtain ⟨w,hw,rw'⟩:=r.get hy
 refine call_meets F.slot_list_pop ⟨_,e,rfl⟩ F.entry_list_pop (F.args_list_pop_2 _ _)
  (MeetsSeq.list_pop_at l its.toArray n i t k w (fitsIndex_both h1 h2) (by rw [AV,← hl];exact hk) (by rw [← Aw];exact hw) (by rw [AV];omega)) ⟨e,?_⟩
 refine ⟨y,_,I.lset (its':=its.eraseIdx k) hH e ?_ (r.eraseIdx k) ?_,rw',q⟩
 ·show its.toArray.eraseIdxIfInBounds k=(its.eraseIdx k).toArray
  rw [List.eraseIdxIfInBounds_toArray]
 ·have:=Yz xs k
  omega
def qI5:R2:=fun x y H Q => ∃ l k xs,x = .ref l∧y = .int k∧H l=some (.lst xs) ∧ -(2 ^ 63)≤k∧k < 2 ^ 63∧xs.length * k.toNat≤sizeLine ∧
 ∀ p,H p=none->Q (.ref p) (upd H p (.lst (List.replicate k.toNat xs).flatten))
theorem qEa {α:Type} (xs:List α) (k:Nat):(List.replicate k xs).flatten.length=k * xs.length:=by
 induction k with
 |zero=>simp
 |succ k ih=>rw [A0,BQ,AY,ih,Nat.succ_mul,Nat.add_comm]
theorem qHe:OpR X (binaryOp .Mult) qI5:=by
 intro pins s σ H x y v u Q I rx ry h
 obtain ⟨l,k,xs,rfl,rfl,hH,h1,h2,hz,q⟩:=h
 cases rx
 obtain ⟨t,rfl⟩:=ry
 obtain ⟨z,its,n,r,hl,e⟩:=I.lstM hH
 have hlen:its.toArray.size * k.toNat≤sizeLine:=by rw [AV,← hl];exact hz
 have hcap:¬ its.toArray.size * k.toNat > (2 ^ 63 - 1) / 8:=by
  have:(sizeLine:Nat)≤(2 ^ 63 - 1) / 8:=by decide
  omega
 have hfit:¬ (!Builtin.List.listFitsIndex k)=true:=by
  rw [fitsIndex_both h1 h2]
  exact Ba
 have hlong:¬ Builtin.List.listTooLong (its.toArray.size * k.toNat)=true:=by
  rw [qEN hlen]
  exact Ba
 have hnew:List.foldl (fun x1 x2=>x1++x2) #[] (List.replicate (if its.toArray.isEmpty=true then 0 else k.toNat) its.toArray)=(List.replicate k.toNat its).flatten.toArray:=by
  have f0:∀ m:Nat,List.foldl (fun x1 x2=>x1++x2) #[] (List.replicate m its.toArray)=(List.replicate m its).flatten.toArray:=fun m=>by
   have:=Yv its m []
   rw [List.nil_append] at this
   exact this
  rw [f0]
  cases its with
  |nil=>simp
  |cons a r'=>rw [AH (by simp)]
 refine wpAny_binaryOp_repeat_ref (T := "list") (U := "int") (by decide) ⟨_,e,rfl⟩ (fun s'=>typeIs_int s' k t) noFill_list_mul F.fills_int_mul F.slot_int_rmul repeat_list F.slot_int_index.lookup
  (call_meets F.slot_int_rmul (typeIs_int s k t) F.entry_int_rmul (F.args_int_rmul_2 _ _) (int___rmul___int_list k t l its.toArray n)
   ⟨e,rfl,⟨_,e,rfl⟩,call_meets F.slot_list_mul ⟨_,e,rfl⟩ F.entry_list_mul (F.args_list_mul_2 _ _) (AutoListH.list___mul___list_int_3 l its.toArray n k t hfit hcap hlong) ⟨e,?_⟩⟩)
 rw [hnew]
 exact ⟨.ref _,_,I.lnew (t':=s.toks) (r.rep k.toNat) (by rw [qEa,Nat.mul_comm];exact hz),rfl,q _ I.fresh⟩
end
end L2
namespace Att
open PySem PySem.W PySem.Calls PyProof.Rows
theorem Zw {P:Params} {h:Heap}:∀ (ns:List Int) (vs:List Value),WellAll P h vs (ns.map WData.int)->IntsAre vs ns:=by
 intro ns
 induction ns with
 |nil =>
  intro vs w
  rw [List.map_nil] at w
  cases w
  exact .nil
 |cons n ns ih =>
  intro vs w
  rw [AU] at w
  cases w with
  |cons a b =>
   cases a
   exact .cons _ _ (ih _ b)
theorem qBg {l:OpenLaw} {n:Nat} (hn:l.most=some n) {P:Params} {h:Heap} {args:List WData} {vals:List Value}
  (hpre:l.row.toRowW.claim.pre args=true) (hwl:WellAll P h vals args) :
  ∃ a vs ns,vals=[Value.ref a]∧args=[WData.list (ns.map WData.int)]∧h.get? a=some { cls := .type "list",data := .seq vs.toArray }∧IntsAre vs ns∧ns.length≤n:=by
 have hsh:WShape.hasAll [] args [.list .int]=true:=(pre_splitW hpre).1
 have hc:l.pre.holds [] { args:=args }=true:=(pre_splitW hpre).2
 obtain ⟨d,r,rfl,h1,h2⟩:=hasAllW_cons hsh
 obtain rfl:=hasAllW_nil h2
 obtain ⟨xs,rfl,h3⟩:=hasW_list h1
 obtain ⟨ns,rfl⟩:=items_int h3
 have hlen:ns.length≤n:=by
  unfold OpenLaw.pre at hc
  have h4:(WTm.not (.lt (.lit (.int (n:Int))) (.len (.arg 0)))).holds [] { args:=[.list (ns.map .int)] }=true:=by
   have h4:=(holds_andW hc).1
   rw [hn] at h4
   exact h4
  have h5:=condW_of h4 (w_not (w_lt w_lit (w_len_list (w_arg rfl))))
  rw [AC] at h5
  refine Nat.le_of_not_lt fun q => ?_
  have q':(n:Int) < ((ns.length:Nat):Int):=by omega
  first
   |(rw [AS q'] at h5;exact absurd h5 (by decide))
   |(simp at h5;omega)
 cases hwl with
 |cons w1 w2 =>
  cases w2
  cases w1 with
  |list ho hall=>exact ⟨_,_,ns,rfl,rfl,ho,Zw ns _ hall,hlen⟩
theorem qB7 (l:OpenLaw) (args:List WData):l.row.toRowW.claim.post args (.bool true) args=true :=
 postW_of (r:=l.row.toRowW) (X:=(true==true))
  (show WShape.has [] (.bool true) .bool=true by first |rfl |decide |simp [WShape.has,WShape.arms,WShape.armsAll])
  (show (WTm.eq .res (.lit (.bool true))).value [] { args:=args,res:=some (.bool true),after:=args }=some (.bool (true==true)) from w_eq_bool (w_res rfl) w_lit) rfl
end Att
namespace L2
open PySem PySem.Spec PyProof.Rows
theorem Ye:∀ {vs:List Value} {ns:List Int},IntsAre vs ns->Vals (ns.map V.int) vs
 |_,_,.nil => .nil
 |_,_,.cons n t h => .cons ⟨t,rfl⟩ (Ye h)
def qGx (H:Hp):Prop := ∀ b,H b=none ∨ ∃ o xs,H b=some (.frz o (.lst xs))
theorem qCg {P:Program} {w:World} {K:W.Frag} {mg mb:Str->Option Value} {CX:CXT} {k:Nat} {fa a:Addr} {fd:FuncData} {x:Str} {sp:Sp} {s₁:Shared} {vs:List Value} {ns:List Int}
  (KX:K.In s₁.heap) (hns:s₁.heap.Ns mainGlobals mg) (hb:s₁.heap.Ns builtinsNs mb) (hbb:∀ x:Str,x ≠ "__name__" -> mb x=bootBuiltins x) (hlim:s₁.heap.NoLimit) (hg:s₁.gens = #[])
  (ha:s₁.heap.get? a=some { cls := .type "list",data := .seq vs.toArray }) (hi:IntsAre vs ns) (hl:ns.length≤sizeLine) (hr:Room k callerA)
  (F:∀ base:Heap,K.In base->base.Ns mainGlobals mg->FnOk P w K mg base CX k fa fd [x] sp) (hbind:∀ (s:Shared) (u:Value),BindsTo s fd ⟨[u],[]⟩ [(x,u)])
  (hsp:∀ H:Hp,qGx H->SqL K H a (ns.map V.int)->sp [.ref a] H (fun v _=>v = .bl true) fun _ _ _=>False)
  (hCX:∀ H e s',CX [] H s₁ (fun _ _ _=>False) e s'->False) :
  codeAny (model P w) callerA (.call (.ref fa) ⟨[.ref a],[]⟩) (fun r s'=>r = .ok (.ret (.bool true))∧OldK s₁.heap s'.heap∧s'.os=s₁.os∧AllBare s'.gens) s₁:=by
 have rv:=Ye hi
 have lenV:=hi.length
 -- from an abstract heap in which nothing but the script may be tracked
 have core:∀ H:Hp,qGx H->SqL K H a (ns.map V.int)->HOk P w H s₁.heap->(∀ b,H b≠none->b=a)->(H a≠none->K.lookup a=none) ->
   codeAny (model P w) callerA (.call (.ref fa) ⟨[.ref a],[]⟩) (fun r s'=>r = .ok (.ret (.bool true))∧OldK s₁.heap s'.heap∧s'.os=s₁.os∧AllBare s'.gens) s₁:=by
  intro H hO hS hok hA hK
  have base_of:∀ {b:Addr} {o:Obj},s₁.heap.get? b=some o->H b=none->(jI s₁.heap H).get? b=some o:=fun e n=>qDu e n
  have noA:∀ {b:Addr} {o:Obj} {es:Array DictEntry} {ep:Nat},s₁.heap.get? b=some o->o.data = .dict es ep->H b=none:=fun {b o es ep} e d=>by
   cases q:H b with
   |none=>rfl
   |some u =>
    have e':b=a:=hA b (by rw [q];simp)
    subst e'
    rw [ha] at e;cases e
    have d':Data.seq vs.toArray _=Data.dict es ep:=d
    cases d'
  have nsK:∀ {b:Addr} {m:Str->Option Value},s₁.heap.Ns b m->(jI s₁.heap H).Ns b m:=fun {b m} ⟨o,es,ep,e,d,r⟩=>⟨o,es,ep,base_of e (noA e d),d,r⟩
  have hKb:K.In (jI s₁.heap H):=fun b o e=>base_of (KX b o e) (by
   cases q:H b with
   |none=>rfl
   |some u =>
    have e':b=a:=hA b (by rw [q];simp)
    subst e'
    rw [hK (by rw [q];simp)] at e;cases e)
  have hM:Mod K mg (jI s₁.heap H):=⟨hKb,nsK hns,⟨mb,nsK hb,hbb⟩,let ⟨mc,h1,h2⟩:=hlim;⟨mc,nsK h1,h2⟩⟩
  have e0:Env0 P w K mg (jI s₁.heap H) callerA [] s₁ H:=⟨rfl,hM,fun b o e=>qFO e,Nat.le_of_eq (qB5 _ _),trivial,fun b hb=>absurd (show b∈([]:List Addr) from hb) (by simp),hok,.of_eq hg,HndH.none rfl⟩
  refine codeAny_mono ((F _ hKb (nsK hns)).run callerA [] s₁ H ⟨[.ref a],[]⟩ [.ref a] [.ref a] _ _ hr e0 (hbind s₁ (.ref a)) (.cons rfl .nil) (hsp H hO hS)) fun r s' h => ?_
  cases r with
  |error e=>exact (hCX H e s' h).elim
  |ok fl =>
   cases fl with
   |next=>exact False.elim h
   |brk=>exact False.elim h
   |cont=>exact False.elim h
   |ret u =>
    obtain ⟨v,H',os,bare,un,hok',r',q⟩:=h
    have q':v = .bl true:=q
    subst q'
    obtain rfl:u=Value.bool true:=r'
    refine ⟨rfl,OldK.of_keep fun b o e => ?_,os,bare⟩
    cases q:H b with
    |none=>exact un.keep b o e q (by intro z;exact absurd (show b∈([]:List Addr) from z) (by simp)) (by simp)
    |some u =>
     rcases hO b with z |⟨ob,xs,z⟩
     ·rw [q] at z;cases z
     ·have z2:=un.frzs b ob _ z
      obtain ⟨e1,_⟩:=hok b _ z
      obtain ⟨e2,_⟩:=hok' b _ z2
      rw [e] at e1;cases e1
      exact e2
 cases hk:K.lookup a with
 |some o =>
  -- the script is one of the module's own objects
  have e:=KX a o hk
  rw [ha] at e
  cases e
  refine core (fun _=>none) (fun _ => .inl rfl) (.inr ⟨_,vs.toArray,_,hk,rfl,rfl,rfl,by rw [AV,lenV];exact hl,by simpa using rv⟩) (fun b u z=>by have z':(none:Option HO)=some u:=z;cases z') (fun b z=>absurd rfl z) fun z=>absurd rfl z
 |none =>
  refine core (fun b=>if b=a then some (.frz { cls := .type "list",data := .seq vs.toArray } (.lst (ns.map V.int))) else none) (fun b => ?_) (.inl (.inr ⟨{ cls := .type "list",data := .seq vs.toArray },AG rfl⟩)) (fun b u z => ?_) (fun b z => ?_) fun _=>hk
  ·by_cases hb:b=a
   ·exact .inr ⟨_,_,AG hb⟩
   ·exact .inl (AH hb)
  ·by_cases hb:b=a
   ·have z':=(AG hb).symm.trans z
    cases z'
    subst hb
    exact ⟨ha,by rw [AC];exact hl,vs,_,rv,ha⟩
   ·have z':=(AH hb).symm.trans z
    cases z'
  ·by_cases hb:b=a
   ·exact hb
   ·exact absurd (AH hb) z
end L2
namespace L2
open PySem PySem.Spec PyProof.Rows
end L2
namespace L2
open PySem PySem.Spec PyProof.Rows
def qj (s:Stmt):Arguments:=match s with
 | .FunctionDef _ a _ _ _ _ _ _ _ _=>a
 |_=>{ posonlyargs:=[],args:=[],vararg:=none,kwonlyargs:=[],kw_defaults:=[],kwarg:=none,defaults:=[] }
def qf (s:Stmt):List Stmt:=match s with
 | .FunctionDef _ _ b _ _ _ _ _ _ _=>b
 |_=>[]
def qI (s:Stmt):Scope:=match s with
 | .FunctionDef _ _ _ _ _ _ sc _ _ _=>sc
 |_=>{ kind := .function,names:=[],isGenerator:=false,isCoroutine:=false }
abbrev E0:XK:=fun _ _ _=>False
structure Fun (K:W.Frag) (x qual:Str) (st:Stmt) (f:Addr) (fd:FuncData):Prop where
 ex:∃ (oc:Value) (od:Option Addr) (kV doc pm:Value) (an:Option Addr) (cdv ct:Value) (osl:Array (Option Value)),
  fd=W.fnOf x qual (qj st) (qf st) (qI st) .none kV doc pm an cdv ct∧K.lookup f=some ⟨oc,od,.func fd,osl⟩∧W.codeIn K cdv qual=true
 kp:W.keepIn K (.ref f)=true
section
variable {P:Program} {w:World} {K:W.Frag} {mg:Str->Option Value} {base:Heap}
theorem Fun.binds {x qual:Str} {st:Stmt} {f:Addr} {fd:FuncData} {ps:List Str} (F:Fun K x qual st f fd)
  (h:∀ (kV doc pm:Value) (an:Option Addr) (cdv ct:Value) (us:List Value),us.length=ps.length->bindArgs (W.fnOf x qual (qj st) (qf st) (qI st) .none kV doc pm an cdv ct) ⟨us,[]⟩=pure (ps.zip us)):Binds K fd ps []:=by
 obtain ⟨oc,od,kV,doc,pm,an,cdv,ct,osl,rfl,lk,hcd⟩:=F.ex
 exact .all (h kV doc pm an cdv ct)
theorem QK {x qual:Str} {st:Stmt} {f:Addr} {oc:Value} {od an:Option Addr} {osl:Array (Option Value)} {kV doc pm cdv ct:Value} (l:K.lookup f=some ⟨oc,od,.func (W.fnOf x qual (qj st) (qf st) (qI st) .none kV doc pm an cdv ct),osl⟩)
  (c:W.codeIn K cdv qual=true) (k:W.keepIn K (.ref f)=true):Fun K x qual st f (W.fnOf x qual (qj st) (qf st) (qI st) .none kV doc pm an cdv ct):=⟨⟨oc,od,kV,doc,pm,an,cdv,ct,osl,rfl,l,c⟩,k⟩
end
section
variable {X:Cx}
theorem pv (i:Nat) {x:Str} {pos:Pos} (hN:X.N[i]? = some x:=by rfl) (hv:Vis X.env.scope x:=by first |exact Or.inl rfl |exact Or.inr (Or.inl rfl) |exact Or.inr (Or.inr rfl)) (hd:(x==("__debug__":Str))=false:=by decide)
  (hcd:(x==("__classdict__":Str))=false:=by decide):PE X (.Name x pos) (qG1 i):=qG9 hN hv hd hcd
end
theorem qBy {A B:Prop} (h:B):if false=true then A else B:=by
 rw [AH Ba]
 exact h
theorem qBf {A B:Prop} (h:A):if true=true then A else B:=by
 rw [AG rfl]
 exact h
def Same (H H':Hp):Prop := ∀ b o,H b=some o->H' b=some o
theorem Same.refl (H:Hp):Same H H:=fun _ _ h=>h
end L2
end
section
namespace L2
open PySem PySem.Spec PyProof.Rows
end L2
namespace L2
open PySem PySem.Spec PyProof.Rows
end L2
end
section
namespace EX
open PySem PySem.Spec PyProof.Rows
def Trc (h B:Heap) (e:Addr) (cls:Value) (dd:Option Addr) (fl:Value):Prop :=
 ∃ oe vs T oT ts,h.get? e=some oe∧oe.cls=cls∧oe.dict=dd∧oe.data = .fields vs∧vs[1]? = some (Value.ref T)∧vs[2]? = some Value.none∧B.get? T=none∧T≠e∧h.get? T=some oT∧oT.data = .fields ts∧ts[3]? = some fl
def Fly (B:Heap) (l:List Env) (e:Addr) (cls:Value) (dd:Option Addr) (fl:Value) (h:Heap):Prop:=B.StaysIn h∧B.get? e=none∧h.FunFrames B l∧Trc h B e cls dd fl
theorem Fly.tail {B h:Heap} {env:Env} {l:List Env} {e:Addr} {cls fl:Value} {dd:Option Addr} (x:Fly B (env::l) e cls dd fl h):Fly B l e cls dd fl h:=⟨x.1,x.2.1,x.2.2.1.2.2,x.2.2.2⟩
section
variable {M:Model} {A:Around} {E:Value->Shared->Prop} {s:Shared} {B:Heap} {env:Env} {outer:List Env} {L e:Addr} {cls:Value} {dd:Option Addr} {Q:Unit->Shared->Prop}
theorem qDW {oe:Obj} {vs:Array Value} {head:Value} {nx:Bool} (f1:A.frames=some (env::outer)) (f2:s.heap.FunFrames B (env::outer)) (f3:env.frame=some L) (k1:B.StaysIn s.heap) (k2:B.get? e=none)
  (g1:s.heap.get? e=some oe) (g2:oe.data = .fields vs) (g3:1 < vs.size) (g4:vs[2]? = some Value.none) (h:∀ h',Fly B (env::outer) e oe.cls oe.dict (rawInt L) h'->s.heap.UpToSlots h'->Q () { s with heap:=h' }) :
  wpAny M A (do let a ← frameOf env;let pl ← entryPlaceOf L nx;let b ← EntryCells.newEntry head a .none (rawInt L) .none pl;setField (.ref e) 1 b) Q E s:=by
 have nfr:e ∉ (env::outer).filterMap (·.frame):=fun hm=>by
  obtain ⟨_,o,ho,hnf⟩:=f2.mem hm
  rw [g1] at ho;cases ho;exact hnf vs g2
 refine AA (wpAny_frameOf_fun f1 f2 f3 fun h1 so=>AA (wpAny_entryPlaceOf fun pl hpl => ?_))
 unfold EntryCells.newEntry newFields
 refine AA (CI ?_ (hpl.sizeOk5 _ _ _ _ _))
 generalize hts:([head,Value.ref L,.none,rawInt L,.none]++(if pl.isEmpty then List.replicate 6 Value.none else pl)).toArray=ts
 have ht3:ts[3]? = some (rawInt L):=by rw [← hts];first |(simp;done) |(rcases hpl with rfl |⟨_,_,_,_,_,_,_,rfl⟩ <;> simp)
 have a1:h1.get? e=some oe:=(so.2.1 e nfr).trans g1
 have kb:B.StaysIn h1:=fun b o q=>(so.2.1 b fun hm=>by rw [(f2.mem hm).1] at q;cases q).trans (k1 b o q)
 have a2:=AF (h:=h1) { cls := .type "traceback",dict:=none,data := .fields ts } a1
 refine BZ a2 g2 g3 (h _ ?_ ?_)
 ·have ne1:h1.objs.size≠e:=Nat.ne_of_gt (AK a1)
  have d3:=BA g2 (·.setIfInBounds 1 (Value.ref h1.objs.size))
  have a3:=Av (Obj.mapFields (·.setIfInBounds 1 (Value.ref h1.objs.size))) a2 (Bs d3)
  have a4:=(Ah (h1.push { cls := .type "traceback",dict:=none,data := .fields ts }) (Obj.mapFields (·.setIfInBounds 1 (Value.ref h1.objs.size))) (Ne.symm ne1)).trans (AW h1 rfl)
  have kp:∀ b o,b≠e->h1.get? b=some o->((h1.push { cls := .type "traceback",dict:=none,data := .fields ts }).update e (Obj.mapFields (·.setIfInBounds 1 (Value.ref h1.objs.size)))).get? b=some o:=fun b o hb q =>
   (Ah _ _ (Ne.symm hb)).trans (AF _ q)
  refine ⟨fun b o q=>kp b o (fun z=>by rw [z,k2] at q;cases q) (kb b o q),k2,f2.of_keeps fun b o q nf => ?_,_,_,h1.objs.size,_,ts,a3,Obj.cls_mapFields _ _,?_,d3,?_,?_,kb.fresh,ne1,a4,rfl,ht3⟩
  ·obtain ⟨sl,q2⟩:=so.2.2 b o q
   exact ⟨_,kp b _ (fun z=>by rw [z,g1] at q;cases q;exact nf vs g2) q2,rfl⟩
  ·obtain ⟨c,d,dt,sl⟩:=oe
   have g2:dt = .fields vs:=g2
   subst g2;rfl
  ·simp [g3]
  ·rw [Array.getElem?_setIfInBounds_ne (by decide)];exact g4
 ·intro b o q nf
  have hb:b≠e:=fun z=>by rw [z,g1] at q;cases q;exact nf vs g2
  obtain ⟨sl,q2⟩:=so.2.2 b o q
  exact ⟨sl,(Ah _ _ (Ne.symm hb)).trans (AF _ q2)⟩
theorem qBv (f1:A.frames=some (env::outer)) (f3:env.frame=some L) (x:Fly B (env::outer) e cls dd .none s.heap) (h:∀ h',Fly B (env::outer) e cls dd (rawInt L) h'->s.heap.UpToSlots h'->Q () { s with heap:=h' }) :
  wpAny M A (noteFrame (.ref e) env) Q E s:=by
 obtain ⟨k1,k2,f2,oe,vs,T,oT,ts,g1,rfl,rfl,g2,g3,g4,t1,t2,t3,t4,t5⟩:=x
 unfold noteFrame
 simp only [f3]
 refine AA (Bc g1 g2 g3 ?_)
 rw [AG (show (Value.ref T != Value.none)=true by simp)]
 refine AA (Bc t3 t4 t5 ?_)
 rw [AH (show ¬ ((Value.none==rawInt L)=true) by simp [rawInt])]
 refine AA (BZ t3 t4 (BV.mp t5).1 ?_)
 have ot:∀ b,b≠T->(s.heap.update T (Obj.mapFields (·.setIfInBounds 3 Value.none))).get? b=s.heap.get? b:=fun b hb=>Ah _ _ (Ne.symm hb)
 have nr:∀ b o,s.heap.get? b=some o->(∀ us,o.data ≠ .fields us)->b≠T:=fun b o q nf z=>by rw [z,t3] at q;cases q;exact nf ts t4
 refine qDW f1 (f2.of_keeps fun b o q nf=>⟨o,(ot b (nr b o q nf)).trans q,rfl⟩) f3 (fun b o q=>(ot b fun z=>by rw [z,t1] at q;cases q).trans (k1 b o q)) k2 ((ot e (Ne.symm t2)).trans g1) g2 (BV.mp g3).1 g4 fun h' x u=>h h' x fun b o q nf => ?_
 exact u b o ((ot b (nr b o q nf)).trans q) nf
theorem qIR {l:List Env} {fl:Value} (x:Fly B l e cls dd fl s.heap) (h:∀ h',Fly B l e cls dd .none h'->s.heap.UpToSlots h'->Q () { s with heap:=h' }):wpAny M A (setFlight (.ref e) none) Q E s:=by
 obtain ⟨k1,k2,f2,oe,vs,T,oT,ts,g1,g0,g00,g2,g3,g4,t1,t2,t3,t4,t5⟩:=x
 have t6:3 < ts.size:=(BV.mp t5).1
 have ot:∀ b,b≠T->(s.heap.update T (Obj.mapFields (·.setIfInBounds 3 ((none:Option Addr).elim Value.none fun f=>rawInt f)))).get? b=s.heap.get? b:=fun b hb=>Ah _ _ (Ne.symm hb)
 have nr:∀ b o,s.heap.get? b=some o->(∀ us,o.data ≠ .fields us)->b≠T:=fun b o q nf z=>by rw [z,t3] at q;cases q;exact nf ts t4
 unfold setFlight
 refine AA (Bc g1 g2 g3 ?_)
 rw [AG (show (Value.ref T != Value.none)=true by simp)]
 refine BZ t3 t4 t6 (h _ ⟨fun b o q=>(ot b fun z=>by rw [z,t1] at q;cases q).trans (k1 b o q),k2,f2.of_keeps fun b o q nf=>⟨o,(ot b (nr b o q nf)).trans q,rfl⟩,?_⟩ fun b o q nf=>⟨o.slots,(ot b (nr b o q nf)).trans q⟩)
 exact ⟨oe,vs,T,_,_,(ot e (Ne.symm t2)).trans g1,g0,g00,g2,g3,g4,t1,t2,Av _ t3 (Bs (BA t4 _)),BA t4 _,by simp [t6]⟩
theorem JG (f1:A.frames=some (env::outer)) (f3:env.frame=some L) (x:Fly B (env::outer) e cls dd .none s.heap) (h:∀ h',Fly B outer e cls dd .none h'->s.heap.UpToSlots h'->Q () { s with heap:=h' }) :
  wpAny M A (leaving env (.ref e)) Q E s:=by
 unfold leaving
 exact AA (qBv f1 f3 x fun h1 x1 u1=>qIR x1 fun h2 x2 u2=>h h2 x2.tail (u1.trans u2))
end
end EX
end
section
namespace EX
open PySem PySem.Spec PyProof.Rows L2
structure UnB (fs:List Addr) (H H1:Hp) (h B:Heap):Prop where
 keep:∀ b o,h.get? b=some o->H b=none->b ∉ fs->B.get? b=some o
 free:∀ b o,h.get? b=some o->H b=none->H1 b=none
 there:∀ b o,h.get? b=some o->b ∉ fs -> ∃ o',B.get? b=some o'
 tups:∀ b xs,H b=some (.tup xs)->H1 b=some (.tup xs)
 frzs:∀ b o u,H b=some (.frz o u)->H1 b=some (.frz o u)
 tbls:∀ b ps,H b=some (.tbl ps) -> ∃ more,H1 b=some (.tbl (ps++more))
def CXF (P:Program) (w:World):CXT:=fun outer H s E e s' =>
 ∃ ea cls dd B H1,e=Value.ref ea∧Fly B outer ea cls dd .none s'.heap∧HOk P w H1 B∧s'.os=s.os∧AllBare s'.gens∧UnB (frs outer) H H1 s.heap B ∧
  (∀ b∈frs outer,∀ o,s.heap.get? b=some o -> ∃ sl,s'.heap.get? b=some { o with slots:=sl })∧E cls dd H1
theorem qD7 {env:Env} {outer:List Env} {L:Addr} (h:env.frame=some L):frs (env::outer)=L::frs outer:=by
 unfold frs;rw [Bl,h]
section
variable {P:Program} {w:World} {K:W.Frag} {mg:Str->Option Value} {base:Heap} {N:List Str} {qual:Str} {scope:Scope} {f:Addr} {cd:Value} {A:Around} {outer:List Env} {s₀:Shared} {H₀:Hp} {E:XK}
theorem qW:ZZ (CXF P w) (Wd (CXF P w) P w K mg base N qual scope f cd A outer s₀ H₀ E) E:=by
 intro pins σ H s e s' I c
 obtain ⟨ea,cls,dd,B,H1,rfl,fl,hok,os,bare,un,sl,q⟩:=c
 have hfr:(envOfC qual scope s₀.heap.objs.size f cd).frame=some s₀.heap.objs.size:=rfl
 have ef:frs (Wd (CXF P w) P w K mg base N qual scope f cd A outer s₀ H₀ E).stack=s₀.heap.objs.size::frs outer:=qD7 hfr
 have Ib:Un (frs outer) [] H₀ H s₀.heap s.heap:=I.base
 have ne:∀ b o,s₀.heap.get? b=some o->b≠s₀.heap.objs.size:=fun b o e=>AX (AK e)
 refine JG I.ok.frames hfr fl fun h' x u=>⟨ea,cls,dd,B,H1,rfl,x,hok,os.trans I.os,bare,?_,fun b hb o e => ?_,q⟩
 ·refine ⟨fun b o e n hb => ?_,fun b o e n => ?_,fun b o e hb => ?_,fun b xs e=>un.tups b xs (Ib.tups b xs e),fun b o u e=>un.frzs b o u (Ib.frzs b o u e),fun b ps e => ?_⟩
  ·exact un.keep b o (Ib.keep b o e n hb (by simp)) (Ib.free b o e n (by simp)) (by rw [ef];intro z;exact (AL.mp z).elim (ne b o e) hb)
  ·obtain ⟨o',e'⟩:=Ib.there b o e (by simp)
   exact un.free b o' e' (Ib.free b o e n (by simp))
  ·obtain ⟨o',e'⟩:=Ib.there b o e (by simp)
   exact un.there b o' e' (by rw [ef];intro z;exact (AL.mp z).elim (ne b o e) hb)
  ·obtain ⟨m1,e1⟩:=Ib.tbls b ps e
   obtain ⟨m2,e2⟩:=un.tbls b _ e1
   exact ⟨m1++m2,by rw [e2,Array.append_assoc]⟩
 ·obtain ⟨sl1,e1⟩:=Ib.slot b o e (I.ok.frf b hb) hb (by simp)
  obtain ⟨sl2,e2⟩:=sl b (by rw [ef];exact AB _ hb) _ e1
  have nf:∀ vs,o.data ≠ .fields vs:=by
   obtain ⟨_,o2,ho2,nf⟩:=I.ok.funs.mem hb
   have e:(Wd (CXF P w) P w K mg base N qual scope f cd A outer s₀ H₀ E).s₀.heap.get? b=some o:=e
   rw [e] at ho2;cases ho2;exact nf
  obtain ⟨sl3,e3⟩:=u b _ e2 nf
  exact ⟨sl3,e3⟩
end
section
variable {prog:Program} {w:World} {A:Around} {E:Value->Shared->Prop} {s:Shared} {K:W.Frag} {x D:Addr} {ox:Obj} {od:Option Obj}
structure ExcK (K:W.Frag) (D:Addr):Prop where
 ga:W.findIn K (.ref D) "__getattribute__" = some (some (.builtin "BaseException.__getattribute__"))
 gn:W.findIn K (.ref D) "__getattr__" = some none
 fo:∀ od,W.findObj K D od "__class__" = some (.bind (.builtin "getset_descriptor.__get__") (.builtin "object.__class__"))
 mo:W.mroIn K D (.type "object")=some true
 mb:W.mroIn K D (.type "BaseException")=some true
theorem qBr {Q:Option Value->Shared->Prop} (C:ExcK K D) (X:K.In s.heap) (I:W.InstAt s.heap x ox D od) (h:Q (some (.ref D)) { s with toks:=s.toks + 1 }):wpAny (model prog w) A (getAttr? (.ref x) "__class__") Q E s:=by
 obtain ⟨hh,g,d,t,os⟩:=s
 have L0:=I.type (M:=model prog w)
 have L1:=W.looks_findIn (M:=model prog w) X C.ga
 have L2:=W.looks_findIn (M:=model prog w) X C.gn
 have L3:=W.looks_find (M:=model prog w) X I (C.fo od)
 have L4:=W.looks_mroIn (M:=model prog w) X C.mb
 have LI:W.Looks (model prog w) hh (isInstance (.ref x) (.type "BaseException")) true:=L0.andThen L4
 have f3:=F.attr_ValueError.ga.bind (.ref x)
 unfold getAttr? getAttrBy? getAttrBy
 refine AA (wpAny_mkText (AA (CA (Ao (AA (L0.at (AA (L1.at ?_))))))))
 show wpAny _ _ (getAttrByItsOwn _ _ _ _ _ _) _ _ _
 unfold getAttrByItsOwn
 refine AA (L2.at (AA (CA (Ao ?_))))
 show wpAny _ _ (boundAndCalled _ _ _) _ _ _
 unfold boundAndCalled
 refine AA (AZ f3 ?_)
 refine Bf (B0 F.attr_ValueError.ga.plain F.entry_bexc_ga ?_)
 have hk:builtinKind "BaseException.__getattribute__" = some .slot:=by decide +kernel
 have hsp:splitId "BaseException.__getattribute__" = some ("BaseException","__getattribute__"):=by decide +kernel
 have ha:=F.args_bexc_ga (.ref x) (.str "__class__" t)
 simp only [checkBuiltinCall,hk,hsp]
 refine AA (LI.at ?_)
 rw [AH (show ¬ ((!true)=true) by decide)]
 refine AZ (a:=()) ha ?_
 show wpAny _ A.in1 (Builtin.«object.__getattribute__» ⟨[.ref x,.str "__class__" t],[]⟩) _ _ _
 unfold Builtin.«object.__getattribute__»
 refine AA (AD ?_)
 refine AA (AD ?_)
 refine AA (L0.at (AA (L3.at ?_)))
 show wpAny _ A.in1 (holding [Value.builtin "object.__class__"] (call (.builtin "getset_descriptor.__get__") [.builtin "object.__class__",.ref x,.ref D]) >>= ret) _ _ _
 refine AA (Ao (Bf (W.class_get X I C.mo ?_)))
 exact AD (AD (AD h))
end
section
variable {X:Cx} {pins:List (Addr×Obj)} {σ:L2.St} {H:Hp} {s:Shared} {xe:Value->Shared->Prop}
theorem got {P:Program} {w:World} {H:Hp} {h:Heap} {a:Addr} {o:HO} (x:ObjOk P w H h a o):∃ u,h.get? a=some u:=by
 cases o with
 |lst xs=>obtain ⟨_,_,_,_,e⟩:=x;exact ⟨_,e⟩
 |tup xs=>obtain ⟨_,_,_,o,e,_⟩:=x;exact ⟨_,e⟩
 |dK kvs=>obtain ⟨_,_,_,_,o,_,_,e,_⟩:=x;exact ⟨_,e⟩
 |dT kvs=>obtain ⟨_,_,_,_,o,_,_,e,_⟩:=x;exact ⟨_,e⟩
 |set S n=>obtain ⟨o,_,_,_,e,_⟩:=x;exact ⟨_,e⟩
 |ins C dx fs=>obtain ⟨_,_,_,e,_⟩:=x;exact ⟨_,e⟩
 |own y=>exact x
 |xd fs=>obtain ⟨_,⟨_,_,_,e,_⟩,_⟩:=x;exact ⟨_,e⟩
 |rng lo hi=>obtain ⟨_,_,_,e⟩:=x;exact ⟨_,e⟩
 |frz ob u=>obtain ⟨e,_⟩:=x;exact ⟨_,e⟩
 |tbl ps=>exact ⟨_,x⟩
 |met f y=>exact ⟨_,x⟩
 |ext φ=>obtain ⟨_,e,_⟩:=x;exact e
end
def yN (A:Around):List Addr:=match A.handled with
 |some (.ref ea)=>[ea]
 |_=>[]
theorem Hnd.frame {A:Around} {h h':Heap} (x:Hnd A h) (k:∀ b∈yN A,∀ o,h.get? b=some o->h'.get? b=some o):Hnd A h':=fun v hv=>by
 obtain ⟨ea,oe,vs,e1,e2,e3⟩:=x v hv
 subst e1
 exact ⟨ea,oe,vs,rfl,k ea (by unfold yN;rw [hv];simp) oe e2,e3⟩
theorem qIr {A:Around} {I:Addr} (hI:∀ ea∈yN A,ea≠I):∀ v,A.handled=some v->v ≠ .ref I:=fun v hv z=>by
 subst z
 exact hI I (by unfold yN;rw [hv];simp) rfl
theorem qAA {prog:Program} {w:World} {A:Around} (I ax:Addr) (hne:ax≠I) (items:Array Value) (hI:∀ ea∈yN A,ea≠I) :
  Walks prog w A I (I::ax::yN A) [I] items.size (fun i v=>items[i]? = some v) (fun i h=>(h.IsListIter I ax i∧h.IsList ax items)∧Hnd A h) where
 sub:=fun b hb=>by simp at hb;simp [hb]
 frame:=fun _ _ _ st hk=>⟨⟨st.1.1.at fun o e=>hk I (by simp) o e,st.1.2.at fun o e=>hk ax (by simp) o e⟩,st.2.frame fun b hb o e=>hk b (by simp [hb]) o e⟩
 item:=fun i s Q E hi st hQ=>wpAny_pyNext_list_item st.1.1 st.1.2 (x:=items[i]) (by simp [hi]) fun h' z1 z2 =>
  hQ _ h' s.toks (by simp [hi]) ⟨⟨z1,st.1.2.extBut z2.extBut hne⟩,st.2.frame fun b hb o e=>(z2.2 b (hI b hb)).trans e⟩ fun b o hb e=>z2.extBut b o (fun h=>hb (by simp [h])) e
 done:=fun s Q E st hQ=>list_end st.2 st.1.1 st.1.2 (by simp) (qIr hI) fun h' z=>hQ h' s.toks fun b o hb e=>z b o (fun h=>hb (by simp [h])) e
 self:=fun _ _ _ _ st hQ=>wpAny_pyIter_listiter st.1.1 hQ
section
variable {X:Cx} {pins:List (Addr×Obj)} {σ:L2.St} {H:Hp} {s:Shared}
theorem qHo (I:L2.Inv X pins σ H s):∀ ea∈yN X.A,ea≠s.heap.objs.size:=fun ea hea=>by
 have hd:X.A.handled=some (.ref ea):=by
  unfold yN at hea
  split at hea
  ·rename_i a ha;rw [Ai.mp hea];exact ha
  ·cases hea
 obtain ⟨a,oe,vs,e1,e2,_⟩:=I.hndH _ hd
 cases e1
 exact AX (AK e2)
theorem Yf (I:L2.Inv X pins σ H s) {p:Addr} {its:List Value} (pl:PlainL s.heap p its.toArray) {E:Value->Shared->Prop} {Q:Value->Shared->Prop}
  (h:Walks X.prog X.w X.A.in1 s.heap.objs.size (s.heap.objs.size::p::yN X.A) [s.heap.objs.size] its.toArray.size (fun i v=>its.toArray[i]? = some v) (fun i h=>(h.IsListIter s.heap.objs.size p i∧h.IsList p its.toArray)∧Hnd X.A.in1 h) ->
   ((s.heap.push { cls := .type "list_iterator",data := .fields #[.ref p,.int 0 0] }).IsListIter s.heap.objs.size p 0∧(s.heap.push { cls := .type "list_iterator",data := .fields #[.ref p,.int 0 0] }).IsList p its.toArray)∧Hnd X.A.in1 (s.heap.push { cls := .type "list_iterator",data := .fields #[.ref p,.int 0 0] }) ->
   (∀ b∈s.heap.objs.size::p::yN X.A,b < (s.heap.push { cls := .type "list_iterator",data := .fields #[.ref p,.int 0 0] }).objs.size) ->
   (∀ h':Heap,(∀ b o,b ∉ [s.heap.objs.size]->(s.heap.push { cls := .type "list_iterator",data := .fields #[.ref p,.int 0 0] }).get? b=some o->h'.get? b=some o) -> ∀ b o,s.heap.get? b=some o->h'.get? b=some o) ->
   Q (.ref s.heap.objs.size) { s with heap:=s.heap.push { cls := .type "list_iterator",data := .fields #[.ref p,.int 0 0] } }) :
  wpAny (model X.prog X.w) X.A.in1 (pyIter (.ref p)) Q E s:=by
 obtain ⟨ob,po,_⟩:=id pl.isList
 have hlt:p < s.heap.objs.size:=AK po
 refine wpAny_pyIter_list pl.isList (h (qAA _ p (AX hlt) _ (qHo I)) ⟨⟨⟨_,AW _ rfl,rfl,rfl⟩,pl.isList.at fun o e=>AF _ e⟩,?_⟩ (fun b hb => ?_) fun h' k b o e => ?_)
 ·exact Hnd.frame (show Hnd X.A.in1 s.heap from I.hndH) fun b _ o e=>AF _ e
 ·rw [BO]
  rcases AL.mp hb with rfl |hb
  ·exact Nat.lt_succ_self _
  ·rcases AL.mp hb with rfl |hb
   ·exact A2 hlt
   ·have hd:X.A.handled=some (.ref b):=by
     unfold yN at hb
     split at hb
     ·rename_i a ha;rw [Ai.mp hb];exact ha
     ·cases hb
    obtain ⟨a,oe,vs,e1,e2,_⟩:=I.hndH _ hd
    cases e1
    exact A2 (AK e2)
 ·exact k b o (by simp;exact AX (AK e)) (AF _ e)
theorem qBC:∀ {bs:List Bool} {us:List Value},Vals (bs.map V.bl) us->us=bs.map Value.bool
 |[],_,.nil=>rfl
 |b::bs,_,.cons r t=>by rw [show _=Value.bool b from r,qBC t];rfl
theorem j5:∀ {ns:List Int} {us:List Value} {i:Nat} {v:Value},Vals (ns.map V.int) us->us[i]? = some v -> ∃ t,v=Value.int (ns.getD i 0) t
 |[],_,_,_,.nil,e=>by simp at e
 |n::ns,_,0,_,.cons r t,e=>by simp at e;subst e;exact r
 |n::ns,_,i + 1,v,.cons r t,e=>by simpa using j5 (i:=i) t (by simpa using e)
theorem qDa {prog:Program} {w:World} {A:Around} {bs:List Bool}:TruthOf prog w A (fun i v=>(bs.map Value.bool).toArray[i]? = some v) (fun i=>bs.getD i false):=fun i v s Q E hP hQ=>by
 have hP:(bs.map Value.bool).toArray[i]? = some v:=hP
 rw [List.getElem?_toArray,Ag] at hP
 cases e:bs[i]? with
 |none=>rw [e] at hP;cases hP
 |some b =>
  rw [e] at hP;cases hP
  have hQ:Q (bs.getD i false) s:=hQ
  rw [AJ,e] at hQ
  exact AD hQ
theorem qBh (bs:List Bool):(List.range bs.length).all (fun i=>bs.getD i false)=bs.all id:=by
 induction bs with
 |nil=>rfl
 |cons b bs ih =>
  rw [AT,CH,List.all_cons,List.all_map,List.all_cons]
  have:(((fun i=>(b::bs).getD i false) ∘ Nat.succ))=fun i=>bs.getD i false:=by funext i;simp
  rw [this,ih];simp
theorem qCA:zT X (.builtin "all") (fun xs H Q => ∃ (p:Addr) (bs:List Bool),xs=[.ref p]∧SqL X.K H p (bs.map V.bl)∧Q (.bl (bs.all id)) H):=by
 intro pins s σ H xs us Q I r h
 obtain ⟨p,bs,rfl,hq,q⟩:=h
 obtain ⟨u,rfl,rx⟩:=qBT r
 cases rx
 obtain ⟨its,r',pl,hz⟩:=I.list hq
 have e:=qBC r'
 subst e
 refine call_all_walk (Yf I pl fun W st fp k=>⟨_,_,_,_,_,_,_,rfl,W,st,qDa,fun h' tk hk => ?_⟩)
 rw [show (bs.map Value.bool).toArray.size=bs.length by simp,qBh]
 exact ⟨.bl _,H,I.kept (k h' hk),rfl,q⟩
theorem Zq (ns:List Int):∀ k,k≤ns.length->preSum (fun i=>ns.getD i 0) k=(ns.take k).sum
 |0,_=>by simp [preSum]
 |k + 1,h=>by
  have hk:k < ns.length:=h
  rw [preSum,Zq ns k (CZ hk),B5 hk,List.sum_append]
  simp [AJ,hk]
theorem qCC:zT X (.builtin "sum") (fun xs H Q => ∃ (p:Addr) (ns:List Int),xs=[.ref p]∧SqL X.K H p (ns.map V.int)∧Q (.int ns.sum) H):=by
 intro pins s σ H xs us Q I r h
 obtain ⟨p,ns,rfl,hq,q⟩:=h
 obtain ⟨u,rfl,rx⟩:=qBT r
 cases rx
 obtain ⟨its,r',pl,hz⟩:=I.list hq
 have hl:=r'.length
 refine call_sum_walkAnyS (Yf I pl fun W st fp k=>⟨_,_,_,_,_,_,_,fun i=>ns.getD i 0,rfl,W.toS,st,fp,fun i v hv=>j5 r' (by simpa using hv),fun s' t' m => ?_⟩)
 have hsz:its.toArray.size=ns.length:=by rw [AV,← hl,AC]
 rw [hsz,Zq ns _ (AM _),List.take_length]
 obtain ⟨hh,g,d,t,o⟩:=s'
 have g1:g=s.gens:=m.gens
 have d1:d=s.drawn:=m.drawn
 have o1:o=s.os:=m.os
 subst g1;subst d1;subst o1
 exact ⟨.int _,H,I.kept (k hh fun b o hb e=>m.heap b o hb e),⟨t',rfl⟩,q⟩
end
theorem qCZ {K:W.Frag} {x D:Addr} (C:ExcK K D):W.KitX K (.ref x) (.ref D) (fun h => ∃ ox od,W.InstAt h x ox D od):=by
 obtain ⟨cd,hcd,_⟩:=Option.bind_eq_some_iff.mp (C.fo none)
 unfold W.clsIn at hcd
 split at hcd
 ·rename_i c' d' cd' sl' ho
  refine ⟨fun _ _ _ ⟨ox,od,I⟩=>I.type,fun M h X p => ?_,fun h tp dd its n sl X htp => ?_,fun {prog w A E Q s} X ⟨ox,od,I⟩ k=>qBr C X I k⟩
  ·intro A' Q' E' s' k q
   unfold isType loadHead
   exact AA (wpAny_loadPart (k _ _ (X _ _ ho)) (AD q))
  ·refine Bool.eq_false_iff.mpr fun q => ?_
   have e:D=tp:=Value.ref.inj (CF.mp q)
   subst e
   have z:=(X _ _ ho).symm.trans htp
   cases z
 ·cases hcd
end EX
end
section
namespace EV
open PySem PySem.Spec PyProof.Rows L2
inductive PV where
 |non |bl (b:Bool) |int (i:Int) |str (x:Str) |tup (l:List PV) |lst (l:List PV) |ref (i:Nat) |dct |ty (n:String) |fn (a:Addr) |exc (c:Addr) (fs:List (Str×Int))
inductive SO where
 |l (xs:List PV)
 |d (kvs:List (List L2.Key×PV))
 |z (kvs:List (List L2.Key×PV))
abbrev qC:=List SO
structure Exc where
 cls:Addr
 fs:List (Str×Int)
inductive Rs (α:Type) where
 |ok (a:α) (st:qC) |ex (x:Exc) (st:qC) |no
def Rs.bind {α β:Type} (r:Rs α) (k:α->qC->Rs β):Rs β:=match r with
 | .ok a st=>k a st
 | .ex x st => .ex x st
 | .no => .no
abbrev QC:=List (Option PV)
abbrev FE:=QC->qC->Rs PV
abbrev FA:=QC->qC->Rs (List PV)
abbrev FT:=QC->qC->Rs Bool
inductive RS where
 |nx (e:QC) (st:qC) |rt (v:PV) (st:qC) |bk (e:QC) (st:qC) |ct (e:QC) (st:qC) |ex (x:Exc) (st:qC) |no
abbrev FS:=QC->qC->RS
structure Bz where
 b:List Addr
 z:List Addr
def Bz.out (b:Bz) (a:Addr):Prop:=a ∉ b.b∧a ∉ b.z
def KL (K:W.Frag) (a:Addr) (xs:List V):Prop :=
 ∃ (o:Obj) (its:Array Value) (n:Nat),K.lookup a=some o∧o.cls = .type "list" ∧ o.dict=none∧o.data = .seq its n∧its.size≤sizeLine∧Vals xs its.toList
def KT (K:W.Frag) (a:Addr) (xs:List V):Prop :=
 ∃ (o:Obj) (its:Array Value) (n:Nat),K.lookup a=some o∧o.cls = .type "tuple" ∧ o.data = .seq its n∧its.size≤sizeLine∧Vals xs its.toList
def LA (K:W.Frag) (H:Hp) (b:Bz) (a:Addr) (xs:List V):Prop:=(Rd H a (.lst xs)∧b.out a)∨KL K a xs
def TA' (K:W.Frag) (H:Hp) (b:Bz) (a:Addr) (xs:List V):Prop:=(H a=some (.tup xs)∧b.out a)∨KT K a xs
mutual
def RV (K:W.Frag) (H:Hp) (b:Bz):PV->V->Prop
 | .non,v=>v = .non
 | .bl x,v=>v = .bl x
 | .int i,v=>v = .int i
 | .str x,v=>v = .str x
 | .tup l,v => ∃ a xs,v = .ref a∧TA' K H b a xs∧RVs K H b l xs
 | .lst l,v => ∃ a xs,v = .ref a∧LA K H b a xs∧RVs K H b l xs
 | .ref i,v => ∃ a,v = .ref a∧b.b[i]? = some a
 | .dct,v => ∃ a,v = .ref a∧H a=some (.dK [])∧b.out a
 | .ty n,v=>v = .ty n
 | .fn a,v=>v = .ref a
 | .exc c fs,v => ∃ a o u,v = .ref a∧H a=some (.frz o u)∧b.out a∧o.cls = .ref c∧(∃ vs,o.data = .fields vs)∧((fs=[]∧o.dict=none) ∨ ∃ d,o.dict=some d∧H d=some (.xd (fs.map fun p=>(p.1,V.int p.2)))∧b.out d)
def RVs (K:W.Frag) (H:Hp) (b:Bz):List PV->List V->Prop
 |[],xs=>xs=[]
 |p::ps,xs => ∃ x r,xs=x::r∧RV K H b p x∧RVs K H b ps r
end
def SOk (K:W.Frag) (H:Hp) (b:Bz):SO->HO->Prop
 | .l xs,o => ∃ vs,o = .lst vs∧RVs K H b xs vs
 | .d kvs,o => ∃ vs,o = .dT vs∧kvs.map (·.1)=vs.map (·.1)∧RVs K H b (kvs.map (·.2)) (vs.map (·.2))
 | .z kvs,o => ∃ od vs,o = .frz od (.dT vs)∧kvs.map (·.1)=vs.map (·.1)∧RVs K H b (kvs.map (·.2)) (vs.map (·.2))
structure SR (K:W.Frag) (H:Hp) (b:Bz) (st:qC):Prop where
 len:b.b.length=st.length
 nd:b.b.Nodup
 at_:∀ (i:Nat) (x:SO),st[i]? = some x -> ∃ a o,b.b[i]? = some a∧H a=some o∧SOk K H b x o
 zo:∀ a∈b.z,∃ xs,H a=some (.lst xs)
 zb:∀ a∈b.z,a ∉ b.b
structure WE (H:Hp) (b:Bz) (H':Hp) (b':Bz):Prop where
 more:∃ n,b'.b=b.b++n ∧ ∀ a∈n,H a=none
 zm:∃ y,b'.z=y++b.z ∧ ∀ a∈y,H a=none
 keep:∀ a o,H a=some o->b.out a->H' a=some o
 dom:∀ a o,H a=some o -> ∃ o',H' a=some o'
theorem WE.refl (H:Hp) (b:Bz):WE H b H b:=⟨⟨[],by simp,by simp⟩,⟨[],rfl,by simp⟩,fun _ _ h _=>h,fun _ o h=>⟨o,h⟩⟩
theorem WE.none_of {H H':Hp} {b b':Bz} (e:WE H b H' b') {a:Addr} (h:H' a=none):H a=none:=by
 cases q:H a with
 |none=>rfl
 |some o=>obtain ⟨o',e'⟩:=e.dom a o q;rw [h] at e';cases e'
theorem WE.not_in {H H':Hp} {b b':Bz} (e:WE H b H' b') {a:Addr} {o:HO} (h:H a=some o) (hn:b.out a):b'.out a:=by
 obtain ⟨n,hb,hh⟩:=e.more
 obtain ⟨y,hz,hy⟩:=e.zm
 refine ⟨fun hm => ?_,fun hm => ?_⟩
 ·rw [hb] at hm
  rcases Ar.mp hm with hm |hm
  ·exact hn.1 hm
  ·rw [hh a hm] at h;cases h
 ·rw [hz] at hm
  rcases Ar.mp hm with hm |hm
  ·rw [hy a hm] at h;cases h
  ·exact hn.2 hm
theorem WE.trans {H H1 H2:Hp} {b b1 b2:Bz} (e:WE H b H1 b1) (f:WE H1 b1 H2 b2):WE H b H2 b2:=by
 obtain ⟨n,hn,hh⟩:=e.more
 obtain ⟨m,hm,hk⟩:=f.more
 obtain ⟨y,hz,hy⟩:=e.zm
 obtain ⟨x,hx,hw⟩:=f.zm
 refine ⟨⟨n++m,by rw [hm,hn,Aj],fun a ha => ?_⟩,⟨x++y,by rw [hx,hz,Aj],fun a ha => ?_⟩,fun a o h hb=>f.keep a o (e.keep a o h hb) (e.not_in h hb),fun a o h => ?_⟩
 ·rcases Ar.mp ha with ha |ha
  ·exact hh a ha
  ·exact e.none_of (hk a ha)
 ·rcases Ar.mp ha with ha |ha
  ·exact e.none_of (hw a ha)
  ·exact hy a ha
 ·obtain ⟨o',h'⟩:=e.dom a o h
  exact f.dom a o' h'
theorem WE.ix {H H':Hp} {b b':Bz} (e:WE H b H' b') {i:Nat} {a:Addr} (h:b.b[i]? = some a):b'.b[i]? = some a:=by
 obtain ⟨n,hb,_⟩:=e.more
 have hi:i < b.b.length:=(AO.mp h).1
 rw [hb,Ab hi];exact h
theorem WE.new {H:Hp} {b:Bz} {p:Addr} {o:HO} (h:H p=none):WE H b (upd H p o) b :=
 ⟨⟨[],by simp,by simp⟩,⟨[],rfl,by simp⟩,fun a u e _=>by rw [qV (qM e h)];exact e,fun a u e=>⟨u,by rw [qV (qM e h)];exact e⟩⟩
theorem WE.hide {H:Hp} {b:Bz} {p:Addr} {o:HO} (h:H p=none):WE H b (upd H p o) ⟨b.b,p::b.z⟩ :=
 ⟨⟨[],by simp,by simp⟩,⟨[p],rfl,fun a ha=>by rw [Ai.mp ha];exact h⟩,fun a u e _=>by rw [qV (qM e h)];exact e,fun a u e=>⟨u,by rw [qV (qM e h)];exact e⟩⟩
theorem WE.wr {H:Hp} {b:Bz} {p:Addr} {o:HO} (h:p∈b.b∨p∈b.z):WE H b (upd H p o) b :=
 ⟨⟨[],by simp,by simp⟩,⟨[],rfl,by simp⟩,fun a u e hb=>by rw [qV (fun z=>h.elim (fun q=>hb.1 (by rw [z];exact q)) fun q=>hb.2 (by rw [z];exact q))];exact e,fun a u e=>by
  by_cases hz:a=p
  ·exact ⟨o,by rw [hz];exact Qk⟩
  ·exact ⟨u,by rw [qV hz];exact e⟩⟩
theorem Rd.some_of {H:Hp} {a:Addr} {u:HO} (h:Rd H a u):∃ o,H a=some o:=h.elim (fun h=>⟨_,h⟩) fun ⟨_,h⟩=>⟨_,h⟩
theorem Rd.wext {H H':Hp} {b b':Bz} {a:Addr} {u:HO} (e:WE H b H' b') (h:Rd H a u∧b.out a):Rd H' a u∧b'.out a:=by
 obtain ⟨o,ho⟩:=Rd.some_of h.1
 refine ⟨?_,e.not_in ho h.2⟩
 rcases h.1 with q |⟨o',q⟩
 ·exact .inl (e.keep _ _ q h.2)
 ·exact .inr ⟨o',e.keep _ _ q h.2⟩
theorem LA.wext {K:W.Frag} {H H':Hp} {b b':Bz} {a:Addr} {xs:List V} (e:WE H b H' b') (h:LA K H b a xs):LA K H' b' a xs:=h.elim (fun h => .inl (Rd.wext e h)) .inr
theorem TA'.wext {K:W.Frag} {H H':Hp} {b b':Bz} {a:Addr} {xs:List V} (e:WE H b H' b') (h:TA' K H b a xs):TA' K H' b' a xs:=h.elim (fun h => .inl ⟨e.keep _ _ h.1 h.2,e.not_in h.1 h.2⟩) .inr
theorem LA.sq {K:W.Frag} {H:Hp} {b:Bz} {a:Addr} {xs:List V} (h:LA K H b a xs):SqL K H a xs:=h.elim (fun h => .inl h.1) .inr
theorem TA'.sq {K:W.Frag} {H:Hp} {b:Bz} {a:Addr} {xs:List V} (h:TA' K H b a xs):SqT K H a xs:=h.elim (fun h => .inl (.inl h.1)) .inr
mutual
theorem RV.wext {K:W.Frag} {H H':Hp} {b b':Bz} (e:WE H b H' b'):∀ (p:PV) {v:V},RV K H b p v->RV K H' b' p v
 | .non,_,h=>by unfold RV at h ⊢;exact h
 | .bl _,_,h=>by unfold RV at h ⊢;exact h
 | .int _,_,h=>by unfold RV at h ⊢;exact h
 | .str _,_,h=>by unfold RV at h ⊢;exact h
 | .tup l,_,h=>by
  unfold RV at h ⊢
  obtain ⟨a,xs,h1,h2,h3⟩:=h
  exact ⟨a,xs,h1,h2.wext e,RVs.wext e l h3⟩
 | .lst l,_,h=>by
  unfold RV at h ⊢
  obtain ⟨a,xs,h1,h2,h3⟩:=h
  exact ⟨a,xs,h1,h2.wext e,RVs.wext e l h3⟩
 | .ref i,_,h=>by
  unfold RV at h ⊢
  obtain ⟨a,h1,h2⟩:=h
  exact ⟨a,h1,e.ix h2⟩
 | .ty _,_,h=>by unfold RV at h ⊢;exact h
 | .fn _,_,h=>by unfold RV at h ⊢;exact h
 | .exc _ _,_,h=>by
  unfold RV at h ⊢
  obtain ⟨a,o,u,h1,h2,h3,h4,h6,h5⟩:=h
  exact ⟨a,o,u,h1,e.keep _ _ h2 h3,e.not_in h2 h3,h4,h6,h5.imp id fun ⟨d,q1,q2,q3⟩=>⟨d,q1,e.keep _ _ q2 q3,e.not_in q2 q3⟩⟩
 | .dct,_,h=>by
  unfold RV at h ⊢
  obtain ⟨a,h1,h2,h3⟩:=h
  exact ⟨a,h1,e.keep _ _ h2 h3,e.not_in h2 h3⟩
theorem RVs.wext {K:W.Frag} {H H':Hp} {b b':Bz} (e:WE H b H' b'):∀ (l:List PV) {xs:List V},RVs K H b l xs->RVs K H' b' l xs
 |[],_,h=>by unfold RVs at h ⊢;exact h
 |p::ps,_,h=>by
  unfold RVs at h ⊢
  obtain ⟨x,r,h1,h2,h3⟩:=h
  exact ⟨x,r,h1,RV.wext e p h2,RVs.wext e ps h3⟩
end
structure Ext (H:Hp) (b:Bz) (H':Hp) (b':Bz):Prop extends WE H b H' b' where
 same:b'.z=b.z
 hid:∀ a o,a∈b.z->H a=some o->H' a=some o
 fz:∀ a o u,H a=some (.frz o u)->H' a=some (.frz o u)
theorem Ext.refl (H:Hp) (b:Bz):Ext H b H b:=⟨WE.refl H b,rfl,fun _ _ _ h=>h,fun _ _ _ h=>h⟩
theorem Ext.none_of {H H':Hp} {b b':Bz} (e:Ext H b H' b') {a:Addr} (h:H' a=none):H a=none:=e.toWE.none_of h
theorem Ext.not_in {H H':Hp} {b b':Bz} (e:Ext H b H' b') {a:Addr} {o:HO} (h:H a=some o) (hn:b.out a):b'.out a:=e.toWE.not_in h hn
theorem Ext.trans {H H1 H2:Hp} {b b1 b2:Bz} (e:Ext H b H1 b1) (f:Ext H1 b1 H2 b2):Ext H b H2 b2:=⟨e.toWE.trans f.toWE,f.same.trans e.same,fun a o ha h=>f.hid a o (by rw [e.same];exact ha) (e.hid a o ha h),fun a o u h=>f.fz a o u (e.fz a o u h)⟩
theorem Ext.ix {H H':Hp} {b b':Bz} (e:Ext H b H' b') {i:Nat} {a:Addr} (h:b.b[i]? = some a):b'.b[i]? = some a:=e.toWE.ix h
theorem Ext.new {H:Hp} {b:Bz} {p:Addr} {o:HO} (h:H p=none):Ext H b (upd H p o) b:=⟨WE.new h,rfl,fun a u _ e=>by rw [qV (qM e h)];exact e,fun a u _ e=>by rw [qV (qM e h)];exact e⟩
theorem Ext.wr {H:Hp} {b:Bz} {p:Addr} {o:HO} (h:p∈b.b) (hz:∀ a∈b.z,a ∉ b.b) (hf:∀ o u,H p≠some (.frz o u)):Ext H b (upd H p o) b:=⟨WE.wr (.inl h),rfl,fun a u ha e=>by rw [qV (fun z=>hz a ha (by rw [z];exact h))];exact e,fun a u v e=>by rw [qV (fun z=>hf u v (by rw [← z];exact e))];exact e⟩
theorem nfz {H:Hp} {p:Addr} {u:HO} (h:H p=some u) (hu:∀ o v,u ≠ .frz o v):∀ o v,H p≠some (.frz o v):=fun o v z=>by rw [h] at z;cases z;exact hu _ _ rfl
theorem qGD {H:Hp} {p:Addr} {xs:List V} (h:H p=some (.lst xs)):∀ o v,H p≠some (.frz o v):=nfz h fun _ _ z=>nomatch z
theorem Ext.of_same {H H':Hp} {b:Bz} (h:Same H H'):Ext H b H' b:=⟨⟨⟨[],by simp,by simp⟩,⟨[],rfl,by simp⟩,fun a o e _=>h a o e,fun a o e=>⟨o,h a o e⟩⟩,rfl,fun a o _ e=>h a o e,fun a o u e=>h a _ e⟩
theorem RV.ext {K:W.Frag} {H H':Hp} {b b':Bz} (e:Ext H b H' b') (p:PV) {v:V} (h:RV K H b p v):RV K H' b' p v:=RV.wext e.toWE p h
theorem RVs.ext {K:W.Frag} {H H':Hp} {b b':Bz} (e:Ext H b H' b') (l:List PV) {xs:List V} (h:RVs K H b l xs):RVs K H' b' l xs:=RVs.wext e.toWE l h
theorem RVs.length {K:W.Frag} {H:Hp} {b:Bz}:∀ {l:List PV} {xs:List V},RVs K H b l xs->l.length=xs.length
 |[],_,h=>by unfold RVs at h;rw [h];rfl
 |p::ps,_,h=>by
  unfold RVs at h
  obtain ⟨x,r,rfl,_,h3⟩:=h
  rw [AT,AT,RVs.length h3]
theorem RVs.nil {K:W.Frag} {H:Hp} {b:Bz}:RVs K H b [] []:=by unfold RVs;rfl
theorem RVs.cons {K:W.Frag} {H:Hp} {b:Bz} {p:PV} {ps:List PV} {x:V} {r:List V} (h:RV K H b p x) (t:RVs K H b ps r):RVs K H b (p::ps) (x::r):=by
 unfold RVs;exact ⟨x,r,rfl,h,t⟩
theorem RVs.get {K:W.Frag} {H:Hp} {b:Bz}:∀ {l:List PV} {xs:List V} {i:Nat} {p:PV},RVs K H b l xs->l[i]? = some p -> ∃ x,xs[i]? = some x∧RV K H b p x
 |[],_,_,_,_,h=>by simp at h
 |q::ps,_,0,p,r,h=>by
  unfold RVs at r
  obtain ⟨x,t,rfl,h2,h3⟩:=r
  simp at h;subst h
  exact ⟨x,rfl,h2⟩
 |q::ps,_,i + 1,p,r,h=>by
  unfold RVs at r
  obtain ⟨x,t,rfl,h2,h3⟩:=r
  obtain ⟨y,e,hy⟩:=RVs.get (i:=i) h3 (by simpa using h)
  exact ⟨y,by simpa using e,hy⟩
theorem RVs.append {K:W.Frag} {H:Hp} {b:Bz}:∀ {l m:List PV} {xs ys:List V},RVs K H b l xs->RVs K H b m ys->RVs K H b (l++m) (xs++ys)
 |[],_,_,_,h,g=>by unfold RVs at h;subst h;exact g
 |p::ps,_,_,_,h,g=>by
  unfold RVs at h
  obtain ⟨x,r,rfl,h2,h3⟩:=h
  exact RVs.cons h2 (RVs.append h3 g)
theorem RVs.take {K:W.Frag} {H:Hp} {b:Bz}:∀ {l:List PV} {xs:List V} (n:Nat),RVs K H b l xs->RVs K H b (l.take n) (xs.take n)
 |_,_,0,_=>RVs.nil
 |[],_,_ + 1,h=>by unfold RVs at h;subst h;exact RVs.nil
 |p::ps,_,n + 1,h=>by
  unfold RVs at h
  obtain ⟨x,r,rfl,h2,h3⟩:=h
  exact RVs.cons h2 (RVs.take n h3)
theorem RVs.drop {K:W.Frag} {H:Hp} {b:Bz}:∀ {l:List PV} {xs:List V} (n:Nat),RVs K H b l xs->RVs K H b (l.drop n) (xs.drop n)
 |_,_,0,h=>h
 |[],_,_ + 1,h=>by unfold RVs at h;subst h;exact RVs.nil
 |p::ps,_,n + 1,h=>by
  unfold RVs at h
  obtain ⟨x,r,rfl,h2,h3⟩:=h
  exact RVs.drop n h3
theorem RVs.set {K:W.Frag} {H:Hp} {b:Bz} {p:PV} {x:V} (hp:RV K H b p x):∀ {l:List PV} {xs:List V} (n:Nat),RVs K H b l xs->RVs K H b (l.set n p) (xs.set n x)
 |[],_,_,h=>by unfold RVs at h;subst h;exact RVs.nil
 |q::ps,_,0,h=>by
  unfold RVs at h
  obtain ⟨y,r,rfl,h2,h3⟩:=h
  exact RVs.cons hp h3
 |q::ps,_,n + 1,h=>by
  unfold RVs at h
  obtain ⟨y,r,rfl,h2,h3⟩:=h
  exact RVs.cons h2 (RVs.set hp n h3)
theorem RVs.erase {K:W.Frag} {H:Hp} {b:Bz}:∀ {l:List PV} {xs:List V} (n:Nat),RVs K H b l xs->RVs K H b (l.eraseIdx n) (xs.eraseIdx n)
 |[],_,_,h=>by unfold RVs at h;subst h;exact RVs.nil
 |q::ps,_,0,h=>by
  unfold RVs at h
  obtain ⟨y,r,rfl,h2,h3⟩:=h
  exact h3
 |q::ps,_,n + 1,h=>by
  unfold RVs at h
  obtain ⟨y,r,rfl,h2,h3⟩:=h
  exact RVs.cons h2 (RVs.erase n h3)
theorem SOk.wext {K:W.Frag} {H H':Hp} {b b':Bz} (e:WE H b H' b'):∀ {x:SO} {o:HO},SOk K H b x o->SOk K H' b' x o
 | .l xs,_,⟨vs,h,r⟩=>⟨vs,h,RVs.wext e xs r⟩
 | .d kvs,_,⟨vs,h,q,r⟩=>⟨vs,h,q,RVs.wext e _ r⟩
 | .z kvs,_,⟨od,vs,h,q,r⟩=>⟨od,vs,h,q,RVs.wext e _ r⟩
theorem SOk.ext {K:W.Frag} {H H':Hp} {b b':Bz} (e:Ext H b H' b') {x:SO} {o:HO} (h:SOk K H b x o):SOk K H' b' x o:=h.wext e.toWE
theorem SR.mem {K:W.Frag} {H:Hp} {b:Bz} {st:qC} (S:SR K H b st) {a:Addr} (h:a∈b.b):∃ o,H a=some o:=by
 obtain ⟨i,hi⟩:=BL h
 have hl:i < b.b.length:=(AO.mp hi).1
 have hs:st[i]? = some (st[i]'(by rw [← S.len];exact hl)):=AI _
 obtain ⟨a',o,h1,h2,_⟩:=S.at_ i _ hs
 rw [hi] at h1;cases h1
 exact ⟨o,h2⟩
theorem SR.new_notin {K:W.Frag} {H:Hp} {b:Bz} {st:qC} (S:SR K H b st) {p:Addr} (h:H p=none):b.out p :=
 ⟨fun hm=>(by obtain ⟨o,e⟩:=S.mem hm;rw [h] at e;cases e),fun hm=>(by obtain ⟨o,e⟩:=S.zo p hm;rw [h] at e;cases e)⟩
theorem SR.new {K:W.Frag} {H:Hp} {b:Bz} {st:qC} (S:SR K H b st) {p:Addr} {o:HO} (h:H p=none):SR K (upd H p o) b st :=
 ⟨S.len,S.nd,fun i x hx=>by
  obtain ⟨a,u,h1,h2,h3⟩:=S.at_ i x hx
  exact ⟨a,u,h1,by rw [qV (qM h2 h)];exact h2,h3.ext (Ext.new h)⟩,fun a ha=>by
  obtain ⟨u,e⟩:=S.zo a ha
  exact ⟨u,by rw [qV (qM e h)];exact e⟩,S.zb⟩
theorem qH0 {b:List Addr} (nd:b.Nodup) {i j:Nat} {x:Addr} (h1:b[i]? = some x) (h2:b[j]? = some x):i=j:=by
 obtain ⟨hi,e1⟩:=AO.mp h1
 obtain ⟨hj,e2⟩:=AO.mp h2
 exact (List.getElem_inj nd).mp (e1.trans e2.symm)
theorem SR.wr {K:W.Frag} {H:Hp} {b:Bz} {st:qC} (S:SR K H b st) {i:Nat} {p:Addr} {x:SO} {o:HO} (hp:b.b[i]? = some p) (hx:SOk K (upd H p o) b x o):SR K (upd H p o) b (st.set i x):=by
 have hm:p∈b.b:=As hp
 refine ⟨by simp [S.len],S.nd,fun j y hy => ?_,fun a ha => ?_,S.zb⟩
 ·have hl:i < b.b.length:=(AO.mp hp).1
  by_cases hj:j=i
  ·subst hj
   rw [BU (by rw [← S.len];exact hl)] at hy
   cases hy
   exact ⟨p,o,hp,Qk,hx⟩
  ·rw [Bd (Ne.symm hj)] at hy
   obtain ⟨a,u,h1,h2,h3⟩:=S.at_ j y hy
   have hne:a≠p:=fun z=>hj (by subst z;exact qH0 S.nd h1 hp)
   exact ⟨a,u,h1,by rw [qV hne];exact h2,h3.wext (WE.wr (.inl hm))⟩
 ·obtain ⟨u,e⟩:=S.zo a ha
  have hz:a≠p:=fun z=>S.zb a ha (by rw [z];exact hm)
  exact ⟨u,by rw [qV hz];exact e⟩
theorem SR.wrz {K:W.Frag} {H:Hp} {b:Bz} {st:qC} (S:SR K H b st) {p:Addr} {ys:List V} (hp:p∈b.z):SR K (upd H p (.lst ys)) b st:=by
 refine ⟨S.len,S.nd,fun j y hy => ?_,fun a ha => ?_,S.zb⟩
 ·obtain ⟨a,u,h1,h2,h3⟩:=S.at_ j y hy
  have hne:a≠p:=fun z=>by subst z;exact S.zb a hp (As h1)
  exact ⟨a,u,h1,by rw [qV hne];exact h2,h3.wext (WE.wr (.inr hp))⟩
 ·obtain ⟨u,e⟩:=S.zo a ha
  by_cases hz:a=p
  ·exact ⟨ys,by rw [hz];exact Qk⟩
  ·exact ⟨u,by rw [qV hz];exact e⟩
structure Sh (b b':Bz):Prop where
 ix:∀ (i:Nat) (a:Addr),b.b[i]? = some a->b'.b[i]? = some a
 out:∀ a,b.out a->b'.out a
mutual
theorem RV.sh {K:W.Frag} {H:Hp} {b b':Bz} (e:Sh b b'):∀ (p:PV) {v:V},RV K H b p v->RV K H b' p v
 | .non,_,h=>by unfold RV at h ⊢;exact h
 | .bl _,_,h=>by unfold RV at h ⊢;exact h
 | .int _,_,h=>by unfold RV at h ⊢;exact h
 | .str _,_,h=>by unfold RV at h ⊢;exact h
 | .tup l,_,h=>by
  unfold RV at h ⊢
  obtain ⟨a,xs,h1,h2,h3⟩:=h
  exact ⟨a,xs,h1,h2.elim (fun q => .inl ⟨q.1,e.out a q.2⟩) .inr,RVs.sh e l h3⟩
 | .lst l,_,h=>by
  unfold RV at h ⊢
  obtain ⟨a,xs,h1,h2,h3⟩:=h
  exact ⟨a,xs,h1,h2.elim (fun q => .inl ⟨q.1,e.out a q.2⟩) .inr,RVs.sh e l h3⟩
 | .ref i,_,h=>by
  unfold RV at h ⊢
  obtain ⟨a,h1,h2⟩:=h
  exact ⟨a,h1,e.ix i a h2⟩
 | .ty _,_,h=>by unfold RV at h ⊢;exact h
 | .fn _,_,h=>by unfold RV at h ⊢;exact h
 | .exc _ _,_,h=>by
  unfold RV at h ⊢
  obtain ⟨a,o,u,h1,h2,h3,h4,h6,h5⟩:=h
  exact ⟨a,o,u,h1,h2,e.out a h3,h4,h6,h5.imp id fun ⟨d,q1,q2,q3⟩=>⟨d,q1,q2,e.out d q3⟩⟩
 | .dct,_,h=>by
  unfold RV at h ⊢
  obtain ⟨a,h1,h2,h3⟩:=h
  exact ⟨a,h1,h2,e.out a h3⟩
theorem RVs.sh {K:W.Frag} {H:Hp} {b b':Bz} (e:Sh b b'):∀ (l:List PV) {xs:List V},RVs K H b l xs->RVs K H b' l xs
 |[],_,h=>by unfold RVs at h ⊢;exact h
 |p::ps,_,h=>by
  unfold RVs at h ⊢
  obtain ⟨x,r,h1,h2,h3⟩:=h
  exact ⟨x,r,h1,RV.sh e p h2,RVs.sh e ps h3⟩
end
theorem SOk.sh {K:W.Frag} {H:Hp} {b b':Bz} (e:Sh b b'):∀ {x:SO} {o:HO},SOk K H b x o->SOk K H b' x o
 | .l xs,_,⟨vs,h,r⟩=>⟨vs,h,RVs.sh e xs r⟩
 | .d kvs,_,⟨vs,h,q,r⟩=>⟨vs,h,q,RVs.sh e _ r⟩
 | .z kvs,_,⟨od,vs,h,q,r⟩=>⟨od,vs,h,q,RVs.sh e _ r⟩
theorem Sh.bare {b:List Addr} {p:Addr} {z:List Addr}:Sh ⟨b,p::z⟩ ⟨b,z⟩:=⟨fun _ _ h=>h,fun a h=>⟨h.1,fun q=>h.2 (AB _ q)⟩⟩
theorem Sh.slot {b:List Addr} {p:Addr} {z:List Addr}:Sh ⟨b,p::z⟩ ⟨b++[p],z⟩:=⟨fun i a h=>by
  rw [Ab (AO.mp h).1];exact h,fun a h=>⟨fun q=>(Ar.mp q).elim h.1 fun q=>h.2 (by rw [Ai.mp q];exact AE),fun q=>h.2 (AB _ q)⟩⟩
theorem RV.hide {K:W.Frag} {H:Hp} {b z:List Addr} {p:Addr} {o:HO} (hp:H p=none) (q:PV) {v:V} (h:RV K H ⟨b,z⟩ q v):RV K (upd H p o) ⟨b,p::z⟩ q v:=hd q h
where
 outp {a:Addr} {u:HO} (e:H a=some u) (h:Bz.out ⟨b,z⟩ a):Bz.out ⟨b,p::z⟩ a:=⟨h.1,fun q=>(AL.mp q).elim (fun q=>by subst q;rw [hp] at e;cases e) h.2⟩
 rdd {a:Addr} {u:HO} (h:Rd H a u∧Bz.out ⟨b,z⟩ a):Rd (upd H p o) a u∧Bz.out ⟨b,p::z⟩ a:=by
  obtain ⟨w,hw⟩:=Rd.some_of h.1
  refine ⟨?_,outp hw h.2⟩
  rcases h.1 with q |⟨o',q⟩
  ·exact .inl (by rw [qV (qM q hp)];exact q)
  ·exact .inr ⟨o',by rw [qV (qM q hp)];exact q⟩
 hd:∀ (q:PV) {v:V},RV K H ⟨b,z⟩ q v->RV K (upd H p o) ⟨b,p::z⟩ q v
 | .non,_,h=>by unfold RV at h ⊢;exact h
 | .bl _,_,h=>by unfold RV at h ⊢;exact h
 | .int _,_,h=>by unfold RV at h ⊢;exact h
 | .str _,_,h=>by unfold RV at h ⊢;exact h
 | .tup l,_,h=>by
  unfold RV at h ⊢
  obtain ⟨a,xs,h1,h2,h3⟩:=h
  exact ⟨a,xs,h1,h2.elim (fun q => .inl ⟨by rw [qV (qM q.1 hp)];exact q.1,outp q.1 q.2⟩) .inr,hds l h3⟩
 | .lst l,_,h=>by
  unfold RV at h ⊢
  obtain ⟨a,xs,h1,h2,h3⟩:=h
  exact ⟨a,xs,h1,h2.elim (fun q => .inl (rdd q)) .inr,hds l h3⟩
 | .ref i,_,h=>by
  unfold RV at h ⊢
  exact h
 | .ty _,_,h=>by unfold RV at h ⊢;exact h
 | .fn _,_,h=>by unfold RV at h ⊢;exact h
 | .exc _ _,_,h=>by
  unfold RV at h ⊢
  obtain ⟨a,o',u,h1,h2,h3,h4,h6,h5⟩:=h
  exact ⟨a,o',u,h1,by rw [qV (qM h2 hp)];exact h2,outp h2 h3,h4,h6,h5.imp id fun ⟨d,q1,q2,q3⟩=>⟨d,q1,by rw [qV (qM q2 hp)];exact q2,outp q2 q3⟩⟩
 | .dct,_,h=>by
  unfold RV at h ⊢
  obtain ⟨a,h1,h2,h3⟩:=h
  exact ⟨a,h1,by rw [qV (qM h2 hp)];exact h2,outp h2 h3⟩
 hds:∀ (l:List PV) {xs:List V},RVs K H ⟨b,z⟩ l xs->RVs K (upd H p o) ⟨b,p::z⟩ l xs
 |[],_,h=>by unfold RVs at h ⊢;exact h
 |q::ps,_,h=>by
  unfold RVs at h ⊢
  obtain ⟨x,r,h1,h2,h3⟩:=h
  exact ⟨x,r,h1,hd q h2,hds ps h3⟩
theorem SR.hide {K:W.Frag} {H:Hp} {b z:List Addr} {st:qC} (S:SR K H ⟨b,z⟩ st) {p:Addr} {ys:List V} (hp:H p=none):SR K (upd H p (.lst ys)) ⟨b,p::z⟩ st:=by
 have hn:=S.new_notin hp
 refine ⟨S.len,S.nd,fun i x hx => ?_,fun a ha => ?_,fun a ha => ?_⟩
 ·obtain ⟨a,u,h1,h2,h3⟩:=S.at_ i x hx
  refine ⟨a,u,h1,by rw [qV (qM h2 hp)];exact h2,?_⟩
  cases x with
  |l xs =>
   obtain ⟨vs,e1,e2⟩:=h3
   exact ⟨vs,e1,RV.hide.hds hp xs e2⟩
  |d kvs =>
   obtain ⟨vs,e1,e2,e3⟩:=h3
   exact ⟨vs,e1,e2,RV.hide.hds hp _ e3⟩
  |z kvs =>
   obtain ⟨od,vs,e1,e2,e3⟩:=h3
   exact ⟨od,vs,e1,e2,RV.hide.hds hp _ e3⟩
 ·rcases AL.mp ha with rfl |ha
  ·exact ⟨ys,Qk⟩
  ·obtain ⟨u,e⟩:=S.zo a ha
   exact ⟨u,by rw [qV (qM e hp)];exact e⟩
 ·rcases AL.mp ha with rfl |ha
  ·exact hn.1
  ·exact S.zb a ha
theorem SR.bare {K:W.Frag} {H:Hp} {b z:List Addr} {st:qC} {p:Addr} (S:SR K H ⟨b,p::z⟩ st):SR K H ⟨b,z⟩ st :=
 ⟨S.len,S.nd,fun i x hx=>by
  obtain ⟨a,u,h1,h2,h3⟩:=S.at_ i x hx
  exact ⟨a,u,h1,h2,h3.sh Sh.bare⟩,fun a ha=>S.zo a (AB _ ha),fun a ha=>S.zb a (AB _ ha)⟩
theorem SR.slot {K:W.Frag} {H:Hp} {b z:List Addr} {st:qC} {p:Addr} {x:SO} {o:HO} (S:SR K H ⟨b,p::z⟩ st) (hz:p ∉ z) (ho:H p=some o) (hx:SOk K H ⟨b,p::z⟩ x o):SR K H ⟨b++[p],z⟩ (st++[x]):=by
 have hp:p ∉ b:=S.zb p AE
 refine ⟨by simp [show b.length=st.length from S.len],?_,fun i y hy => ?_,fun a ha=>S.zo a (AB _ ha),fun a ha hm => ?_⟩
 ·exact List.nodup_append.mpr ⟨S.nd,by simp,fun a ha c hc=>by rw [Ai.mp hc];intro z;subst z;exact hp ha⟩
 ·by_cases hi:i < st.length
  ·rw [Ab hi] at hy
   obtain ⟨a,u,h1,h2,h3⟩:=S.at_ i y hy
   exact ⟨a,u,Sh.slot.ix i a h1,h2,h3.sh Sh.slot⟩
  ·have hi':i=st.length:=by
    have:=(AO.mp hy).1
    rw [AY,Bt] at this;omega
   subst hi'
   have e1:(st++[x])[st.length]? = some x:=by simp
   rw [e1] at hy;cases hy
   have hl:b.length=st.length:=S.len
   exact ⟨p,o,by show (b++[p])[st.length]? = some p;rw [← hl];simp,ho,hx.sh Sh.slot⟩
 ·rcases Ar.mp hm with q |q
  ·exact S.zb a (AB _ ha) q
  ·rw [Ai.mp q] at ha;exact hz ha
def REnv (K:W.Frag) (H:Hp) (b:Bz) (r:QC) (s:L2.St):Prop:=r.length=s.length ∧ ∀ (i:Nat) (p:PV),r[i]? = some (some p) -> ∃ v,s[i]? = some (some v)∧RV K H b p v
theorem REnv.wext {K:W.Frag} {H H':Hp} {b b':Bz} {r:QC} {s:L2.St} (h:REnv K H b r s) (e:WE H b H' b'):REnv K H' b' r s:=⟨h.1,fun i p q=>by
 obtain ⟨v,h1,h2⟩:=h.2 i p q
 exact ⟨v,h1,RV.wext e p h2⟩⟩
theorem REnv.ext {K:W.Frag} {H H':Hp} {b b':Bz} {r:QC} {s:L2.St} (h:REnv K H b r s) (e:Ext H b H' b'):REnv K H' b' r s:=⟨h.1,fun i p q=>by
 obtain ⟨v,h1,h2⟩:=h.2 i p q
 exact ⟨v,h1,RV.ext e p h2⟩⟩
theorem REnv.set {K:W.Frag} {H:Hp} {b:Bz} {r:QC} {s:L2.St} {p:PV} {v:V} (h:REnv K H b r s) (hv:RV K H b p v) (i:Nat):REnv K H b (r.set i (some p)) (s.set i (some v)):=by
 refine ⟨by simp [h.1],fun j q hq => ?_⟩
 by_cases hj:i=j
 ·subst hj
  have hl:i < r.length:=by
   have:=(AO.mp hq).1
   simpa using this
  rw [BU hl] at hq
  cases hq
  exact ⟨v,by rw [BU (by rw [← h.1];exact hl)],hv⟩
 ·rw [Bd hj] at hq
  obtain ⟨w,h1,h2⟩:=h.2 j q hq
  exact ⟨w,by rw [Bd hj];exact h1,h2⟩
def RX (K:W.Frag) (H:Hp) (b:Bz) (x:Exc) (c:Value) (d:Option Addr):Prop :=
 c = .ref x.cls∧((x.fs=[]∧d=none) ∨ ∃ a,d=some a∧H a=some (.xd (x.fs.map fun p=>(p.1,V.int p.2)))∧b.out a)
def XP (K:W.Frag) (E:XK) (H:Hp) (b:Bz) (x:Exc) (st:qC):Prop := ∀ c d H' b',Ext H b H' b'->SR K H' b' st->RX K H' b' x c d->E c d H'
theorem XP.ext {K:W.Frag} {E:XK} {H H1:Hp} {b b1:Bz} {x:Exc} {st:qC} (h:XP K E H b x st) (e:Ext H b H1 b1):XP K E H1 b1 x st:=fun c d H' b' e' S r=>h c d H' b' (e.trans e') S r
def PostE (K:W.Frag) (E:XK) (H:Hp) (b:Bz) (r:Rs PV) (Q:VK):Prop:=match r with
 | .ok p st => ∀ v H' b',Ext H b H' b'->SR K H' b' st->RV K H' b' p v->Q v H'
 | .ex x st=>XP K E H b x st
 | .no=>False
def PostA (K:W.Frag) (E:XK) (H:Hp) (b:Bz) (r:Rs (List PV)) (Q:List V->Hp->Prop):Prop:=match r with
 | .ok ps st => ∀ vs H' b',Ext H b H' b'->SR K H' b' st->RVs K H' b' ps vs->Q vs H'
 | .ex x st=>XP K E H b x st
 | .no=>False
def PostT (K:W.Frag) (E:XK) (H:Hp) (b:Bz) (r:Rs Bool) (Q:Bool->Hp->Prop):Prop:=match r with
 | .ok k st => ∀ H' b',Ext H b H' b'->SR K H' b' st->Q k H'
 | .ex x st=>XP K E H b x st
 | .no=>False
def PostS (K:W.Frag) (E:XK) (H:Hp) (b:Bz) (r:RS) (D:Ends):Prop:=match r with
 | .nx e st => ∀ s H' b',Ext H b H' b'->SR K H' b' st->REnv K H' b' e s->D.nx s H'
 | .bk e st => ∀ s H' b',Ext H b H' b'->SR K H' b' st->REnv K H' b' e s->D.bk s H'
 | .ct e st => ∀ s H' b',Ext H b H' b'->SR K H' b' st->REnv K H' b' e s->D.ct s H'
 | .rt p st => ∀ v H' b',Ext H b H' b'->SR K H' b' st->RV K H' b' p v->D.rt v H'
 | .ex x st=>XP K E H b x st
 | .no=>False
theorem PostE.ext {K:W.Frag} {E:XK} {H H1:Hp} {b b1:Bz} {r:Rs PV} {Q:VK} (h:PostE K E H b r Q) (e:Ext H b H1 b1):PostE K E H1 b1 r Q:=by
 cases r with
 |ok p st=>exact fun v H' b' e'=>h v H' b' (e.trans e')
 |ex x st=>exact XP.ext h e
 |no=>exact h
theorem PostA.ext {K:W.Frag} {E:XK} {H H1:Hp} {b b1:Bz} {r:Rs (List PV)} {Q:List V->Hp->Prop} (h:PostA K E H b r Q) (e:Ext H b H1 b1):PostA K E H1 b1 r Q:=by
 cases r with
 |ok p st=>exact fun v H' b' e'=>h v H' b' (e.trans e')
 |ex x st=>exact XP.ext h e
 |no=>exact h
theorem PostT.ext {K:W.Frag} {E:XK} {H H1:Hp} {b b1:Bz} {r:Rs Bool} {Q:Bool->Hp->Prop} (h:PostT K E H b r Q) (e:Ext H b H1 b1):PostT K E H1 b1 r Q:=by
 cases r with
 |ok p st=>exact fun H' b' e'=>h H' b' (e.trans e')
 |ex x st=>exact XP.ext h e
 |no=>exact h
theorem PostS.ext {K:W.Frag} {E:XK} {H H1:Hp} {b b1:Bz} {r:RS} {D:Ends} (h:PostS K E H b r D) (e:Ext H b H1 b1):PostS K E H1 b1 r D:=by
 cases r with
 |nx p st=>exact fun v H' b' e'=>h v H' b' (e.trans e')
 |bk p st=>exact fun v H' b' e'=>h v H' b' (e.trans e')
 |ct p st=>exact fun v H' b' e'=>h v H' b' (e.trans e')
 |rt p st=>exact fun v H' b' e'=>h v H' b' (e.trans e')
 |ex x st=>exact XP.ext h e
 |no=>exact h
def rd (K:W.Frag) (E:XK) (f:FE):TE:=fun s H Q => ∃ b r st,SR K H b st∧REnv K H b r s∧PostE K E H b (f r st) Q
def rdA (K:W.Frag) (E:XK) (f:FA):L2.TA:=fun s H Q => ∃ b r st,SR K H b st∧REnv K H b r s∧PostA K E H b (f r st) Q
def rdT (K:W.Frag) (E:XK) (f:FT):TT:=fun s H Q => ∃ b r st,SR K H b st∧REnv K H b r s∧PostT K E H b (f r st) Q
def rdS (K:W.Frag) (E:XK) (f:FS):TS:=fun D s H => ∃ b r st,SR K H b st∧REnv K H b r s∧PostS K E H b (f r st) D
abbrev VE (X:Cx) (E:XK) (e:Expr) (f:FE):Prop:=PE X e (rd X.K E f)
abbrev VA (X:Cx) (E:XK) (e:List Expr) (f:FA):Prop:=PA X e (rdA X.K E f)
abbrev VT (X:Cx) (E:XK) (e:Expr) (f:FT):Prop:=PT X e (rdT X.K E f)
abbrev VS (X:Cx) (E:XK) (e:Stmt) (f:FS):Prop:=PS X e (rdS X.K E f)
abbrev VSs (X:Cx) (E:XK) (e:List Stmt) (f:FS):Prop:=PSs X e (rdS X.K E f)
theorem PE.imp {X:Cx} {e:Expr} {t t':TE} (h:PE X e t) (i:∀ s H Q,t' s H Q->t s H Q):PE X e t':=fun pins s σ H Q I q=>h pins s σ H Q I (i _ _ _ q)
theorem PT.imp {X:Cx} {e:Expr} {t t':TT} (h:PT X e t) (i:∀ s H Q,t' s H Q->t s H Q):PT X e t':=fun pins s σ H Q I q=>h pins s σ H Q I (i _ _ _ q)
theorem PA.imp {X:Cx} {e:List Expr} {t t':L2.TA} (h:PA X e t) (i:∀ s H Q,t' s H Q->t s H Q):PA X e t':=fun pos pins s σ H Q I q=>h pos pins s σ H Q I (i _ _ _ q)
theorem PS.imp {X:Cx} {e:Stmt} {t t':TS} (h:PS X e t) (i:∀ D s H,t' D s H->t D s H):PS X e t':=fun pins s σ H D I q=>h pins s σ H D I (i _ _ _ q)
theorem PSs.imp {X:Cx} {e:List Stmt} {t t':TS} (h:PSs X e t) (i:∀ D s H,t' D s H->t D s H):PSs X e t':=fun pins s σ H D I q=>h pins s σ H D I (i _ _ _ q)
theorem PostE.bind {K:W.Frag} {E:XK} {H:Hp} {b:Bz} {r:Rs PV} {k:PV->qC->Rs PV} {Q R:VK} (P:PostE K E H b (r.bind k) Q)
  (h:∀ p st v H1 b1,Ext H b H1 b1->SR K H1 b1 st->RV K H1 b1 p v->PostE K E H1 b1 (k p st) Q->R v H1):PostE K E H b r R:=by
 cases r with
 |ok p st=>exact fun v H1 b1 e S r=>h p st v H1 b1 e S r (PostE.ext (show PostE K E H b (k p st) Q from P) e)
 |ex x st=>exact P
 |no=>exact P
theorem PostE.bindT {K:W.Frag} {E:XK} {H:Hp} {b:Bz} {r:Rs PV} {k:PV->qC->Rs Bool} {Q:Bool->Hp->Prop} {R:VK} (P:PostT K E H b (r.bind k) Q)
  (h:∀ p st v H1 b1,Ext H b H1 b1->SR K H1 b1 st->RV K H1 b1 p v->PostT K E H1 b1 (k p st) Q->R v H1):PostE K E H b r R:=by
 cases r with
 |ok p st=>exact fun v H1 b1 e S r=>h p st v H1 b1 e S r (PostT.ext (show PostT K E H b (k p st) Q from P) e)
 |ex x st=>exact P
 |no=>exact P
theorem PostT.bind {K:W.Frag} {E:XK} {H:Hp} {b:Bz} {r:Rs Bool} {k:Bool->qC->Rs PV} {Q:VK} {R:Bool->Hp->Prop} (P:PostE K E H b (r.bind k) Q)
  (h:∀ p st H1 b1,Ext H b H1 b1->SR K H1 b1 st->PostE K E H1 b1 (k p st) Q->R p H1):PostT K E H b r R:=by
 cases r with
 |ok p st=>exact fun H1 b1 e S=>h p st H1 b1 e S (PostE.ext (show PostE K E H b (k p st) Q from P) e)
 |ex x st=>exact P
 |no=>exact P
theorem PostT.bindT {K:W.Frag} {E:XK} {H:Hp} {b:Bz} {r:Rs Bool} {k:Bool->qC->Rs Bool} {Q R:Bool->Hp->Prop} (P:PostT K E H b (r.bind k) Q)
  (h:∀ p st H1 b1,Ext H b H1 b1->SR K H1 b1 st->PostT K E H1 b1 (k p st) Q->R p H1):PostT K E H b r R:=by
 cases r with
 |ok p st=>exact fun H1 b1 e S=>h p st H1 b1 e S (PostT.ext (show PostT K E H b (k p st) Q from P) e)
 |ex x st=>exact P
 |no=>exact P
theorem PostA.bind {K:W.Frag} {E:XK} {H:Hp} {b:Bz} {r:Rs (List PV)} {k:List PV->qC->Rs PV} {Q:VK} {R:List V->Hp->Prop} (P:PostE K E H b (r.bind k) Q)
  (h:∀ p st v H1 b1,Ext H b H1 b1->SR K H1 b1 st->RVs K H1 b1 p v->PostE K E H1 b1 (k p st) Q->R v H1):PostA K E H b r R:=by
 cases r with
 |ok p st=>exact fun v H1 b1 e S r=>h p st v H1 b1 e S r (PostE.ext (show PostE K E H b (k p st) Q from P) e)
 |ex x st=>exact P
 |no=>exact P
theorem PostE.bindA {K:W.Frag} {E:XK} {H:Hp} {b:Bz} {r:Rs PV} {k:PV->qC->Rs (List PV)} {Q:List V->Hp->Prop} {R:VK} (P:PostA K E H b (r.bind k) Q)
  (h:∀ p st v H1 b1,Ext H b H1 b1->SR K H1 b1 st->RV K H1 b1 p v->PostA K E H1 b1 (k p st) Q->R v H1):PostE K E H b r R:=by
 cases r with
 |ok p st=>exact fun v H1 b1 e S r=>h p st v H1 b1 e S r (PostA.ext (show PostA K E H b (k p st) Q from P) e)
 |ex x st=>exact P
 |no=>exact P
theorem PostA.bindA {K:W.Frag} {E:XK} {H:Hp} {b:Bz} {r:Rs (List PV)} {k:List PV->qC->Rs (List PV)} {Q R:List V->Hp->Prop} (P:PostA K E H b (r.bind k) Q)
  (h:∀ p st v H1 b1,Ext H b H1 b1->SR K H1 b1 st->RVs K H1 b1 p v->PostA K E H1 b1 (k p st) Q->R v H1):PostA K E H b r R:=by
 cases r with
 |ok p st=>exact fun v H1 b1 e S r=>h p st v H1 b1 e S r (PostA.ext (show PostA K E H b (k p st) Q from P) e)
 |ex x st=>exact P
 |no=>exact P
def Rs.bindS {α:Type} (r:Rs α) (k:α->qC->RS):RS:=match r with
 | .ok a st=>k a st
 | .ex x st => .ex x st
 | .no => .no
theorem PostE.bindS {K:W.Frag} {E:XK} {H:Hp} {b:Bz} {r:Rs PV} {k:PV->qC->RS} {D:Ends} {R:VK} (P:PostS K E H b (r.bindS k) D)
  (h:∀ p st v H1 b1,Ext H b H1 b1->SR K H1 b1 st->RV K H1 b1 p v->PostS K E H1 b1 (k p st) D->R v H1):PostE K E H b r R:=by
 cases r with
 |ok p st=>exact fun v H1 b1 e S r=>h p st v H1 b1 e S r (PostS.ext (show PostS K E H b (k p st) D from P) e)
 |ex x st=>exact P
 |no=>exact P
theorem PostT.bindS {K:W.Frag} {E:XK} {H:Hp} {b:Bz} {r:Rs Bool} {k:Bool->qC->RS} {D:Ends} {R:Bool->Hp->Prop} (P:PostS K E H b (r.bindS k) D)
  (h:∀ p st H1 b1,Ext H b H1 b1->SR K H1 b1 st->PostS K E H1 b1 (k p st) D->R p H1):PostT K E H b r R:=by
 cases r with
 |ok p st=>exact fun H1 b1 e S=>h p st H1 b1 e S (PostS.ext (show PostS K E H b (k p st) D from P) e)
 |ex x st=>exact P
 |no=>exact P
theorem PostA.bindS {K:W.Frag} {E:XK} {H:Hp} {b:Bz} {r:Rs (List PV)} {k:List PV->qC->RS} {D:Ends} {R:List V->Hp->Prop} (P:PostS K E H b (r.bindS k) D)
  (h:∀ p st v H1 b1,Ext H b H1 b1->SR K H1 b1 st->RVs K H1 b1 p v->PostS K E H1 b1 (k p st) D->R v H1):PostA K E H b r R:=by
 cases r with
 |ok p st=>exact fun v H1 b1 e S r=>h p st v H1 b1 e S r (PostS.ext (show PostS K E H b (k p st) D from P) e)
 |ex x st=>exact P
 |no=>exact P
def asL (st:qC):PV->Option (List PV)
 | .lst l=>some l
 | .ref i=>match st[i]? with
  |some (.l xs)=>some xs
  |_=>none
 |_=>none
def asT:PV->Option (List PV)
 | .tup l=>some l
 |_=>none
def zg (st:qC) (p:PV):Option (List PV):=match p with
 | .tup l=>some l
 |p=>asL st p
section
variable {K:W.Frag} {H:Hp} {b:Bz} {st:qC} {p:PV} {v:V} {l:List PV}
theorem Qj (S:SR K H b st) (r:RV K H b p v) (h:asL st p=some l):∃ a xs,v = .ref a∧SqL K H a xs∧RVs K H b l xs:=by
 cases p with
 |lst m =>
  unfold RV at r
  obtain ⟨a,xs,h1,h2,h3⟩:=r
  have e:m=l:=An h
  subst e
  exact ⟨a,xs,h1,h2.sq,h3⟩
 |ref i =>
  unfold RV at r
  obtain ⟨a,h1,h2⟩:=r
  unfold asL at h
  dsimp only at h
  cases q:st[i]? with
  |none=>rw [q] at h;cases h
  |some o =>
   cases o with
   |l ys =>
    rw [q] at h
    have e:ys=l:=An h
    subst e
    obtain ⟨a',o,e1,e2,vs,e3,e4⟩:=S.at_ i _ q
    rw [h2] at e1;cases e1
    subst e3
    exact ⟨a,vs,h1,SqL.of e2,e4⟩
   |d ys=>rw [q] at h;cases h
   |z ys=>rw [q] at h;cases h
 |_=>cases h
theorem Z3 (S:SR K H b st) (r:RV K H b p v) (h:zg st p=some l):∃ a xs,v = .ref a∧(SqL K H a xs∨SqT K H a xs)∧RVs K H b l xs:=by
 cases p with
 |tup m =>
  unfold RV at r
  obtain ⟨a,xs,h1,h2,h3⟩:=r
  have e:m=l:=An h
  subst e
  exact ⟨a,xs,h1,.inr h2.sq,h3⟩
 |lst m =>
  obtain ⟨a,xs,h1,h2,h3⟩:=Qj S r h
  exact ⟨a,xs,h1,.inl h2,h3⟩
 |ref i =>
  obtain ⟨a,xs,h1,h2,h3⟩:=Qj S r h
  exact ⟨a,xs,h1,.inl h2,h3⟩
 |_=>cases h
end
abbrev FL:=QC->qC->Rs (List PV)
def PostN (K:W.Frag) (E:XK) (H:Hp) (b:Bz) (r:Rs (List PV)) (Q:VK):Prop:=match r with
 | .ok l st => ∀ p xs H' b',Ext H b H' b'->H p=none->H' p=some (.lst xs)->p ∉ b'.z->SR K H' ⟨b'.b,p::b'.z⟩ st->RVs K H' ⟨b'.b,p::b'.z⟩ l xs->Q (.ref p) H'
 | .ex x st=>XP K E H b x st
 | .no=>False
def rdN (K:W.Frag) (E:XK) (f:FL):TE:=fun s H Q => ∃ b r st,SR K H b st∧REnv K H b r s∧PostN K E H b (f r st) Q
abbrev VN (X:Cx) (E:XK) (e:Expr) (f:FL):Prop:=PE X e (rdN X.K E f)
def vFz (f:FL):FE:=fun r st=>(f r st).bind fun l s => .ok (.lst l) s
theorem PostN.of {K:W.Frag} {E:XK} {H:Hp} {b:Bz} {r:Rs (List PV)} {Q:VK} (P:PostE K E H b (r.bind fun l s => .ok (.lst l) s) Q):PostN K E H b r Q:=by
 cases r with
 |ok l st=>exact fun p xs H' b' e hn hp hz S r=>P _ H' b' e S.bare (by unfold RV;exact ⟨p,xs,rfl,.inl ⟨.inl hp,S.zb p AE,hz⟩,RVs.sh Sh.bare l r⟩)
 |ex x st=>exact P
 |no=>exact P
theorem PostN.ext {K:W.Frag} {E:XK} {H H1:Hp} {b b1:Bz} {r:Rs (List PV)} {Q:VK} (h:PostN K E H b r Q) (e:Ext H b H1 b1):PostN K E H1 b1 r Q:=by
 cases r with
 |ok p st=>exact fun p xs H' b' e' hn=>h p xs H' b' (e.trans e') (e.none_of hn)
 |ex x st=>exact XP.ext h e
 |no=>exact h
theorem PostN.lay {K:W.Frag} {E:XK} {H:Hp} {b:Bz} {st:qC} {l:List PV} {xs:List V} {Q:VK} (P:PostN K E H b (.ok l st) Q) (S:SR K H b st) (r:RVs K H b l xs) {p:Addr} (h:H p=none):Q (.ref p) (upd H p (.lst xs)) :=
 P p xs _ b (Ext.new h) h Qk (S.new_notin h).2 (SR.hide S h) (RV.hide.hds h l r)
theorem PostE.layT {K:W.Frag} {E:XK} {H:Hp} {b:Bz} {st:qC} {l:List PV} {xs:List V} {Q:VK} (P:PostE K E H b (.ok (.tup l) st) Q) (S:SR K H b st) (r:RVs K H b l xs) {p:Addr} (h:H p=none):Q (.ref p) (upd H p (.tup xs)) :=
 P _ _ b (Ext.new h) (S.new h) (by unfold RV;exact ⟨p,xs,rfl,.inl ⟨Qk,S.new_notin h⟩,RVs.ext (Ext.new h) l r⟩)
theorem PostE.here {K:W.Frag} {E:XK} {H:Hp} {b:Bz} {st:qC} {p:PV} {v:V} {Q:VK} (P:PostE K E H b (.ok p st) Q) (S:SR K H b st) (r:RV K H b p v):Q v H:=P v H b (Ext.refl H b) S r
section
variable {X:Cx} {E:XK} {e a c d:Expr} {es:List Expr} {f fa fb fc:FE} {pos:Pos}
theorem Qi {f:FL} (h:VN X E e f):VE X E e (vFz f):=PE.imp h fun s H Q ⟨b,r,st,S,R,P⟩=>⟨b,r,st,S,R,PostN.of P⟩
def vC (p:PV):FE:=fun _ st => .ok p st
def qB (i:Nat):FE:=fun r st=>match r[i]? with
 |some (some p) => .ok p st
 |_ => .no
theorem qCl {p:PV} {v:V} (h:PE X e (tC v)) (hv:∀ H b,RV X.K H b p v):VE X E e (vC p):=PE.imp h fun s H Q ⟨b,r,st,S,R,P⟩=>PostE.here P S (hv H b)
theorem qR {i:Int} {j pos}:VE X E (.Constant (.int i) j pos) (vC (.int i)):=qCl qHb fun _ _=>by unfold RV;rfl
theorem WZ {i:Bool} {j pos}:VE X E (.Constant (.bool i) j pos) (vC (.bl i)):=qCl qIN fun _ _=>by unfold RV;rfl
theorem zJ {j pos}:VE X E (.Constant .none j pos) (vC .non):=qCl qHc fun _ _=>by unfold RV;rfl
theorem Q5 {x:Str} {i:Int} {t:Tok} {pos:Pos} (hg:Gl X x) (hm:X.mg x=some (.int i t)) (hd:(x==("__debug__":Str))=false:=by decide):VE X E (.Name x pos) (vC (.int i)) :=
 qCl (qEX (v := .int i) hg hm ⟨t,rfl⟩ hd) fun _ _=>by unfold RV;rfl
theorem qIH {i:Nat} (h:PE X e (qG1 i)):VE X E e (qB i):=PE.imp h fun s H Q ⟨b,r,st,S,R,P⟩=>by
 unfold qB at P
 cases q:r[i]? with
 |none=>rw [q] at P;exact False.elim P
 |some o =>
  cases o with
  |none=>rw [q] at P;exact False.elim P
  |some p =>
   rw [q] at P
   obtain ⟨v,h1,h2⟩:=R.2 i p q
   exact ⟨v,h1,PostE.here P S h2⟩
def qG (g:PV->PV->qC->Rs PV) (fa fb:FE):FE:=fun r st=>(fa r st).bind fun p s1=>(fb r s1).bind fun q s2=>g p q s2
def OpG (X:Cx) (E:XK) (t:R2) (g:PV->PV->qC->Rs PV):Prop :=
 ∀ (H:Hp) (b:Bz) (st:qC) (p q:PV) (u v:V) (Q:VK),SR X.K H b st->RV X.K H b p u->RV X.K H b q v->PostE X.K E H b (g p q st) Q->t u v H Q
theorem jg {t:R2} {g:PV->PV->qC->Rs PV} (hg:OpG X E t g):∀ s H Q,rd X.K E (qG g fa fb) s H Q->tOp t (rd X.K E fa) (rd X.K E fb) s H Q:=fun s H Q ⟨b,r,st,S,R,P⟩ =>
 ⟨b,r,st,S,R,PostE.bind P fun p s1 u H1 b1 e1 S1 r1 P1=>⟨b1,r,s1,S1,R.ext e1,PostE.bind P1 fun q s2 v H2 b2 e2 S2 r2 P2=>hg H2 b2 s2 p q u v Q S2 (RV.ext e2 p r1) r2 P2⟩⟩
theorem Yl {op:Operator} {t:R2} {g:PV->PV->qC->Rs PV} (ho:OpR X (binaryOp op) t) (hg:OpG X E t g) (ha:VE X E a fa) (hb:VE X E c fb):VE X E (.BinOp a op c pos) (qG g fa fb):=PE.imp (qD4 ho ha hb) (jg hg)
theorem yf {op:CmpOp} {t:R2} {g:PV->PV->qC->Rs PV} (ho:OpR X (compareOp op) t) (hg:OpG X E t g) (ha:VE X E a fa) (hb:VE X E c fb) (hm:behindInMarks op c=false:=by first |exact qu _ |with_unfolding_all rfl):VE X E (.Compare a [op] [c] pos) (qG g fa fb):=PE.imp (qES ho ha hb hm) (jg hg)
def gI (g:Int->Int->Option PV):PV->PV->qC->Rs PV:=fun p q st=>match p,q with
 | .int i,.int j=>match g i j with
  |some z => .ok z st
  |none => .no
 |_,_ => .no
theorem qE8 {C:Int->Int->Prop} {h:Int->Int->V} {g:Int->Int->Option PV} (hg:∀ i j z,g i j=some z->C i j ∧ ∀ H b,RV X.K H b z (h i j)):OpG X E (rI C h) (gI g):=by
 intro H b st p q u v Q S rp rq P
 unfold gI at P
 split at P
 ·rename_i i j
  unfold RV at rp rq
  split at P
  ·rename_i z e
   obtain ⟨c,r⟩:=hg i j z e
   exact ⟨i,j,rp,rq,c,PostE.here P S (r H b)⟩
  ·exact P.elim
 ·exact P.elim
theorem Jc {h:Int->Int->V} {g:Int->Int->PV} (hg:∀ i j H b,RV X.K H b (g i j) (h i j)):OpG X E (rI0 h) (gI fun i j=>some (g i j)):=by
 intro H b st p q u v Q S rp rq P
 unfold gI at P
 split at P
 ·rename_i i j
  unfold RV at rp rq
  exact ⟨i,j,rp,rq,PostE.here P S (hg i j H b)⟩
 ·exact P.elim
theorem Q9 {K:W.Frag} {H:Hp} {b:Bz} {i:Int}:RV K H b (.int i) (.int i):=by unfold RV;rfl
theorem WM {K:W.Frag} {H:Hp} {b:Bz} {i:Bool}:RV K H b (.bl i) (.bl i):=by unfold RV;rfl
def WQ:=gI fun i j=>some (.int (i - j))
def zL:=gI fun i j=>if (-(2 ^ 64) < i∧i < 2 ^ 64)∨(-(2 ^ 64) < j∧j < 2 ^ 64) then some (.int (i * j)) else none
def qFC:=gI fun i j=>if 0 < j∧j < 1073741824 then some (.int (i / j)) else none
def w4:=gI fun i j=>if 0 < j then some (.int (i % j)) else none
theorem ZS (ha:VE X E a fa) (hb:VE X E c fb):VE X E (.BinOp a .Sub c pos) (qG WQ fa fb):=Yl qGE (Jc fun _ _ _ _=>Q9) ha hb
theorem Za (ha:VE X E a fa) (hb:VE X E c fb):VE X E (.BinOp a .Mult c pos) (qG zL fa fb):=Yl qGU (qE8 fun i j z e=>by
 split at e
 ·rename_i h;cases e;exact ⟨h,fun _ _=>Q9⟩
 ·cases e) ha hb
theorem qGh (ha:VE X E a fa) (hb:VE X E c fb):VE X E (.BinOp a .FloorDiv c pos) (qG qFC fa fb):=Yl qFg (qE8 fun i j z e=>by
 split at e
 ·rename_i h;cases e;exact ⟨h,fun _ _=>Q9⟩
 ·cases e) ha hb
theorem zU (ha:VE X E a fa) (hb:VE X E c fb):VE X E (.BinOp a .Mod c pos) (qG w4 fa fb):=Yl qGM (qE8 fun i j z e=>by
 split at e
 ·rename_i h;cases e;exact ⟨h,fun _ _=>Q9⟩
 ·cases e) ha hb
def QE:=gI fun i j=>some (.int (i + j))
theorem QX (ha:VE X E a fa) (hb:VE X E c fb):VE X E (.BinOp a .Add c pos) (qG QE fa fb):=Yl qGY (Jc fun _ _ _ _=>Q9) ha hb
def gLt:=gI fun i j=>some (.bl (decide (i < j)))
def gLe:=gI fun i j=>some (.bl (decide (i≤j)))
def gGt:=gI fun i j=>some (.bl (decide (j < i)))
theorem qGB:OpG X E (rI0 fun i j => .bl (decide (i < j))) gLt:=Jc fun _ _ _ _=>WM
theorem qCR:OpG X E (rI0 fun i j => .bl (decide (i≤j))) gLe:=Jc fun _ _ _ _=>WM
theorem qF6:OpG X E (rI0 fun i j => .bl (decide (j < i))) gGt:=Jc fun _ _ _ _=>WM
def qDA (g g':PV->PV->qC->Rs PV) (fa fb fc:FE):FE:=fun r st=>(fa r st).bind fun p s1=>(fb r s1).bind fun q s2=>(g p q s2).bind fun z s3=>match z with
 | .bl true=>(fc r s3).bind fun w s4=>g' q w s4
 | .bl false => .ok (.bl false) s3
 |_ => .no
theorem qDV {op op':CmpOp} {t t':R2} {g g':PV->PV->qC->Rs PV} (ho:OpR X (compareOp op) t) (ho':OpR X (compareOp op') t') (hg:OpG X E t g) (hg':OpG X E t' g') (ha:VE X E a fa) (hb:VE X E c fb) (hc:VE X E d fc)
  (hm:lastMarks [op,op'] [c,d]=false:=by with_unfolding_all rfl):VE X E (.Compare a [op,op'] [c,d] pos) (qDA g g' fa fb fc):=by
 refine PE.imp (qCW ho ho' ha hb hc hm) fun s H Q ⟨b,r,st,S,R,P⟩ => ?_
 refine ⟨b,r,st,S,R,PostE.bind P fun p s1 u H1 b1 e1 S1 r1 P1=>⟨b1,r,s1,S1,R.ext e1,PostE.bind P1 fun q s2 v H2 b2 e2 S2 r2 P2 => ?_⟩⟩
 refine hg H2 b2 s2 p q u v _ S2 (RV.ext e2 p r1) r2 (PostE.bind P2 fun z s3 zv H3 b3 e3 S3 r3 P3 => ?_)
 split at P3
 ·unfold RV at r3
  refine ⟨true,r3,qBf ⟨b3,r,s3,S3,((R.ext e1).ext e2).ext e3,PostE.bind P3 fun w s4 wv H4 b4 e4 S4 r4 P4 => ?_⟩⟩
  exact hg' H4 b4 s4 q w v wv Q S4 (RV.ext e4 q (RV.ext e3 q r2)) r4 P4
 ·unfold RV at r3
  exact ⟨false,r3,qBy (PostE.here P3 S3 WM)⟩
 ·exact P3.elim
def qDH (st:qC):PV->Option Bool
 | .non=>some false
 | .bl x=>some x
 | .int i=>some (i != 0)
 | .tup l=>some (!l.isEmpty)
 | .lst l=>some (!l.isEmpty)
 | .ref i=>(asL st (.ref i)).map fun l => !l.isEmpty
 |_=>none
theorem qDN {K:W.Frag} {H:Hp} {b:Bz} {st:qC} {p:PV} {v:V} {k:Bool} (S:SR K H b st) (r:RV K H b p v) (h:qDH st p=some k):qEj K v H k:=by
 have emp:∀ {l:List PV} {xs:List V},RVs K H b l xs->(!l.isEmpty) = !xs.isEmpty:=fun {l xs} q=>by
  have:=q.length
  cases l <;> cases xs <;> first |rfl |(simp at this)
 cases p with
 |non=>unfold RV at r;subst r;exact (An h).symm
 |bl x=>unfold RV at r;subst r;exact (An h).symm
 |int x=>unfold RV at r;subst r;exact (An h).symm
 |tup l =>
  unfold RV at r
  obtain ⟨a,xs,rfl,h2,h3⟩:=r
  exact .inr (.inl ⟨xs,h2.sq,by rw [← emp h3];exact (An h).symm⟩)
 |lst l =>
  obtain ⟨a,xs,rfl,h2,h3⟩:=Qj S r rfl
  exact .inl ⟨xs,h2,by rw [← emp h3];exact (An h).symm⟩
 |ref i =>
  unfold qDH at h
  dsimp only at h
  cases q:asL st (.ref i) with
  |none=>rw [q] at h;cases h
  |some l =>
   rw [q] at h
   obtain ⟨a,xs,rfl,h2,h3⟩:=Qj S r q
   exact .inl ⟨xs,h2,by rw [← emp h3];exact (An h).symm⟩
 |_=>cases h
def Qc (f:FE):FT:=fun r st=>(f r st).bind fun p s=>match qDH s p with
 |some k => .ok k s
 |none => .no
theorem qDq {R:Bool->Hp->Prop} {s:L2.St} {H:Hp} (h:rdT X.K E (Qc f) s H R):rd X.K E f s H fun x H' => ∃ k,qEj X.K x H' k∧R k H':=by
 obtain ⟨b,r,st,S,RE,P⟩:=h
 refine ⟨b,r,st,S,RE,PostE.bindT P fun p s1 u H1 b1 e1 S1 r1 P1 => ?_⟩
 split at P1
 ·rename_i k e;exact ⟨k,qDN S1 r1 e,P1 H1 b1 (Ext.refl _ _) S1⟩
 ·exact P1.elim
theorem ww (h:VE X E e f) (he:∀ whole,isTrue e X.env whole=(do let v ← whole;standAt e.pos;holding [v] (truthy v)):=by intro _;rfl):VT X E e (Qc f):=PT.imp (qCm h he) fun s H Q q=>qDq q
def vTB (f:FE):FT:=fun r st=>(f r st).bind fun p s=>match p with
 | .bl k => .ok k s
 |_ => .no
theorem qHy {R:Bool->Hp->Prop} {s:L2.St} {H:Hp} (h:rdT X.K E (vTB f) s H R):rd X.K E f s H fun x H' => ∃ k,x = .bl k∧R k H':=by
 obtain ⟨b,r,st,S,RE,P⟩:=h
 refine ⟨b,r,st,S,RE,PostE.bindT P fun p s1 u H1 b1 e1 S1 r1 P1 => ?_⟩
 split at P1
 ·rename_i k;unfold RV at r1;exact ⟨k,r1,P1 H1 b1 (Ext.refl _ _) S1⟩
 ·exact P1.elim
theorem qx {op:CmpOp} {t:R2} {g:PV->PV->qC->Rs PV} (ho:OpR X (compareOp op) t) (hg:OpG X E t g) (ha:VE X E a fa) (hb:VE X E c fb) (hm:behindInMarks op c=false:=by first |exact qu _ |with_unfolding_all rfl):VT X E (.Compare a [op] [c] pos) (vTB (qG g fa fb)) :=
 PT.imp (qFX ho ha hb hm) fun s H Q q=>jg hg s H _ (qHy q)
def wQ (f:FT):FT:=fun r st=>(f r st).bind fun k s => .ok (!k) s
theorem WH {f:FT} (h:VT X E a f):VT X E (.UnaryOp .Not a pos) (wQ f):=PT.imp (qHD h) fun s H Q ⟨b,r,st,S,R,P⟩=>⟨b,r,st,S,R,PostT.bindT P fun k s1 H1 b1 e1 S1 P1=>P1 H1 b1 (Ext.refl _ _) S1⟩
abbrev VW (X:Cx) (E:XK) (e:Expr) (f:FT):Prop:=PW X e (rdT X.K E f)
theorem PW.imp {X:Cx} {e:Expr} {t t':TT} (h:PW X e t) (i:∀ s H Q,t' s H Q->t s H Q):PW X e t':=fun w pins s σ H Q I q=>h w pins s σ H Q I (i _ _ _ q)
def zB (f g:FT):FT:=fun r st=>(f r st).bind fun k s=>if k=true then g r s else .ok false s
def Wz (f g:FT):FT:=fun r st=>(f r st).bind fun k s=>if k=true then .ok true s else g r s
theorem jj {f:FT} (h:VT X E a f):VW X E (.BoolOp .And [a] pos) f:=qEW h
theorem zW {f:FT} (h:VT X E a f):VW X E (.BoolOp .Or [a] pos) f:=qGN h
theorem qAE {f g:FT} {rest:List Expr} (h:VT X E a f) (h2:VW X E (.BoolOp .And (c::rest) pos) g):VW X E (.BoolOp .And (a::c::rest) pos) (zB f g):=PW.imp (qGk h h2) fun s H Q ⟨b,r,st,S,R,P⟩ =>
 ⟨b,r,st,S,R,PostT.bindT P fun k s1 H1 b1 e1 S1 P1=>by
  cases k with
  |true=>exact qBf ⟨b1,r,s1,S1,R.ext e1,P1⟩
  |false=>exact qBy (P1 H1 b1 (Ext.refl _ _) S1)⟩
theorem ZL {f g:FT} {rest:List Expr} (h:VT X E a f) (h2:VW X E (.BoolOp .Or (c::rest) pos) g):VW X E (.BoolOp .Or (a::c::rest) pos) (Wz f g):=PW.imp (qHw h h2) fun s H Q ⟨b,r,st,S,R,P⟩ =>
 ⟨b,r,st,S,R,PostT.bindT P fun k s1 H1 b1 e1 S1 P1=>by
  cases k with
  |true=>exact qBf (P1 H1 b1 (Ext.refl _ _) S1)
  |false=>exact qBy ⟨b1,r,s1,S1,R.ext e1,P1⟩⟩
theorem yF {f:FT} (h:VW X E e f):VT X E e f:=h.pt
def qHz (f:FE):FE:=fun r st=>(f r st).bind fun p s=>match p with
 | .bl k => .ok (.bl (!k)) s
 |_ => .no
theorem qGt (h:VE X E a fa):VE X E (.UnaryOp .Not a pos) (qHz fa):=PE.imp (qGj h) fun s H Q ⟨b,r,st,S,R,P⟩ =>
 ⟨b,r,st,S,R,PostE.bind P fun p s1 u H1 b1 e1 S1 r1 P1=>by
  split at P1
  ·rename_i k;unfold RV at r1;exact ⟨k,r1,PostE.here P1 S1 WM⟩
  ·exact P1.elim⟩
def jL (f g:FE):FE:=fun r st=>(f r st).bind fun p s=>match p with
 | .bl true=>g r s
 | .bl false => .ok (.bl false) s
 |_ => .no
theorem jQ {op} (h:VE X E a fa):VE X E (.BoolOp op [a] pos) fa:=qHN h
theorem yO {rest:List Expr} (h:VE X E a fa) (h2:VE X E (.BoolOp .And (c::rest) pos) fb):VE X E (.BoolOp .And (a::c::rest) pos) (jL fa fb):=PE.imp (qGZ h h2) fun s H Q ⟨b,r,st,S,R,P⟩ =>
 ⟨b,r,st,S,R,PostE.bind P fun p s1 u H1 b1 e1 S1 r1 P1=>by
  split at P1
  ·unfold RV at r1;exact ⟨true,r1,qBf ⟨b1,r,s1,S1,R.ext e1,P1⟩⟩
  ·unfold RV at r1;exact ⟨false,r1,qBy (PostE.here P1 S1 WM)⟩
  ·exact P1.elim⟩
def vIf (t:FT) (f g:FE):FE:=fun r st=>(t r st).bind fun k s=>if k=true then f r s else g r s
theorem qIO {t:FT} (hc:VT X E e t) (ha:VE X E a fa) (hb:VE X E c fb):VE X E (.IfExp e a c pos) (vIf t fa fb):=PE.imp (qEF hc ha hb) fun s H Q ⟨b,r,st,S,R,P⟩ =>
 ⟨b,r,st,S,R,PostT.bind P fun k s1 H1 b1 e1 S1 P1=>by
  cases k with
  |true=>exact qBf ⟨b1,r,s1,S1,R.ext e1,P1⟩
  |false=>exact qBy ⟨b1,r,s1,S1,R.ext e1,P1⟩⟩
def qD:FA:=fun _ st => .ok [] st
def qA (f:FE) (g:FA):FA:=fun r st=>(f r st).bind fun p s=>(g r s).bind fun ps s' => .ok (p::ps) s'
theorem qE:VA X E [] qD:=PA.imp qCs fun s H Q ⟨b,r,st,S,R,P⟩=>P [] H b (Ext.refl _ _) S RVs.nil
theorem Qp {f:FE} {g:FA} (h:VE X E e f) (h2:VA X E es g) (hs:starEach (e::es) X.env=(false,eval e X.env)::starEach es X.env:=by rfl):VA X E (e::es) (qA f g):=PA.imp (qAs h h2 hs) fun s H Q ⟨b,r,st,S,R,P⟩ =>
 ⟨b,r,st,S,R,PostE.bindA P fun p s1 u H1 b1 e1 S1 r1 P1=>⟨b1,r,s1,S1,R.ext e1,PostA.bindA P1 fun ps s2 us H2 b2 e2 S2 r2 P2=>P2 (u::us) H2 b2 (Ext.refl _ _) S2 (RVs.cons (RV.ext e2 p r1) r2)⟩⟩
def wa (g:FA):FE:=fun r st=>(g r st).bind fun ps s=>if ps.length≤sizeLine then .ok (.tup ps) s else .no
theorem wx {g:FA} {x1} (h:VA X E es g):VE X E (.Tuple es x1 pos) (wa g):=PE.imp (qG6 h) fun s H Q ⟨b,r,st,S,R,P⟩ =>
 ⟨b,r,st,S,R,PostA.bind P fun ps s1 us H1 b1 e1 S1 r1 P1=>by
  split at P1
  ·rename_i hl;exact ⟨by rw [← r1.length];exact hl,fun p hp=>PostE.layT P1 S1 r1 hp⟩
  ·exact P1.elim⟩
def wT (g:FA):FL:=fun r st=>(g r st).bind fun ps s=>if ps.length≤sizeLine then .ok ps s else .no
theorem PostA.bindN {K:W.Frag} {E:XK} {H:Hp} {b:Bz} {r:Rs (List PV)} {k:List PV->qC->Rs (List PV)} {Q:VK} {R:List V->Hp->Prop} (P:PostN K E H b (r.bind k) Q)
  (h:∀ p st v H1 b1,Ext H b H1 b1->SR K H1 b1 st->RVs K H1 b1 p v->PostN K E H1 b1 (k p st) Q->R v H1):PostA K E H b r R:=by
 cases r with
 |ok p st=>exact fun v H1 b1 e S r=>h p st v H1 b1 e S r (PostN.ext (show PostN K E H b (k p st) Q from P) e)
 |ex x st=>exact P
 |no=>exact P
theorem PostE.bindN {K:W.Frag} {E:XK} {H:Hp} {b:Bz} {r:Rs PV} {k:PV->qC->Rs (List PV)} {Q:VK} {R:VK} (P:PostN K E H b (r.bind k) Q)
  (h:∀ p st v H1 b1,Ext H b H1 b1->SR K H1 b1 st->RV K H1 b1 p v->PostN K E H1 b1 (k p st) Q->R v H1):PostE K E H b r R:=by
 cases r with
 |ok p st=>exact fun v H1 b1 e S r=>h p st v H1 b1 e S r (PostN.ext (show PostN K E H b (k p st) Q from P) e)
 |ex x st=>exact P
 |no=>exact P
theorem wz {g:FA} (h:VA X E es g):VN X E (.List es pos) (wT g):=PE.imp (qHW h) fun s H Q ⟨b,r,st,S,R,P⟩ =>
 ⟨b,r,st,S,R,PostA.bindN P fun ps s1 us H1 b1 e1 S1 r1 P1=>by
  split at P1
  ·rename_i hl;exact ⟨by rw [← r1.length];exact hl,fun p hp=>PostN.lay P1 S1 r1 hp⟩
  ·exact P1.elim⟩
theorem qFA {K:W.Frag} {H:Hp} {b:Bz} {l:List PV} {xs:List V} {i:Int} {p:PV} (r:RVs K H b l xs) (h:atI l i=some p):∃ x,atI xs i=some x∧RV K H b p x:=by
 unfold atI at h ⊢
 rw [← r.length]
 cases q:ixN l.length i with
 |none=>rw [q] at h;cases h
 |some j=>rw [q] at h;exact r.get h
def gIx:PV->PV->qC->Rs PV:=fun p q st=>match q with
 | .int i=>match zg st p with
  |some l=>match atI l i with
   |some z => .ok z st
   |none => .no
  |none => .no
 |_ => .no
theorem QH (ha:VE X E a fa) (hb:VE X E c fb) (hs:qAz c:=by exact fun _ _=>rfl):VE X E (.Subscript a c pos) (qG gIx fa fb):=PE.imp (qIY qGr ha hb hs) (jg fun H b st p q u v Q S rp rq P=>by
 unfold gIx at P
 split at P
 ·rename_i i
  unfold RV at rq
  split at P
  ·rename_i l e
   split at P
   ·rename_i z ez
    obtain ⟨x1,xs,h1,h2,h3⟩:=Z3 S rp e
    obtain ⟨x,h4,h5⟩:=qFA h3 ez
    rcases h2 with h2 |h2
    ·exact .inl ⟨x1,xs,i,x,h1,rq,h2,h4,PostE.here P S h5⟩
    ·exact .inr (.inl ⟨x1,xs,i,x,h1,rq,h2,h4,PostE.here P S h5⟩)
   ·exact P.elim
  ·exact P.elim
 ·exact P.elim)
def qH (g:List PV->qC->Rs PV) (t:FA):FE:=fun r st=>(t r st).bind fun ps s=>g ps s
def spG (K:W.Frag) (n:Nat) (g:List PV->qC->Rs PV):Sp:=fun vs H Q E=>vs.length=n ∧ ∃ b ps st,SR K H b st∧RVs K H b ps vs∧PostE K E H b (g ps st) Q
def qHI (X:Cx) (E:XK) (x:Str) (g:List PV->qC->Rs PV):Prop := ∀ (p pos:Pos) (e:Expr) (es:List Expr) (t:FA),VA X E (e::es) t->starEach (e::es) X.env=(false,eval e X.env)::starEach es X.env->(backTo pos (starEach es X.env)).any (·.1)=false->VE X E (.Call (.Name x p) (e::es) [] pos) (qH g t)
theorem qQ {x:Str} {g:List PV->qC->Rs PV} {t:FA} {p:Pos} (hc:qHI X E x g) (ha:VA X E (e::es) t) (he:starEach (e::es) X.env=(false,eval e X.env)::starEach es X.env:=by rfl) (hpl:(backTo pos (starEach es X.env)).any (·.1)=false:=by rfl):VE X E (.Call (.Name x p) (e::es) [] pos) (qH g t):=hc p pos e es t ha he hpl
theorem qI4 {CX:CXT} {k n:Nat} {fa:Addr} {fd:FuncData} {ps:List Str} {x:Str} {g:List PV->qC->Rs PV} (F:FnOk X.prog X.w X.K X.mg X.base CX k fa fd ps (spG X.K ps.length g)) (hr:Room k X.A) (hg:Gl X x) (hm:X.mg x=some (.ref fa)) (hk:W.keepIn X.K (.ref fa)=true)
  (hb:Binds X.K fd ps []) (hx:ZZ CX X E) (hlen:∀ l st,g l st ≠ .no->l.length=ps.length) (hdb:(x==("__debug__":Str))=false:=by decide):qHI X E x g:=fun p pos e es t ha he hpl =>
 PE.imp (qEU F hr hg hm hk hb .nil hx ha hdb he hpl) fun s H Q ⟨b,r,st,S,R,P⟩=>⟨b,r,st,S,R,PostA.bind P fun l s1 us H1 b1 e1 S1 r1 P1=>by
  have hne:g l s1 ≠ .no:=fun z=>by rw [z] at P1;exact P1
  rw [A8]
  exact ⟨by rw [← r1.length];exact hlen l s1 hne,b1,l,s1,S1,r1,P1⟩⟩
def Zm (X:Cx) (E:XK) (t:List V->Hp->VK->Prop) (g:List PV->qC->Rs PV):Prop :=
 ∀ (H:Hp) (b:Bz) (st:qC) (ps:List PV) (vs:List V) (Q:VK),SR X.K H b st->RVs X.K H b ps vs->PostE X.K E H b (g ps st) Q->t vs H Q
theorem Wq {x:Str} {id:String} {t:List V->Hp->VK->Prop} {g:List PV->qC->Rs PV} {ta:FA} {p:Pos} (hc:zT X (.builtin id) t) (hG:Zm X E t g) (hg:Gl X x) (hm:X.mg x=none) (hv:bootBuiltins x=some (.builtin id)) (ha:VA X E (e::es) ta) (hn:x ≠ "__name__" := by decide) (hdb:(x==("__debug__":Str))=false:=by decide)
  (he:starEach (e::es) X.env=(false,eval e X.env)::starEach es X.env:=by rfl) (hpl:(backTo pos (starEach es X.env)).any (·.1)=false:=by rfl):VE X E (.Call (.Name x p) (e::es) [] pos) (qH g ta) :=
 PE.imp (qEK hc hg hm hv ha hn hdb he hpl) fun s H Q ⟨b,r,st,S,R,P⟩=>⟨b,r,st,S,R,PostA.bind P fun l s1 us H1 b1 e1 S1 r1 P1=>hG H1 b1 s1 l us Q S1 r1 P1⟩
theorem qCH {x:Str} {T:String} {t:List V->Hp->VK->Prop} {g:List PV->qC->Rs PV} {ta:FA} {p:Pos} (hc:zT X (.type T) t) (hG:Zm X E t g) (hg:Gl X x) (hm:X.mg x=none) (hv:bootBuiltins x=some (.type T)) (ha:VA X E (e::es) ta) (hn:x ≠ "__name__" := by decide) (hdb:(x==("__debug__":Str))=false:=by decide)
  (he:starEach (e::es) X.env=(false,eval e X.env)::starEach es X.env:=by rfl) (hpl:(backTo pos (starEach es X.env)).any (·.1)=false:=by rfl):VE X E (.Call (.Name x p) (e::es) [] pos) (qH g ta) :=
 PE.imp (qBV hc hg hm hv ha hn hdb he hpl) fun s H Q ⟨b,r,st,S,R,P⟩=>⟨b,r,st,S,R,PostA.bind P fun l s1 us H1 b1 e1 S1 r1 P1=>hG H1 b1 s1 l us Q S1 r1 P1⟩
theorem RVs.one {K:W.Frag} {H:Hp} {b:Bz} {p:PV} {vs:List V} (h:RVs K H b [p] vs):∃ v,vs=[v]∧RV K H b p v:=by
 unfold RVs at h
 obtain ⟨x,r,rfl,h2,h3⟩:=h
 unfold RVs at h3;subst h3
 exact ⟨x,rfl,h2⟩
theorem RVs.two {K:W.Frag} {H:Hp} {b:Bz} {p q:PV} {vs:List V} (h:RVs K H b [p,q] vs):∃ v w,vs=[v,w]∧RV K H b p v∧RV K H b q w:=by
 unfold RVs at h
 obtain ⟨x,r,rfl,h2,h3⟩:=h
 obtain ⟨y,rfl,h4⟩:=RVs.one h3
 exact ⟨x,y,rfl,h2,h4⟩
def wg:List PV->qC->Rs PV:=fun ps st=>match ps with
 |[p]=>match zg st p with
  |some l => .ok (.int l.length) st
  |none => .no
 |_ => .no
theorem qHG:Zm X E (fun xs H Q => ∃ p ys,xs=[.ref p]∧(SqL X.K H p ys∨SqT X.K H p ys)∧Q (.int ys.length) H) wg:=by
 intro H b st ps vs Q S r P
 unfold wg at P
 split at P
 ·rename_i p
  obtain ⟨v,rfl,r1⟩:=RVs.one r
  split at P
  ·rename_i l e
   obtain ⟨a,xs,rfl,h2,h3⟩:=Z3 S r1 e
   refine ⟨a,xs,rfl,h2,?_⟩
   rw [← h3.length]
   exact PostE.here P S Q9
  ·exact P.elim
 ·exact P.elim
def wF:List PV->qC->Rs PV:=fun ps st=>match ps with
 |[p]=>match zg st p with
  |some l => .ok (.tup l) st
  |none => .no
 |_ => .no
theorem qC9:Zm X E (fun xs H Q => ∃ p ys,xs=[.ref p]∧((SqL X.K H p ys ∧ ∀ l,H l=none->Q (.ref l) (upd H l (.tup ys)))∨(SqT X.K H p ys∧Q (.ref p) H))) wF:=by
 intro H b st ps vs Q S r P
 unfold wF at P
 split at P
 ·rename_i p
  obtain ⟨v,rfl,r1⟩:=RVs.one r
  split at P
  ·rename_i l e
   cases p with
   |tup m =>
    have e':m=l:=An e
    subst e'
    have r0:=r1
    unfold RV at r1
    obtain ⟨a,xs,rfl,h2,h3⟩:=r1
    exact ⟨a,xs,rfl,.inr ⟨h2.sq,PostE.here P S r0⟩⟩
   |lst m =>
    obtain ⟨a,xs,rfl,h2,h3⟩:=Qj S r1 e
    exact ⟨a,xs,rfl,.inl ⟨h2,fun p hp=>PostE.layT P S h3 hp⟩⟩
   |ref i =>
    obtain ⟨a,xs,rfl,h2,h3⟩:=Qj S r1 e
    exact ⟨a,xs,rfl,.inl ⟨h2,fun p hp=>PostE.layT P S h3 hp⟩⟩
   |_=>cases e
  ·exact P.elim
 ·exact P.elim
def qDm:List PV->qC->Rs PV:=fun ps st=>match ps with
 |[.int i,.int j] => .ok (.int (if j > i then j else i)) st
 |_ => .no
def qDw:List PV->qC->Rs PV:=fun ps st=>match ps with
 |[.int i,.int j] => .ok (.int (if j < i then j else i)) st
 |_ => .no
theorem qHd:Zm X E (fun xs H Q => ∃ i j,xs=[.int i,.int j]∧Q (.int (if j > i then j else i)) H) qDm:=by
 intro H b st ps vs Q S r P
 unfold qDm at P
 split at P
 ·obtain ⟨v,w,rfl,r1,r2⟩:=RVs.two r
  unfold RV at r1 r2;subst r1;subst r2
  exact ⟨_,_,rfl,PostE.here P S Q9⟩
 ·exact P.elim
theorem qGV:Zm X E (fun xs H Q => ∃ i j,xs=[.int i,.int j]∧Q (.int (if j < i then j else i)) H) qDw:=by
 intro H b st ps vs Q S r P
 unfold qDw at P
 split at P
 ·obtain ⟨v,w,rfl,r1,r2⟩:=RVs.two r
  unfold RV at r1 r2;subst r1;subst r2
  exact ⟨_,_,rfl,PostE.here P S Q9⟩
 ·exact P.elim
end
def q8:FS:=fun r st => .nx r st
def qS (F G:FS):FS:=fun r st=>match F r st with
 | .nx r' st'=>G r' st'
 |o=>o
section
variable {X:Cx} {E:XK} {e a c d:Expr} {es:List Expr} {f fa fb fc:FE} {pos:Pos} {F G:FS} {s1:Stmt} {ss:List Stmt}
theorem qv:VSs X E [] q8:=PSs.imp qEb fun D s H ⟨b,r,st,S,R,P⟩=>P s H b (Ext.refl _ _) S R
theorem PostS.seq {K:W.Frag} {E:XK} {H:Hp} {b:Bz} {o:RS} {G:FS} {D:Ends} (P:PostS K E H b (match o with | .nx r' st'=>G r' st' |o=>o) D):PostS K E H b o { D with nx:=rdS K E G D }:=by
 cases o with
 |nx r st=>exact fun s H' b' e S R=>⟨b',r,st,S,R,PostS.ext (show PostS K E H b (G r st) D from P) e⟩
 |rt p st=>exact P
 |bk p st=>exact P
 |ct p st=>exact P
 |ex x st=>exact P
 |no=>exact P
theorem qJ (h1:VS X E s1 F) (h2:VSs X E ss G):VSs X E (s1::ss) (qS F G):=PSs.imp (qC5 h1 h2) fun D s H ⟨b,r,st,S,R,P⟩=>⟨b,r,st,S,R,PostS.seq P⟩
theorem qO (h1:VS X E s1 F):VSs X E [s1] F:=qFY h1
def WN (f:FE):FS:=fun r st=>(f r st).bindS fun _ s => .nx r s
theorem ZA (h:VE X E e f) (hs:swapsWith e none pos.line X.env=pure false:=by rfl):VS X E (.Expr e pos) (WN f):=PS.imp (qEg h hs) fun D s H ⟨b,r,st,S,R,P⟩ =>
 ⟨b,r,st,S,R,PostE.bindS P fun p s1 u H1 b1 e1 S1 r1 P1=>P1 s H1 b1 (Ext.refl _ _) S1 (R.ext e1)⟩
def qe (f:FE):FS:=fun r st=>(f r st).bindS fun p s => .rt p s
theorem qd (h:VE X E e f):VS X E (.Return (some e) pos) (qe f):=PS.imp (qDp h) fun D s H ⟨b,r,st,S,R,P⟩ =>
 ⟨b,r,st,S,R,PostE.bindS P fun p s1 u H1 b1 e1 S1 r1 P1=>P1 u H1 b1 (Ext.refl _ _) S1 r1⟩
def yR (f:FL):FS:=fun r st=>(f r st).bindS fun l s => .rt (.ref s.length) (s++[.l l])
def Qb (t:FT) (F G:FS):FS:=fun r st=>(t r st).bindS fun k s=>if k=true then F r s else G r s
theorem Qs {t:FT} {bs cs:List Stmt} (hc:VT X E e t) (ha:VSs X E bs F) (hb:VSs X E cs G):VS X E (.If e bs cs pos) (Qb t F G):=PS.imp (qIs hc ha hb) fun D s H ⟨b,r,st,S,R,P⟩ =>
 ⟨b,r,st,S,R,PostT.bindS P fun k s1 H1 b1 e1 S1 P1=>by
  cases k with
  |true=>exact qBf ⟨b1,r,s1,S1,R.ext e1,P1⟩
  |false=>exact qBy ⟨b1,r,s1,S1,R.ext e1,P1⟩⟩
def ql (i:Nat) (f:FE):FS:=fun r st=>(f r st).bindS fun p s => .nx (r.set i (some p)) s
theorem QM (i:Nat) {x:Str} {p':Pos} (hN:X.N.Nodup) (h:VE X E e f) (hi:X.N[i]? = some x:=by rfl) (hx:Loc X.env.scope x:=by first |exact Or.inl rfl |exact Or.inr rfl) (hs:swapsWith e (some (.Name x p')) pos.line X.env=pure false:=by rfl) (hf:X.fn x=true∨X.env.scope.names.lookup x=some .local:=by first |exact .inl rfl |exact .inr rfl |assumption) :
  VS X E (.Assign [.Name x p'] e pos) (ql i f):=PS.imp (qD8 hN hi hx h hs hf) fun D s H ⟨b,r,st,S,R,P⟩ =>
 ⟨b,r,st,S,R,PostE.bindS P fun p s1 u H1 b1 e1 S1 r1 P1=>P1 _ H1 b1 (Ext.refl _ _) S1 ((R.ext e1).set r1 i)⟩
def WO (i:Nat) (f:FL):FS:=fun r st=>(f r st).bindS fun l s => .nx (r.set i (some (.ref s.length))) (s++[.l l])
theorem Ext.adopt {H H':Hp} {b b':Bz} {p:Addr} (e:Ext H b H' b') (hn:H p=none):Ext H b H' ⟨b'.b++[p],b'.z⟩:=by
 obtain ⟨n,hb,hh⟩:=e.more
 refine ⟨⟨⟨n++[p],by rw [hb,Aj],fun a ha => ?_⟩,e.zm,e.keep,e.dom⟩,e.same,e.hid,e.fz⟩
 rcases Ar.mp ha with ha |ha
 ·exact hh a ha
 ·rw [Ai.mp ha];exact hn
theorem PostN.bindS {K:W.Frag} {E:XK} {H:Hp} {b:Bz} {r:Rs (List PV)} {k:PV->qC->RS} {D:Ends} {R:VK} (P:PostS K E H b (r.bindS fun l s=>k (.ref s.length) (s++[.l l])) D)
  (h:∀ q st v H1 b1,Ext H b H1 b1->SR K H1 b1 st->RV K H1 b1 q v->PostS K E H1 b1 (k q st) D->R v H1):PostN K E H b r R:=by
 cases r with
 |ok l st =>
  intro p xs H' b' e hn hp hz S rs
  have e':=e.adopt hn
  have hl:b'.b.length=st.length:=S.len
  refine h (.ref st.length) (st++[.l l]) (.ref p) H' ⟨b'.b++[p],b'.z⟩ e' (S.slot (x := .l l) hz hp ⟨xs,rfl,rs⟩) ?_ (PostS.ext (show PostS K E H b (k (.ref st.length) (st++[.l l])) D from P) e')
  unfold RV
  exact ⟨p,rfl,by show (b'.b++[p])[st.length]? = some p;rw [← hl];simp⟩
 |ex x st=>exact P
 |no=>exact P
theorem Y9 (i:Nat) {f:FL} {x:Str} {p':Pos} (hN:X.N.Nodup) (h:VN X E e f) (hi:X.N[i]? = some x:=by rfl) (hx:Loc X.env.scope x:=by first |exact Or.inl rfl |exact Or.inr rfl) (hs:swapsWith e (some (.Name x p')) pos.line X.env=pure false:=by rfl) (hf:X.fn x=true∨X.env.scope.names.lookup x=some .local:=by first |exact .inl rfl |exact .inr rfl |assumption) :
  VS X E (.Assign [.Name x p'] e pos) (WO i f):=PS.imp (qD8 hN hi hx h hs hf) fun D s H ⟨b,r,st,S,R,P⟩ =>
 ⟨b,r,st,S,R,PostN.bindS (k:=fun q s => .nx (r.set i (some q)) s) P fun p s1 u H1 b1 e1 S1 r1 P1=>P1 _ H1 b1 (Ext.refl _ _) S1 ((R.ext e1).set r1 i)⟩
theorem qAf {f:FL} (h:VN X E e f):VS X E (.Return (some e) pos) (yR f):=PS.imp (qDp h) fun D s H ⟨b,r,st,S,R,P⟩ =>
 ⟨b,r,st,S,R,PostN.bindS (k:=fun q s => .rt q s) P fun p s1 u H1 b1 e1 S1 r1 P1=>P1 u H1 b1 (Ext.refl _ _) S1 r1⟩
abbrev FG:=PV->QC->Option QC
abbrev FGs:=List PV->QC->Option QC
def rdG (K:W.Frag) (g:FG):TG:=fun v s H Q => ∃ b r p st,SR K H b st∧REnv K H b r s∧RV K H b p v ∧ ∃ r',g p r=some r' ∧ ∀ s',REnv K H b r' s'->Q s' H
def qJL (K:W.Frag) (g:FGs):TGs:=fun v s H Q => ∃ b r p st,SR K H b st∧REnv K H b r s∧RVs K H b p v ∧ ∃ r',g p r=some r' ∧ ∀ s',REnv K H b r' s'->Q s' H
abbrev VG (X:Cx) (e:Expr) (g:FG):Prop:=PG X e (rdG X.K g)
abbrev VGs (X:Cx) (e:List Expr) (g:FGs):Prop:=PGs X e (qJL X.K g)
theorem PG.imp {X:Cx} {e:Expr} {t t':TG} (h:PG X e t) (i:∀ v s H Q,t' v s H Q->t v s H Q):PG X e t':=fun pins s σ H v u Q I r q=>h pins s σ H v u Q I r (i _ _ _ _ q)
theorem PGs.imp {X:Cx} {e:List Expr} {t t':TGs} (h:PGs X e t) (i:∀ v s H Q,t' v s H Q->t v s H Q):PGs X e t':=fun pins s σ H v u Q I r q=>h pins s σ H v u Q I r (i _ _ _ _ q)
def QB (i:Nat):FG:=fun p r=>some (r.set i (some p))
theorem q0 (i:Nat) {x:Str} (hN:X.N.Nodup) (hi:X.N[i]? = some x:=by rfl) (hx:Loc X.env.scope x:=by first |exact Or.inl rfl |exact Or.inr rfl) (hf:X.fn x=true∨X.env.scope.names.lookup x=some .local:=by first |exact .inl rfl |exact .inr rfl |assumption):VG X (.Name x pos) (QB i) :=
 PG.imp (qFR hN hi hx hf) fun v s H Q ⟨b,r,p,st,S,R,rv,r',e,q⟩=>q _ (by cases e;exact R.set rv i)
def Wy:FGs:=fun l r=>match l with
 |[]=>some r
 |_=>none
def qz (g:FG) (gs:FGs):FGs:=fun l r=>match l with
 |p::ps=>match g p r with
  |some r'=>gs ps r'
  |none=>none
 |[]=>none
theorem WV:VGs X [] Wy:=PGs.imp qEi fun v s H Q ⟨b,r,p,st,S,R,rv,r',e,q⟩=>by
 cases p with
 |nil=>unfold RVs at rv;subst rv;cases e;exact ⟨rfl,q s R⟩
 |cons _ _=>cases e
theorem qy {g:FG} {gs:FGs} (h1:VG X e g) (h2:VGs X es gs) (hs:(assignEach (e::es) X.env).map (·.2)=assign e X.env::(assignEach es X.env).map (·.2):=by rfl):VGs X (e::es) (qz g gs) :=
 PGs.imp (qDO h1 h2 hs) fun v s H Q ⟨b,r,p,st,S,R,rv,r',e,q⟩=>by
  cases p with
  |nil=>cases e
  |cons p ps =>
   unfold RVs at rv
   obtain ⟨x,xr,rfl,h3,h4⟩:=rv
   unfold qz at e
   dsimp only at e
   cases e2:g p r with
   |none=>rw [e2] at e;cases e
   |some r2 =>
    rw [e2] at e
    exact ⟨x,xr,rfl,b,r,p,st,S,R,h3,r2,e2,fun s' R'=>⟨b,r2,ps,st,S,R',h4,r',e,q⟩⟩
def Wl (n:Nat) (gs:FGs):FG:=fun p r=>match p with
 | .tup l=>if l.length=n then gs l r else none
 |_=>none
theorem zX {k:Nat} {n:Nat} {gs:FGs} (hc:X.calm=true) (h:VGs X es gs) (hn:(assignEach es X.env).length=n:=by rfl) (hst:(assignEach es X.env).findIdx? (·.1)=none:=by rfl):VG X (.Tuple es k pos) (Wl n gs) :=
 PG.imp (qHE hc h hn hst) fun v s H Q ⟨b,r,p,st,S,R,rv,r',e,q⟩=>by
  unfold Wl at e
  split at e
  ·rename_i l
   split at e
   ·rename_i hl
    unfold RV at rv
    obtain ⟨a,xs,rfl,h2,h3⟩:=rv
    exact ⟨a,xs,rfl,h2.sq,by rw [← h3.length];exact hl,b,r,l,st,S,R,h3,r',e,q⟩
   ·cases e
  ·cases e
def YW (f:FE) (g:FG):FS:=fun r st=>(f r st).bindS fun p s=>match g p r with
 |some r' => .nx r' s
 |none => .no
theorem qAS {g:FG} (h:VE X E e f) (hg:VG X d g) (hs:swapsWithSole [d] e pos.line X.env=pure false:=by rfl) (hw:swappedStores [d] e X.env=pure none:=by rfl)
  (h1:(assignEach [d] X.env).map (·.2)=[assign d X.env]:=by rfl):VS X E (.Assign [d] e pos) (YW f g):=PS.imp (qCv h hg hs hw h1) fun D s H ⟨b,r,st,S,R,P⟩ =>
 ⟨b,r,st,S,R,PostE.bindS P fun p s1 u H1 b1 e1 S1 r1 P1=>by
  cases e2:g p r with
  |none=>rw [e2] at P1;exact P1.elim
  |some r'=>rw [e2] at P1;exact ⟨b1,r,p,s1,S1,R.ext e1,r1,r',e2,fun s' R'=>P1 s' H1 b1 (Ext.refl _ _) S1 R'⟩⟩
def Zj (i j:Nat) (t:FA):FS:=fun r st=>(t r st).bindS fun l s=>match l with
 |[p,q] => .nx ((r.set i (some p)).set j (some q)) s
 |_ => .no
theorem qAO (i j:Nat) {x y:Str} {t:FA} {px py pt:Pos} {kt k2 pt2} (hc:X.calm=true) (hN:X.N.Nodup) (ha:VA X E [a,c] t) (hw:swappedStores [.Tuple [.Name x px,.Name y py] kt pt] (.Tuple [a,c] k2 pt2) X.env=pure (some [x,y]):=by rfl)
  (hi:X.N[i]? = some x:=by rfl) (hj:X.N[j]? = some y:=by rfl) (hij:i≠j:=by decide) (hx:X.env.scope.names.lookup x=some .local:=by rfl) (hy:X.env.scope.names.lookup y=some .local:=by rfl)
  (hs:swapsWithSole [.Tuple [.Name x px,.Name y py] kt pt] (.Tuple [a,c] k2 pt2) pos.line X.env=pure false:=by rfl):VS X E (.Assign [.Tuple [.Name x px,.Name y py] kt pt] (.Tuple [a,c] k2 pt2) pos) (Zj i j t) :=
 PS.imp (qGL hc hN hi hj hij hx hy ha hw hs) fun D s H ⟨b,r,st,S,R,P⟩=>⟨b,r,st,S,R,PostA.bindS P fun l s1 us H1 b1 e1 S1 r1 P1=>by
  split at P1
  ·obtain ⟨u,v,rfl,h1,h2⟩:=RVs.two r1
   exact ⟨u,v,rfl,P1 _ H1 b1 (Ext.refl _ _) S1 (((R.ext e1).set h1 i).set h2 j)⟩
  ·exact P1.elim⟩
def zi (st:qC) (o i v:PV):Option qC:=match o,i with
 | .ref n,.int k=>match st[n]? with
  |some (.l xs)=>match ixN xs.length k with
   |some j=>some (st.set n (.l (xs.set j v)))
   |none=>none
  |_=>none
 |_,_=>none
def qEB (fo fi f:FE):FS:=fun r st=>(f r st).bindS fun p s1=>(fo r s1).bindS fun o s2=>(fi r s2).bindS fun i s3=>match zi s3 o i p with
 |some s4 => .nx r s4
 |none => .no
theorem jw {K:W.Frag} {H:Hp} {b:Bz} {st st':qC} {o i p:PV} {ov iv v:V} {Q:Hp->Prop} (S:SR K H b st) (ro:RV K H b o ov) (ri:RV K H b i iv) (rp:RV K H b p v) (e:zi st o i p=some st')
  (q:∀ H' b',Ext H b H' b'->SR K H' b' st'->Q H'):qF9 ov iv v H Q:=by
 unfold zi at e
 split at e
 ·rename_i n k
  split at e
  ·rename_i xs e1
   split at e
   ·rename_i j e2
    cases e
    unfold RV at ro ri
    obtain ⟨a,rfl,ha⟩:=ro
    obtain ⟨a',o',h1,h2,vs,rfl,h4⟩:=S.at_ n _ e1
    rw [ha] at h1;cases h1
    have hm:a∈b.b:=As ha
    refine ⟨a,vs,k,j,rfl,ri,h2,by rw [← h4.length];exact e2,q _ b (Ext.wr hm S.zb (qGD h2)) (S.wr (x := .l (xs.set j p)) ha ⟨_,rfl,?_⟩)⟩
    have ew:Ext H b (upd H a (.lst (vs.set j v))) b:=Ext.wr hm S.zb (qGD h2)
    exact RVs.set (RV.ext ew p rp) j (RVs.ext ew xs h4)
   ·cases e
  ·cases e
 ·cases e
theorem qHn {fo fi:FE} {o i:Expr} {tpos:Pos} (ho:VE X E o fo) (hi:VE X E i fi) (h:VE X E e f)
  (hs:swapsWithSole [.Subscript o i tpos] e pos.line X.env=pure false:=by rfl) (hw:swappedStores [.Subscript o i tpos] e X.env=pure none:=by rfl) (h1:(assignEach [.Subscript o i tpos] X.env).map (·.2)=[assign (.Subscript o i tpos) X.env]:=by rfl)
  (ha:∀ v,assign (.Subscript o i tpos) X.env v=(do
   let ov ← holding [v] (eval o X.env)
   let iv ← holding [v,ov] (eval i X.env)
   standAt tpos
   holding [v,ov,iv] (setItem ov iv v)
   release [v,ov,iv] []):=by intro _;rfl):VS X E (.Assign [.Subscript o i tpos] e pos) (qEB fo fi f) :=
 PS.imp (qCv h (qG4 ho hi Jl ha) hs hw h1) fun D s H ⟨b,r,st,S,R,P⟩=>⟨b,r,st,S,R,PostE.bindS P fun p s1 u H1 b1 e1 S1 r1 P1 =>
  ⟨b1,r,s1,S1,R.ext e1,PostE.bindS P1 fun o s2 ou H2 b2 e2 S2 r2 P2=>⟨b2,r,s2,S2,(R.ext e1).ext e2,PostE.bindS P2 fun i s3 iu H3 b3 e3 S3 r3 P3=>by
   split at P3
   ·rename_i s4 e4
    exact jw S3 (RV.ext e3 o r2) r3 (RV.ext e3 p (RV.ext e2 p r1)) e4 fun H' b' e' S'=>P3 s H' b' e' S' ((((R.ext e1).ext e2).ext e3).ext e')
   ·exact P3.elim⟩⟩⟩
structure ItP where
 l:List PV
 G:qC->Prop
def Zu (K:W.Frag) (H0:Hp) (b0:Bz) (J:It) (w:ItP):Prop := ∀ H1 b1 st1,WE H0 b0 H1 b1->SR K H1 b1 st1->w.G st1 ->
 (∀ (i:Nat) (p:PV),w.l[i]? = some p->J.go i H1 ∧ ∀ x H2,J.yld i H1 x H2->Same H1 H2∧SR K H2 b1 st1∧RV K H2 b1 p x) ∧ ∀ i,w.l.length≤i->J.stop i H1
def PostI (K:W.Frag) (E:XK) (H:Hp) (b:Bz) (r:Rs ItP) (R:It->Hp->Prop):Prop:=match r with
 | .ok w st => ∀ J H' b',Ext H b H' b'->SR K H' b' st->Zu K H' b' J w->R J H'
 | .ex x st=>XP K E H b x st
 | .no=>False
abbrev FI:=QC->qC->Rs ItP
def rdI (K:W.Frag) (E:XK) (f:FI):TI:=fun s H R => ∃ b r st,SR K H b st∧REnv K H b r s∧PostI K E H b (f r st) R
abbrev VI (X:Cx) (E:XK) (tg e:Expr) (f:FI):Prop:=PI X tg e (rdI X.K E f)
theorem PostI.ext {K:W.Frag} {E:XK} {H H1:Hp} {b b1:Bz} {r:Rs ItP} {R:It->Hp->Prop} (h:PostI K E H b r R) (e:Ext H b H1 b1):PostI K E H1 b1 r R:=by
 cases r with
 |ok p st=>exact fun J H' b' e'=>h J H' b' (e.trans e')
 |ex x st=>exact XP.ext h e
 |no=>exact h
theorem PostE.bindI {K:W.Frag} {E:XK} {H:Hp} {b:Bz} {r:Rs PV} {k:PV->qC->Rs ItP} {Q:It->Hp->Prop} {R:VK} (P:PostI K E H b (r.bind k) Q)
  (h:∀ p st v H1 b1,Ext H b H1 b1->SR K H1 b1 st->RV K H1 b1 p v->PostI K E H1 b1 (k p st) Q->R v H1):PostE K E H b r R:=by
 cases r with
 |ok p st=>exact fun v H1 b1 e S r=>h p st v H1 b1 e S r (PostI.ext (show PostI K E H b (k p st) Q from P) e)
 |ex x st=>exact P
 |no=>exact P
theorem PostA.bindI {K:W.Frag} {E:XK} {H:Hp} {b:Bz} {r:Rs (List PV)} {k:List PV->qC->Rs ItP} {Q:It->Hp->Prop} {R:List V->Hp->Prop} (P:PostI K E H b (r.bind k) Q)
  (h:∀ p st v H1 b1,Ext H b H1 b1->SR K H1 b1 st->RVs K H1 b1 p v->PostI K E H1 b1 (k p st) Q->R v H1):PostA K E H b r R:=by
 cases r with
 |ok p st=>exact fun v H1 b1 e S r=>h p st v H1 b1 e S r (PostI.ext (show PostI K E H b (k p st) Q from P) e)
 |ex x st=>exact P
 |no=>exact P
def qFf (p:PV) (st:qC):Rs ItP:=match p with
 | .ref i=>match asL st (.ref i) with
  |some l => .ok ⟨l,fun s=>s[i]? = some (.l l)⟩ st
  |none => .no
 |p=>match zg st p with
  |some l => .ok ⟨l,fun _=>True⟩ st
  |none => .no
def q9 (f:FE):FI:=fun r st=>(f r st).bind qFf
theorem qGf {l tg:Expr} {tl:TE} (hl:PE X l tl):PI X tg l (fun σ H R=>tl σ H fun x H1 => ∃ a,x = .ref a∧(((∃ xs,SqL X.K H1 a xs)∧R (Itl X.K a) H1)∨((∃ xs,SqT X.K H1 a xs)∧R (Itt X.K a) H1))):=by
 intro pins s σ H R I h
 refine thn (hl pins s σ H _ I h) fun v s1 ⟨x,H1,I1,r1,q1⟩ => ?_
 obtain ⟨a,e,q⟩:=q1
 subst e
 cases r1
 rcases q with ⟨⟨xs,hq⟩,q⟩ |⟨⟨xs,hq⟩,q⟩
 ·obtain ⟨its,rv,p,hz⟩:=I1.list hq
  refine wpAny_pyIter_list p.isList ?_
  refine ⟨s1.heap.objs.size,[s1.heap.objs.size],_,_,H1,rfl,I1.kept (t':=s1.toks) fun b o e=>AF _ e,qBi a _,⟨_,AW _ rfl,rfl,rfl⟩,fun b hb => ?_,q⟩
  have e:b=s1.heap.objs.size:=by simpa using hb
  subst e
  exact I1.fpOk (AM _) (I1.hok.fresh (AM _))
 ·obtain ⟨its,rv,p,hz⟩:=I1.tuple hq
  refine wpAny_pyIter_tuple (show s1.heap.IsTuple a its.toArray from p) ?_
  refine ⟨s1.heap.objs.size,[s1.heap.objs.size],_,_,H1,rfl,I1.kept (t':=s1.toks) fun b o e=>AF _ e,Jz a _,⟨_,AW _ rfl,rfl,rfl⟩,fun b hb => ?_,q⟩
  have e:b=s1.heap.objs.size:=by simpa using hb
  subst e
  exact I1.fpOk (AM _) (I1.hok.fresh (AM _))
theorem Yk {K:W.Frag} {H0:Hp} {b0:Bz} {a:Addr} {l:List PV} {G:qC->Prop}
  (h:∀ H1 b1 st1,WE H0 b0 H1 b1->SR K H1 b1 st1->G st1 -> ∃ xs,SqL K H1 a xs∧RVs K H1 b1 l xs):Zu K H0 b0 (Itl K a) ⟨l,G⟩:=by
 intro H1 b1 st1 e S g
 obtain ⟨xs,hq,r⟩:=h H1 b1 st1 e S g
 refine ⟨fun i p hp => ?_,fun i hi=>⟨xs,hq,by rw [← r.length];exact hi⟩⟩
 obtain ⟨x,hx,rx⟩:=r.get hp
 exact ⟨⟨xs,x,hq,hx⟩,fun y H2 ⟨e2,hy⟩=>by
  subst e2
  have:=hy xs hq
  rw [hx] at this;cases this
  exact ⟨Same.refl _,S,rx⟩⟩
theorem qCk {K:W.Frag} {H0:Hp} {b0:Bz} {a:Addr} {l:List PV} {G:qC->Prop}
  (h:∀ H1 b1 st1,WE H0 b0 H1 b1->SR K H1 b1 st1->G st1 -> ∃ xs,SqT K H1 a xs∧RVs K H1 b1 l xs):Zu K H0 b0 (Itt K a) ⟨l,G⟩:=by
 intro H1 b1 st1 e S g
 obtain ⟨xs,hq,r⟩:=h H1 b1 st1 e S g
 refine ⟨fun i p hp => ?_,fun i hi=>⟨xs,hq,by rw [← r.length];exact hi⟩⟩
 obtain ⟨x,hx,rx⟩:=r.get hp
 exact ⟨⟨xs,x,hq,hx⟩,fun y H2 ⟨e2,hy⟩=>by
  subst e2
  have:=hy xs hq
  rw [hx] at this;cases this
  exact ⟨Same.refl _,S,rx⟩⟩
theorem wY {tg:Expr} (h:VE X E e f):VI X E tg e (q9 f):=fun pins s σ H R I q=>qGf h pins s σ H R I (by
 obtain ⟨b,r,st,S,RE,P⟩:=q
 refine ⟨b,r,st,S,RE,PostE.bindI P fun p s1 u H1 b1 e1 S1 r1 P1 => ?_⟩
 unfold qFf at P1
 split at P1
 ·rename_i i
  split at P1
  ·rename_i l el
   have r0:=r1
   unfold RV at r1
   obtain ⟨a,rfl,ha⟩:=r1
   obtain ⟨a',xs,e2,hq,hr⟩:=Qj S1 r0 el
   cases e2
   refine ⟨a,rfl,.inl ⟨⟨xs,hq⟩,P1 _ H1 b1 (Ext.refl _ _) S1 (Yk fun H2 b2 st2 e2 S2 g2 => ?_)⟩⟩
   obtain ⟨a'',o,k1,k2,vs,rfl,k4⟩:=S2.at_ i _ g2
   rw [e2.ix ha] at k1;cases k1
   exact ⟨vs,SqL.of k2,k4⟩
  ·exact P1.elim
 ·split at P1
  ·rename_i l el
   cases p with
   |tup m =>
    have em:m=l:=An el
    subst em
    unfold RV at r1
    obtain ⟨a,xs,rfl,h2,h3⟩:=r1
    exact ⟨a,rfl,.inr ⟨⟨xs,h2.sq⟩,P1 _ H1 b1 (Ext.refl _ _) S1 (qCk fun H2 b2 st2 e2 S2 _=>⟨xs,(h2.wext e2).sq,RVs.wext e2 m h3⟩)⟩⟩
   |lst m =>
    have em:m=l:=An el
    subst em
    unfold RV at r1
    obtain ⟨a,xs,rfl,h2,h3⟩:=r1
    exact ⟨a,rfl,.inl ⟨⟨xs,h2.sq⟩,P1 _ H1 b1 (Ext.refl _ _) S1 (Yk fun H2 b2 st2 e2 S2 _=>⟨xs,(h2.wext e2).sq,RVs.wext e2 m h3⟩)⟩⟩
   |ref i=>rename_i hx;exact (hx i rfl).elim
   |_=>cases el
  ·exact P1.elim)
def Zs (lo hi:Int):List PV:=(List.range (hi - lo).toNat).map fun (i:Nat)=>PV.int (lo + (i:Int))
def jJ (l:List PV) (st:qC):Rs ItP:=match l with
 |[.int j]=>if -(2 ^ 62)≤j∧j < 2 ^ 62 then .ok ⟨Zs 0 j,fun _=>True⟩ st else .no
 |_ => .no
def jb (l:List PV) (st:qC):Rs ItP:=match l with
 |[.int i,.int j]=>if -(2 ^ 62)≤i∧i < 2 ^ 62 ∧ -(2 ^ 62)≤j∧j < 2 ^ 62 then .ok ⟨Zs i j,fun _=>True⟩ st else .no
 |_ => .no
theorem Js {K:W.Frag} {H0:Hp} {b0:Bz} {lo hi:Int}:Zu K H0 b0 (Itr lo (hi - lo).toNat) ⟨Zs lo hi,fun _=>True⟩:=by
 intro H1 b1 st1 e S g
 have hl:(Zs lo hi).length=(hi - lo).toNat:=by simp [Zs]
 refine ⟨fun i p hp => ?_,fun i hi'=>by rw [show (ItP.mk (Zs lo hi) fun _=>True).l.length=(hi - lo).toNat from hl] at hi';exact hi'⟩
 have hi':i < (hi - lo).toNat:=by
  have:=(AO.mp hp).1
  rw [← hl];exact this
 unfold Zs at hp
 dsimp only at hp
 rw [Ag,B8 hi'] at hp
 cases hp
 exact ⟨hi',fun x H2 ⟨e1,e2⟩=>by subst e1;subst e2;exact ⟨Same.refl _,S,Q9⟩⟩
def QO (t:FA):FI:=fun r st=>(t r st).bind jJ
def Jo (t:FA):FI:=fun r st=>(t r st).bind jb
theorem qr {tg:Expr} {t:FA} {p:Pos} (hg:Gl X "range") (hm:X.mg "range" = none) (ha:VA X E [a] t) (hs:starEach [a] X.env=[(false,eval a X.env)]:=by rfl):VI X E tg (.Call (.Name "range" p) [a] [] pos) (QO t):=fun pins s σ H R I q=>qBj hg hm ha hs pins s σ H R I (by
 obtain ⟨b,r,st,S,RE,P⟩:=q
 refine ⟨b,r,st,S,RE,PostA.bindI P fun l s1 us H1 b1 e1 S1 r1 P1 => ?_⟩
 unfold jJ at P1
 split at P1
 ·obtain ⟨u,rfl,h1⟩:=RVs.one r1
  unfold RV at h1;subst h1
  split at P1
  ·rename_i j hj
   refine ⟨j,rfl,hj.1,hj.2,?_⟩
   have:=P1 (Itr 0 (j - 0).toNat) H1 b1 (Ext.refl _ _) S1 Js
   rw [Int.sub_zero] at this
   exact this
  ·exact P1.elim
 ·exact P1.elim)
theorem qB0 {tg:Expr} {t:FA} {p:Pos} (hg:Gl X "range") (hm:X.mg "range" = none) (ha:VA X E [a,c] t) (hs:starEach [a,c] X.env=[(false,eval a X.env),(false,eval c X.env)]:=by rfl) (hs2:starEach [c] X.env=[(false,eval c X.env)]:=by rfl):VI X E tg (.Call (.Name "range" p) [a,c] [] pos) (Jo t):=fun pins s σ H R I q=>qBe hg hm ha hs hs2 pins s σ H R I (by
 obtain ⟨b,r,st,S,RE,P⟩:=q
 refine ⟨b,r,st,S,RE,PostA.bindI P fun l s1 us H1 b1 e1 S1 r1 P1 => ?_⟩
 unfold jb at P1
 split at P1
 ·obtain ⟨u,v,rfl,h1,h2⟩:=RVs.two r1
  unfold RV at h1 h2;subst h1;subst h2
  split at P1
  ·rename_i i j hj
   exact ⟨i,j,rfl,hj,P1 _ H1 b1 (Ext.refl _ _) S1 Js⟩
  ·exact P1.elim
 ·exact P1.elim)
theorem PSs.unbare {X:Cx} {st:List Stmt} {t:TS} (h:PSs X.nox st t) {pins:List (Addr×Obj)} {s:Shared} {σ:L2.St} {H:Hp} {D:Ends} {E:Value->Shared->Prop} (I:L2.Inv X pins σ H s) (q:t D σ H):wpAny (model X.prog X.w) X.A (execs st X.env) (SP X pins D) E s :=
 wpAny_noRaise (thn (h pins s σ H D (I.wish _) q) fun f s' hs=>hs.unwish)
theorem PG.unbare {X:Cx} {tg:Expr} {t:TG} (h:PG X.nox tg t) {pins:List (Addr×Obj)} {s:Shared} {σ:L2.St} {H:Hp} {v:V} {u:Value} {Q:L2.St->Hp->Prop} {E:Value->Shared->Prop} (I:L2.Inv X pins σ H s) (r:RelV v u) (q:t v σ H Q):wpAny (model X.prog X.w) X.A (assign tg X.env u) (fun _ s' => ∃ σ' H',L2.Inv X pins σ' H' s'∧Q σ' H') E s :=
 wpAny_noRaise (thn (h pins s σ H v u Q (I.wish _) r q) fun f s' ⟨σ',H',I',q'⟩=>⟨σ',H',I'.unwish,q'⟩)
theorem qFG {tg iter:Expr} {body:List Stmt} {wi:TI} {g:TG} {tb:TS} {pos:Pos} (hi:PI X tg iter wi) (hg:PG X.nox tg g) (hb:PSs X.nox body tb)
  (hs:∀ x,foldedSetIterable iter X.env x=pure x:=by intro _;rfl):PS X (.For tg iter body [] pos) (qIw wi g tb):=by
 intro pins s σ H D I h
 refine wpAny_For (thn (hi pins s σ H _ I h) fun v s1 h1=>thn h1 fun itv s2 h2 => ?_) hs
 obtain ⟨it,fp,tn,J,H2,e,I2,T,st2,f2,W,⟨m0,w0⟩,turn⟩:=h2
 subst e
 have stat:∀ {H':Hp},(∀ b∈fp,H' b=none) -> ∀ b∈fp,z8 X pins H' b:=fun hn b hb=>⟨hn b hb,(f2 b hb).2⟩
 refine codeAny_forLoop_any (fun n s' => ∃ i σ' H',L2.Inv X pins σ' H' s'∧tn i s'.heap∧(∀ b∈fp,H' b=none)∧W i n σ' H') ?_ m0 ⟨0,σ,H2,I2,st2,fun b hb=>(f2 b hb).1,w0⟩
 rintro n s3 ⟨i,σ3,H3,I3,st3,fr3,w3⟩
 rcases turn i n σ3 H3 w3 with ⟨stop,qn⟩ |⟨go,N,hN,step⟩
 ·refine thn (T.done X rfl rfl rfl rfl i pins s3 σ3 H3 _ I3 (stat fr3) st3 stop) fun r s4 ⟨hr,I4⟩ => ?_
  subst hr
  exact wpAny_execs_nil ⟨σ3,H3,I4,qn⟩
 ·refine thn (T.item X rfl rfl rfl rfl i pins s3 σ3 H3 _ I3 (stat fr3) st3 go) fun r s4 ⟨u,hr,h4⟩ => ?_
  subst hr
  refine thn h4 fun _ s5 ⟨x,H5,I5,r5,y5,st5,fr5⟩ => ?_
  have I5':=I5.pinned (stat fr5) (T.obj _ _ st5)
  refine thn (PG.unbare hg I5' r5 (step x H5 y5)) fun _ s6 ⟨σ6,H6,I6,q6⟩ => ?_
  refine thn (PSs.unbare hb I6 q6) fun f s7 q7 => ?_
  have again:∀ {σ7:L2.St} {H7:Hp},L2.Inv X (pins++zu fp s5.heap) σ7 H7 s7->N σ7 H7 -> ∃ m,m < n ∧ ∃ i σ' H',L2.Inv X pins σ' H' s7∧tn i s7.heap∧(∀ b∈fp,H' b=none)∧W i m σ' H':=fun {σ7 H7} I7 n7=>by
   obtain ⟨m',hm,w7⟩:=hN σ7 H7 n7
   refine ⟨m',hm,i + 1,σ7,H7,I7.unpinned,T.keep _ _ _ st5 fun b hb o e=>(I7.pin (b,o) (A4 _ (A4 _ (W4 hb e)))).1,fun b hb => ?_,w7⟩
   obtain ⟨o,e,d⟩:=T.obj _ _ st5 b hb
   exact (I7.pin (b,o) (A4 _ (A4 _ (W4 hb e)))).2.1
  cases f with
  |next=>obtain ⟨σ7,H7,I7,n7⟩:=q7;exact again I7 n7
  |cont=>obtain ⟨σ7,H7,I7,n7⟩:=q7;exact again I7 n7
  |brk=>obtain ⟨σ7,H7,I7,q7⟩:=q7;exact ⟨σ7,H7,I7.unpinned,q7⟩
  |ret v=>obtain ⟨x7,σ7,H7,I7,r7,q7⟩:=q7;exact ⟨x7,σ7,H7,I7.unpinned,r7,q7⟩
open Classical in
noncomputable def Qa (G:qC->Prop) (g:FG) (F:FS):List PV->QC->qC->RS
 |[],r,st=>if G st then .nx r st else .no
 |p::ps,r,st=>if G st then
   match g p r with
   |none => .no
   |some r1=>match F r1 st with
    | .nx r2 s2=>Qa G g F ps r2 s2
    | .ct r2 s2=>Qa G g F ps r2 s2
    | .bk r2 s2 => .nx r2 s2
    | .rt v s2 => .rt v s2
    | .ex _ _ => .no
    | .no => .no
  else .no
noncomputable def wn (fi:FI) (g:FG) (F:FS):FS:=fun r st=>(fi r st).bindS fun w s=>Qa w.G g F w.l r s
theorem PostI.bindS {K:W.Frag} {E:XK} {H:Hp} {b:Bz} {r:Rs ItP} {k:ItP->qC->RS} {D:Ends} {R:It->Hp->Prop} (P:PostS K E H b (r.bindS k) D)
  (h:∀ w st J H1 b1,Ext H b H1 b1->SR K H1 b1 st->Zu K H1 b1 J w->PostS K E H1 b1 (k w st) D->R J H1):PostI K E H b r R:=by
 cases r with
 |ok p st=>exact fun J H1 b1 e S r=>h p st J H1 b1 e S r (PostS.ext (show PostS K E H b (k p st) D from P) e)
 |ex x st=>exact P
 |no=>exact P
theorem WL {tg iter:Expr} {body:List Stmt} {fi:FI} {g:FG} (hi:VI X E tg iter fi) (hg:VG X.nox tg g) (hb:VSs X.nox E0 body F) (hs:∀ x,foldedSetIterable iter X.env x=pure x:=by intro _;rfl):VS X E (.For tg iter body [] pos) (wn fi g F):=by
 refine PS.imp (qFG hi hg hb hs) fun D s H ⟨b,r,st,S,R,P⟩ => ?_
 refine ⟨b,r,st,S,R,PostI.bindS P fun w st1 J H1 b1 e1 S1 it P1 => ?_⟩
 refine ⟨fun i m σ' H' => ∃ b2 r2 st2,Ext H1 b1 H' b2∧SR X.K H' b2 st2∧REnv X.K H' b2 r2 σ'∧m=w.l.length + 1 - i∧i≤w.l.length∧PostS X.K E H' b2 (Qa w.G g F (w.l.drop i) r2 st2) D,⟨w.l.length + 1,b1,r,st1,Ext.refl _ _,S1,R.ext e1,by omega,A6 _,by simpa using P1⟩,?_⟩
 rintro i m σ' H' ⟨b2,r2,st2,e2,S2,R2,hm,hi',P2⟩
 by_cases hlt:i < w.l.length
 ·have hd:w.l.drop i=w.l[i]::w.l.drop (i + 1):=List.drop_eq_getElem_cons hlt
  rw [hd] at P2
  unfold Qa at P2
  by_cases hG:w.G st2
  ·rw [AG hG] at P2
   obtain ⟨h1,h2⟩:=it H' b2 st2 e2.toWE S2 hG
   obtain ⟨go,yl⟩:=h1 i w.l[i] (AI hlt)
   refine .inr ⟨go,fun σ3 H3 => ∃ b3 r3 st3,Ext H1 b1 H3 b3∧SR X.K H3 b3 st3∧REnv X.K H3 b3 r3 σ3∧PostS X.K E H3 b3 (Qa w.G g F (w.l.drop (i + 1)) r3 st3) D,?_,?_⟩
   ·rintro σ3 H3 ⟨b3,r3,st3,k1,k2,k3,k4⟩
    exact ⟨w.l.length + 1 - (i + 1),by omega,b3,r3,st3,k1,k2,k3,rfl,hlt,k4⟩
   ·intro x H3 hx
    obtain ⟨e3',S3,r3⟩:=yl x H3 hx
    have e3:Ext H' b2 H3 b2:=Ext.of_same e3'
    cases eg:g w.l[i] r2 with
    |none=>rw [eg] at P2;exact P2.elim
    |some r4 =>
     rw [eg] at P2
     refine ⟨b2,r2,w.l[i],st2,S3,R2.ext e3,r3,r4,eg,fun s4 R4=>⟨b2,r4,st2,S3,R4,?_⟩⟩
     have P3:=PostS.ext P2 e3
     dsimp only at P3
     have e13:=e2.trans e3
     cases eF:F r4 st2 with
     |nx r5 s5=>rw [eF] at P3;exact fun s6 H6 b6 e6 S6 R6=>⟨b6,r5,s5,e13.trans e6,S6,R6,PostS.ext P3 e6⟩
     |ct r5 s5=>rw [eF] at P3;exact fun s6 H6 b6 e6 S6 R6=>⟨b6,r5,s5,e13.trans e6,S6,R6,PostS.ext P3 e6⟩
     |bk r5 s5=>rw [eF] at P3;exact P3
     |rt v s5=>rw [eF] at P3;exact P3
     |ex x s5=>rw [eF] at P3;exact P3.elim
     |no=>rw [eF] at P3;exact P3.elim
  ·rw [AH hG] at P2;exact P2.elim
 ·have hl:i=w.l.length:=by omega
  subst hl
  rw [List.drop_length] at P2
  unfold Qa at P2
  by_cases hG:w.G st2
  ·rw [AG hG] at P2
   obtain ⟨h1,h2⟩:=it H' b2 st2 e2.toWE S2 hG
   exact .inl ⟨h2 _ (AM _),P2 σ' H' b2 (Ext.refl _ _) S2 R2⟩
  ·rw [AH hG] at P2;exact P2.elim
end
theorem QS {x n:Str} {a c:Addr} {r:List (Str×Addr)} (h:List.lookup x ((n,a)::r)=some c):(x=n∧a=c)∨(x≠n∧List.lookup x r=some c):=by
 rw [Ax] at h
 cases hb:x==n with
 |true=>rw [hb] at h;exact .inl ⟨CF.mp hb,An h⟩
 |false=>rw [hb] at h;exact .inr ⟨fun z=>(by rw [CF.mpr z] at hb;cases hb),h⟩
theorem Qv {x:Str} {c:Addr}:∀ {names:List (Str×NameKind)} {n:Nat} {acc:List (Str×Addr)},(cellsFrom n names acc).lookup x=some c->(n≤c∧(x,NameKind.cell)∈names)∨acc.lookup x=some c
 |[],_,_,h => .inr h
 |(nm,k)::r,n,acc,h=>by
  unfold cellsFrom at h
  split at h
  ·rename_i hk
   have hk':k = .cell:=by simpa using hk
   rcases Qv h with ⟨h1,h2⟩ |h1
   ·exact .inl ⟨Nat.le_of_succ_le h1,AB _ h2⟩
   ·rcases QS h1 with ⟨e1,e2⟩ |⟨_,e2⟩
    ·exact .inl ⟨Nat.le_of_eq e2,by rw [e1,hk'];exact AE⟩
    ·exact .inr e2
  ·rcases Qv h with ⟨h1,h2⟩ |h1
   ·exact .inl ⟨h1,AB _ h2⟩
   ·exact .inr h1
theorem Wf {x:Str} {c:Addr} {n0:Nat}:∀ {names:List (Str×NameKind)} {n:Nat} {acc:List (Str×Addr)},n0≤n->((∃ a,acc.lookup x=some a∧n0≤a)∨(x,NameKind.cell)∈names)->(cellsFrom n names acc).lookup x=some c->n0≤c
 |[],_,acc,_,h,e=>by
  rcases h with ⟨a,h1,h2⟩ |h
  ·have:acc.lookup x=some c:=e
   rw [h1] at this;cases this;exact h2
  ·exact absurd h (by simp)
 |(nm,k)::r,n,acc,hn,h,e=>by
  unfold cellsFrom at e
  split at e
  ·rename_i hk
   refine Wf (n:=n + 1) (Nat.le_succ_of_le hn) ?_ e
   by_cases hx:x=nm
   ·exact .inl ⟨n,by rw [Ax,hx,Aq],hn⟩
   ·rcases h with ⟨a,h1,h2⟩ |h
    ·exact .inl ⟨a,by rw [Ax,Bu hx];exact h1,h2⟩
    ·rcases AL.mp h with q |q
     ·exact absurd (B1 q).1 hx
     ·exact .inr q
  ·rename_i hk
   refine Wf hn ?_ e
   rcases h with h |h
   ·exact .inl h
   ·rcases AL.mp h with q |q
    ·exact absurd (by rw [← (B1 q).2];rfl) hk
    ·exact .inr q
theorem Wg {x y:Str} {c:Addr}:∀ {names:List (Str×NameKind)} {n:Nat} {acc:List (Str×Addr)},(∀ z a,acc.lookup z=some a->a < n)->(cellsFrom n names acc).lookup x=some c->(cellsFrom n names acc).lookup y=some c ->
  x=y∨(acc.lookup x=some c∧acc.lookup y=some c)
 |[],_,_,_,h1,h2 => .inr ⟨h1,h2⟩
 |(nm,k)::r,n,acc,hb,h1,h2=>by
  unfold cellsFrom at h1 h2
  split at h1
  ·rename_i hk
   rw [AG hk] at h2
   have hb':∀ z a,List.lookup z ((nm,n)::acc)=some a->a < n + 1:=fun z a h=>by
    rcases QS h with ⟨_,e⟩ |⟨_,e⟩
    ·rw [← e];exact Nat.lt_succ_self _
    ·exact A2 (hb z a e)
   rcases Wg hb' h1 h2 with e |⟨e1,e2⟩
   ·exact .inl e
   ·rcases QS e1 with ⟨p1,p2⟩ |⟨p1,p2⟩ <;> rcases QS e2 with ⟨q1,q2⟩ |⟨q1,q2⟩
    ·exact .inl (p1.trans q1.symm)
    ·exact absurd (hb y c q2) (by rw [← p2];exact BD _)
    ·exact absurd (hb x c p2) (by rw [← q2];exact BD _)
    ·exact .inr ⟨p2,q2⟩
  ·rename_i hk
   rw [AH hk] at h2
   exact Wg hb h1 h2
theorem wm {x:Str}:∀ {names:List (Str×NameKind)} {n:Nat} {acc:List (Str×Addr)},((∃ a,acc.lookup x=some a)∨(x,NameKind.cell)∈names) -> ∃ c,(cellsFrom n names acc).lookup x=some c
 |[],_,_,h=>h.elim (fun h=>h) fun h=>absurd h (by simp)
 |(nm,k)::r,n,acc,h=>by
  unfold cellsFrom
  split
  ·rename_i hk
   refine wm ?_
   by_cases hx:x=nm
   ·exact .inl ⟨n,by rw [Ax,hx,Aq]⟩
   ·rcases h with ⟨a,h1⟩ |h
    ·exact .inl ⟨a,by rw [Ax,Bu hx];exact h1⟩
    ·rcases AL.mp h with q |q
     ·exact absurd (B1 q).1 hx
     ·exact .inr q
  ·rename_i hk
   refine wm ?_
   rcases h with h |h
   ·exact .inl h
   ·rcases AL.mp h with q |q
    ·exact absurd (by rw [← (B1 q).2];rfl) hk
    ·exact .inr q
theorem WF {x:Str} {c:Addr}:∀ {names:List (Str×NameKind)} {h:Heap} {acc:List (Str×Addr)},(cellsFrom h.objs.size names acc).lookup x=some c->(∃ o,acc.lookup x=some c∧o=())∨(pushCells h names).IsCell c none
 |[],_,_,e => .inl ⟨(),e,rfl⟩
 |(nm,k)::r,h,acc,e=>by
  unfold cellsFrom at e
  unfold pushCells
  split at e
  ·rename_i hk
   rw [AG hk]
   have e':(cellsFrom (h.push { cls := .type "cell",data := .cell none }).objs.size r ((nm,h.objs.size)::acc)).lookup x=some c:=by rw [BO];exact e
   rcases WF e' with ⟨_,q,_⟩ |q
   ·rcases QS q with ⟨_,e2⟩ |⟨_,e2⟩
    ·subst e2
     exact .inr ⟨_,CV _ _ _ _ (AW _ rfl),rfl⟩
    ·exact .inl ⟨(),e2,rfl⟩
   ·exact .inr q
  ·rename_i hk
   rw [AH hk]
   exact WF e
def clF (env:Env):List (Str×NameKind)->List (Str×Addr)->List (Str×Addr)
 |[],acc=>acc
 |(n,k)::r,acc=>if k == .free then clF env r ((n,(env.cells.lookup n).getD 0)::acc) else clF env r acc
theorem qCb {env:Env} (f:Str×NameKind->List (Str×Addr)->Sem (ForInStep (List (Str×Addr))))
  (hf:∀ n k acc,f (n,k) acc=if k == .free then (do let a ← cellOf env n;pure (.yield ((n,a)::acc))) else pure (.yield acc)) :
  ∀ (names:List (Str×NameKind)) (acc:List (Str×Addr)),(∀ x∈names,x.2 = .free -> ∃ c,env.cells.lookup x.1=some c)->forIn names acc f=(pure (clF env names acc):Sem _)
 |[],acc,_=>by rw [List.forIn_nil];rfl
 |(n,k)::r,acc,h=>by
  rw [List.forIn_cons,hf]
  unfold clF
  have ih:=fun a=>qCb f hf r a fun x hx=>h x (AB _ hx)
  split
  ·rename_i hk
   have hk':k = .free:=by simpa using hk
   obtain ⟨c,e⟩:=h (n,k) AE hk'
   have ec:cellOf env n=pure c:=by unfold cellOf;rw [show env.cells.lookup n=some c from e]
   rw [ec]
   simp only [pure_bind]
   rw [ih,show env.cells.lookup n=some c from e];rfl
  ·simp only [pure_bind]
   exact ih acc
theorem yn {scope:Scope} {env:Env} (h:∀ x∈scope.names,x.2 = .free -> ∃ c,env.cells.lookup x.1=some c):closureFor scope env=pure (clF env scope.names []):=by
 unfold closureFor
 dsimp only
 rw [qCb _ (fun n k acc=>by cases hk:k==NameKind.free <;> simp [hk]) _ _ h]
 rfl
theorem yX {env:Env} {x:Str} {c:Addr}:∀ {names:List (Str×NameKind)} {acc:List (Str×Addr)},(∀ y∈names,y.2 = .free -> ∃ c,env.cells.lookup y.1=some c)->(clF env names acc).lookup x=some c->env.cells.lookup x=some c∨acc.lookup x=some c
 |[],_,_,e => .inr e
 |(n,k)::r,acc,h,e=>by
  unfold clF at e
  have h':=fun y hy=>h y (AB _ hy)
  split at e
  ·rename_i hk
   have hk':k = .free:=by simpa using hk
   obtain ⟨a,ea⟩:=h (n,k) AE hk'
   rcases yX h' e with q |q
   ·exact .inl q
   ·rcases QS q with ⟨e1,e2⟩ |⟨_,e2⟩
    ·rw [show env.cells.lookup n=some a from ea] at e2
     exact .inl (by rw [e1,show env.cells.lookup n=some a from ea];exact B3 some e2)
    ·exact .inr e2
  ·exact yX h' e
theorem yB {env:Env} {x:Str}:∀ {names:List (Str×NameKind)} {acc:List (Str×Addr)},((x,NameKind.free)∈names ∨ ∃ a,acc.lookup x=some a) -> ∃ c,(clF env names acc).lookup x=some c
 |[],_,h=>h.elim (fun h=>absurd h (by simp)) fun h=>h
 |(n,k)::r,acc,h=>by
  unfold clF
  split
  ·refine yB ?_
   by_cases hx:x=n
   ·exact .inr ⟨_,by rw [Ax,hx,Aq]⟩
   ·rcases h with h |⟨a,h⟩
    ·rcases AL.mp h with q |q
     ·exact absurd (B1 q).1 hx
     ·exact .inl q
    ·exact .inr ⟨a,by rw [Ax,Bu hx];exact h⟩
  ·rename_i hk
   refine yB ?_
   rcases h with h |h
   ·rcases AL.mp h with q |q
    ·exact absurd (by rw [← (B1 q).2];rfl) hk
    ·exact .inl q
   ·exact .inr h
def qJE (X:Cx) (scope:Scope) (C:Addr):Env :=
 { scope:=relabel scope X.env,locals:=C,globals:=X.env.globals,cells:=cellsFrom (C + 1) scope.names (clF X.env scope.names []),qual:=X.env.qual,func:=none,code:=X.env.code,frame:=X.env.frame,builtins:=X.env.builtins }
def cCx (X:Cx) (scope:Scope) (N:List Str) (s:Shared) (H:Hp) (fp:List Addr) (pn:List (Addr×Obj)):Cx where
 prog:=X.prog
 w:=X.w
 K:=X.K
 mg:=X.mg
 base:=X.base
 A:=X.A
 N:=N
 s₀:=s
 H₀:=H
 env:=qJE X scope s.heap.objs.size
 outer:=X.stack
 stack:=X.stack
 ex:=fp
 fn:=fun x=>scope.names.lookup x==some .cell
 calm:=X.calm
 pn:=pn
 xe:=fun _ _=>False
structure CSc (X:Cx) (scope:Scope) (capN locN:List Str) (caps:List Nat):Prop where
 kind:scope.kind = .function
 nd:(scope.names.map (·.1)).Nodup
 fr:∀ x∈scope.names,x.2 = .free->(X.env.kindOf x.1=some .cell∨X.env.kindOf x.1=some .free)
 len:capN.length=caps.length
 cap:∀ (i:Nat) (x:Str) (j:Nat),capN[i]? = some x->caps[i]? = some j->X.N[j]? = some x∧(x,NameKind.free)∈scope.names
theorem WG {x:Str} {k:NameKind}:∀ {names:List (Str×NameKind)},(names.map (·.1)).Nodup->(x,k)∈names->names.lookup x=some k
 |(n,k')::r,nd,h=>by
  rw [AU,Bg] at nd
  rw [Ax]
  rcases AL.mp h with q |q
  ·obtain ⟨rfl,rfl⟩:=B1 q
   rw [Aq]
  ·have hne:x≠n:=fun z=>nd.1 (by rw [← z];exact Ae.mpr ⟨(x,k),q,rfl⟩)
   rw [Bu hne]
   exact WG nd.2 q
theorem wO {env:Env} {x:Str}:∀ {names:List (Str×NameKind)},
  (names.map fun (n,k)=>if (k==NameKind.free&&env.scope.kind == .function&&env.kindOf n==some .cell) then (n,NameKind.cell) else (n,k)).lookup x=(names.lookup x).map fun k=>if (k==NameKind.free&&env.scope.kind == .function&&env.kindOf x==some .cell) then NameKind.cell else k
 |[]=>rfl
 |(n,k)::r=>by
  rw [AU,Ax]
  show List.lookup x ((if (k==NameKind.free&&env.scope.kind == .function&&env.kindOf n==some .cell)=true then (n,NameKind.cell) else (n,k))::_)=_
  cases hx:x==n with
  |true =>
   have hx':x=n:=CF.mp hx
   subst hx'
   by_cases hc:(k==NameKind.free&&env.scope.kind == .function&&env.kindOf x==some .cell)=true
   ·rw [AG hc]
    simp only [Ax,Aq,BR]
    rw [AG hc]
   ·rw [AH hc]
    simp only [Ax,Aq,BR]
    rw [AH hc]
  |false =>
   by_cases hc:(k==NameKind.free&&env.scope.kind == .function&&env.kindOf n==some .cell)=true
   ·rw [AG hc]
    simp only [Ax,hx]
    exact wO
   ·rw [AH hc]
    simp only [Ax,hx]
    exact wO
theorem yW {X:Cx} {scope:Scope} {capN locN:List Str} {caps:List Nat} (cs:CSc X scope capN locN caps) {pins:List (Addr×Obj)} {σ:L2.St} {H:Hp} {s s4:Shared} {fp:List Addr} (I:L2.Inv X pins σ H s) (hf:∀ b∈fp,z8 X pins H b) (hlt:∀ b∈fp,b < s.heap.objs.size)
  (h4:s4={ s with heap:=pushCells (s.heap.push { cls := .type "dict",data := .dict #[] }) scope.names }) :
  L2.Inv (cCx X scope (capN++locN) s H fp (X.pn++pins)) [] ((caps.map fun j=>(σ[j]?).join)++List.replicate locN.length none) H s4:=by
 have hfree:∀ x∈scope.names,x.2 = .free -> ∃ c,X.env.cells.lookup x.1=some c:=fun x hx hk=>I.ok.has x.1 (cs.fr x hx hk)
 have keep:∀ b o,s.heap.get? b=some o->s4.heap.get? b=some o:=fun b o e=>by subst h4;exact CV _ _ _ _ (AF _ e)
 have clook:∀ x c,(clF X.env scope.names []).lookup x=some c->X.env.cells.lookup x=some c:=fun x c e=>(yX hfree e).elim (fun q=>q) fun q=>by cases q
 have clt:∀ x c,(clF X.env scope.names []).lookup x=some c->c < s.heap.objs.size:=fun x c e=>by
  obtain ⟨v,q⟩:=I.cell x c (clook x c e)
  exact q.lt
 have cases':∀ x c,(cellsFrom (s.heap.objs.size + 1) scope.names (clF X.env scope.names [])).lookup x=some c->(s.heap.objs.size + 1≤c)∨(c < s.heap.objs.size∧X.env.cells.lookup x=some c):=fun x c e=>by
  rcases Qv e with ⟨q,_⟩ |q
  ·exact .inl q
  ·exact .inr ⟨clt x c q,clook x c q⟩
 have isfree:∀ x,(X.env.kindOf x=some .cell∨X.env.kindOf x=some .free)->True:=fun _ _=>trivial
 refine ⟨⟨I.ok.mod,cs.kind,I.ok.glob,I.ok.blt,AM _,fun x y c h1 h2 => ?_,fun x hx => ?_,fun x c hx e => ?_,I.ok.hd,I.ok.frames,.inl rfl,fun b hb=>⟨AX (hlt b hb),fun x c e => ?_⟩,fun b o e=>I.bs b o e,Am I.ok.bsz I.sz,fun b o e hb => ?_,fun b hb hm => ?_,I.stack,I.stkFree⟩,
  by subst h4;rfl,by subst h4;exact I.bare,Un.kept keep,?_,fun x c e => ?_,I.hok.fresh (AM _),fun x c e => ?_,fun p hp => ?_,I.hok.kept keep,?_,I.hnd⟩
 ·rcases Wg (fun z a e=>A2 (clt z a e)) h1 h2 with e |⟨e1,e2⟩
  ·exact e
  ·exact I.ok.inj x y c (clook x c e1) (clook y c e2)
 ·refine wm ?_
  have hx':(relabel scope X.env).names.lookup x=some .cell∨(relabel scope X.env).names.lookup x=some .free:=hx
  have e:(relabel scope X.env).names.lookup x=(scope.names.lookup x).map fun k=>if (k==NameKind.free&&X.env.scope.kind == .function&&X.env.kindOf x==some .cell) then NameKind.cell else k:=wO
  rw [e] at hx'
  cases q:scope.names.lookup x with
  |none=>rw [q] at hx';rcases hx' with z |z <;> cases z
  |some k =>
   rw [q] at hx'
   have hm:=BT q
   by_cases hk:k = .free
   ·subst hk
    exact .inl (yB (.inl hm))
   ·have hkf:(k==NameKind.free)=false:=by simpa using hk
    simp only [BR,hkf,Bool.false_and,A7,Bx] at hx'
    rcases hx' with z |z
    ·cases z;exact .inr hm
    ·cases z;exact absurd rfl hk
 ·have hx':scope.names.lookup x=some .cell:=by simpa [cCx] using hx
  exact Nat.le_of_succ_le (Wf (n0:=s.heap.objs.size + 1) (AM _) (.inr (BT hx')) e)
 ·rcases cases' x c e with q |⟨q,q'⟩
  ·exact fun z=>by rw [z] at q;exact absurd (hlt b hb) (Nat.not_lt.mpr (Nat.le_of_succ_le q))
  ·exact (hf b hb).2.2.2.2.1 x c q'
 ·obtain ⟨_,_,_,h3,_⟩:=hf b hb
  rcases h3 with q |q
  ·exact I.ok.noex b o e q
  ·exact absurd (AK e) (Nat.not_lt.mpr (Am I.ok.bsz q))
 ·obtain ⟨_,h1,h2,_⟩:=hf b hb
  exact (AL.mp (I.stkSub b hm)).elim h1 h2
 ·refine ⟨fun _=>none,?_,fun i x v e1 e2 e3 => ?_⟩
  ·subst h4
   exact (Heap.Ns.new s.heap (.type "dict")).keeps (CV _ _)
  ·have hi:i < caps.length:=by
    by_cases hi:i < caps.length
    ·exact hi
    ·rw [Ac (by simpa using hi),BK] at e2
     split at e2 <;> cases e2
   rw [Ab (by simpa using hi),Ag] at e2
   have e1':(capN++locN)[i]? = some x:=e1
   rw [Ab (by rw [cs.len];exact hi)] at e1'
   cases ej:caps[i]? with
   |none=>rw [ej] at e2;cases e2
   |some j =>
    rw [ej] at e2
    obtain ⟨k1,k2⟩:=cs.cap i x j e1' ej
    have e2':σ[j]? = some (some v):=by
     have e2'':(σ[j]?).join=some v:=An e2
     cases q:σ[j]? with
     |none=>rw [q] at e2'';cases e2''
     |some o=>rw [q] at e2'';exact B3 some e2''
    have hk:=cs.fr _ k2 rfl
    obtain ⟨m,hn,hl⟩:=I.loc
    obtain ⟨u,ru,lu⟩:=hl j x v k1 e2' (hk.elim (fun z => .inr (.inl z)) fun z => .inr (.inr z))
    refine ⟨u,ru,.inr ?_⟩
    have hc:∃ c,X.env.cells.lookup x=some c∧s.heap.IsCell c (some u):=by
     rcases lu with ⟨z,_⟩ |⟨_,z⟩
     ·rcases hk with y |y <;> · rw [z] at y;cases y
     ·exact z
    obtain ⟨c,c1,c2⟩:=hc
    obtain ⟨c',e'⟩:=yB (env:=X.env) (acc:=[]) (.inl k2)
    have e2:=clook x c' e'
    rw [c1] at e2;cases e2
    have hlk:scope.names.lookup x=some .free:=WG cs.nd k2
    refine ⟨?_,c,?_,c2.keeps keep⟩
    ·show (relabel scope X.env).names.lookup x=some .cell∨(relabel scope X.env).names.lookup x=some .free
     have e:(relabel scope X.env).names.lookup x=(scope.names.lookup x).map fun k=>if (k==NameKind.free&&X.env.scope.kind == .function&&X.env.kindOf x==some .cell) then NameKind.cell else k:=wO
     rw [e,hlk]
     simp only [BR]
     split
     ·exact .inl rfl
     ·exact .inr rfl
    ·obtain ⟨d,hd⟩:=wm (names:=scope.names) (n:=s.heap.objs.size + 1) (acc:=clF X.env scope.names []) (x:=x) (.inl ⟨c,e'⟩)
     rcases Qv hd with ⟨q,q'⟩ |q
     ·have:=WG cs.nd q'
      rw [hlk] at this;cases this
     ·rw [e'] at q;cases q;exact hd
 ·rcases Qv e with ⟨q,_⟩ |q
  ·have e':(cellsFrom (s.heap.push { cls := .type "dict",data := .dict #[] }).objs.size scope.names (clF X.env scope.names [])).lookup x=some c:=by rw [BO];exact e
   rcases WF e' with ⟨_,z,_⟩ |z
   ·obtain ⟨v,y⟩:=I.cell x c (clook x c z)
    exact ⟨v,y.keeps keep⟩
   ·subst h4;exact ⟨none,z⟩
  ·obtain ⟨v,y⟩:=I.cell x c (clook x c q)
   exact ⟨v,y.keeps keep⟩
 ·rcases cases' x c e with q |⟨q,q'⟩
  ·exact I.hok.fresh (Nat.le_of_succ_le q)
  ·exact I.freeC x c q'
 ·have hp':p∈X.pn++pins:=by simpa [cCx] using hp
  obtain ⟨k1,k2,k3,k4,k5⟩:=I.pin p hp'
  exact ⟨keep _ _ k1,k2,AX (AK k1),fun z=>(AL.mp (I.stkSub p.1 z)).elim k3 k4,k5⟩
 ·show ((caps.map fun j=>(σ[j]?).join)++List.replicate locN.length none).length=(capN++locN).length
  rw [AY,AC,List.length_replicate,AY,cs.len]
theorem JK {X:Cx} {scope:Scope} {N:List Str} {pins:List (Addr×Obj)} {σ σ':L2.St} {H H':Hp} {s s':Shared} {h'':Heap} {fp:List Addr} (I:L2.Inv X pins σ H s) (hf:∀ b∈fp,z8 X pins H b)
  (J:L2.Inv (cCx X scope N s H fp (X.pn++pins)) [] σ' H' s') (sb:Heap.SameBut s.heap.objs.size s'.heap h''):L2.Inv X pins σ H' { s' with heap:=h'' }:=by
 have hos:s'.os=s.os:=J.os
 have hC:∀ b o,s.heap.get? b=some o->b≠s.heap.objs.size:=fun b o e=>AX (AK e)
 have u:Un (frs X.stack) fp H H' s.heap h'':=by
  have u0:=J.base
  exact ⟨fun b o e n h1 h2=>sb.extBut b o (hC b o e) (u0.keep b o e n h1 h2),fun b o e n h1 h2=>(u0.slot b o e n h1 h2).elim fun sl q=>⟨sl,sb.extBut b _ (hC b o e) q⟩,u0.free,fun b o e h2=>(u0.there b o e h2).elim fun o' q=>⟨o',sb.extBut b o' (hC b o e) q⟩,u0.tups,u0.frzs,u0.tbls⟩
 have hok:HOk X.prog X.w H' h'':=fun a o e=>by
  refine (J.hok a o e).stay (fun b v hb q=>sb.extBut b v ?_ q) (fun _ q=>q) fun _ _ q=>q
  have hn:H' s.heap.objs.size=none:=J.free
  rcases hb with z |z
  ·rw [z];exact qM e hn
  ·exact qM z hn
 obtain ⟨hh,g,d,t,os'⟩:=s'
 obtain rfl:os'=s.os:=hos
 have fin:=L2.Inv.call (s:=s) (h':=h'') (g':=g) (d':=d) (t':=t) (ch:=fp) I u hok J.bare fun b hb=>by
  obtain ⟨k0,k1,k2,k3,k4,k5⟩:=hf b hb
  exact ⟨k3,k1,k4,k5⟩
 exact fin
theorem YJ {elt:Expr} {gens:List Comprehension} {scope:Scope} {pos:Pos} {d:Nat} {it acc:Value} {env:Env} {g:Comprehension} (hg:gens[d]? = some g) (ha:g.is_async=0) (hn:gens[d + 1]? = none) :
  compTurn (.ListComp elt gens scope pos) d it acc env=(standAt g.iter.pos >>= fun _=>pyNext it >>= fun r=>match r with
   |none=>pure (.done .next)
   |some v=>letOwnedTupleGo g.target it v >>= fun _=>assign g.target env v >>= fun _ =>
    (forIn g.ifs true fun c r=>if r=true then do let ok ← isTrue c env (eval c env);pure (ForInStep.yield ok) else pure (ForInStep.yield r)) >>= fun ok =>
    if ok=true then (eval elt env >>= fun x=>call (.builtin "list.append") [acc,x] >>= fun _=>pure ()) >>= fun _=>again (.compLoop (.ListComp elt gens scope pos) d it acc env)
    else again (.compLoop (.ListComp elt gens scope pos) d it acc env)):=by
 unfold compTurn
 dsimp only
 rw [hg]
 dsimp only
 rw [hn,ha]
 rfl
theorem YO {elt:Expr} {gens:List Comprehension} {scope:Scope} {pos:Pos} {d:Nat} {it acc:Value} {env:Env} {g g':Comprehension} (hg:gens[d]? = some g) (ha:g.is_async=0) (hn:gens[d + 1]? = some g') (ha':g'.is_async=0) :
  compTurn (.ListComp elt gens scope pos) d it acc env=(standAt g.iter.pos >>= fun _=>pyNext it >>= fun r=>match r with
   |none=>pure (.done .next)
   |some v=>letOwnedTupleGo g.target it v >>= fun _=>assign g.target env v >>= fun _ =>
    (forIn g.ifs true fun c r=>if r=true then do let ok ← isTrue c env (eval c env);pure (ForInStep.yield ok) else pure (ForInStep.yield r)) >>= fun ok =>
    if ok=true then (eval g'.iter env >>= fun x=>standAt g'.iter.pos >>= fun _=>foldedSetIterable g'.iter env x >>= fun x=>holding [x] (pyIter x) >>= fun it'=>runOwn (.compStart (.ListComp elt gens scope pos) (d + 1) it' acc env) env >>= fun _=>again (.compLoop (.ListComp elt gens scope pos) d it acc env))
    else again (.compLoop (.ListComp elt gens scope pos) d it acc env)):=by
 unfold compTurn
 dsimp only
 rw [hg]
 dsimp only
 rw [hn,ha]
 dsimp only
 rw [ha']
 rfl
theorem W3 {prog:Program} {w:World} {A:Around} {R:Result->Shared->Prop} {s:Shared} {elt:Expr} {gens:List Comprehension} {scope:Scope} {pos:Pos} {d:Nat} {it acc:Value} {env:Env} {g:Comprehension} (hg:gens[d]? = some g) (ha:g.is_async=0)
  (h0:codeAny (model prog w) A (.compLoop (.ListComp elt gens scope pos) d it acc env) R s)
  (h:wpAny (model prog w) A (pyIter it) (fun it' s'=>codeAny (model prog w) A (.compLoop (.ListComp elt gens scope pos) d it' acc env) R s') (notedBy (model prog w) A env fun x s'=>R (.error x) s') s) :
  codeAny (model prog w) A (.compStart (.ListComp elt gens scope pos) d it acc env) R s:=by
 refine codeAny_of_tree ?_
 show wpAny _ _ ((compStart (.ListComp elt gens scope pos) d it acc env).onRaise (fun x=>do noteFrame x env;standAt theWindowsPlace)) _ _ s
 refine wpAny_notedAt ?_
 unfold compStart
 have e1:(clausesOf (.ListComp elt gens scope pos))[d]? = some g:=hg
 rw [e1]
 simp only [Option.elim_some,ha]
 refine AA (B6 (wpAny_ite ?_))
 split
 ·exact AA (AD (AD (And.intro rfl h0)))
 ·exact AA (Cc (AA (CS (AA (Be h (fun it' s' h'=>AD (And.intro rfl h')) fun _ _ x=>x)))))
structure GenF where
 fi:FI
 g:FG
 ts:List FT
def wA:List FT->FT
 |[],_,st => .ok true st
 |t::ts,r,st=>(t r st).bind fun k s=>if k=true then wA ts r s else .ok false s
open Classical in
noncomputable def qm (G:qC->Prop) (k:PV->qC->Rs (List PV)):List PV->qC->Rs (List PV)
 |[],st=>if G st then .ok [] st else .no
 |p::ps,st=>if G st then (k p st).bind fun l s=>(qm G k ps s).bind fun m s' => .ok (l++m) s' else .no
def QG (g:GenF) (rest:FL) (r:QC) (p:PV) (s:qC):Rs (List PV):=match g.g p r with
 |none => .no
 |some r'=>(wA g.ts r' s).bind fun k s1=>if k=true then rest r' s1 else .ok [] s1
noncomputable def QR:List GenF->FE->FL
 |[],f=>fun r st=>(f r st).bind fun p s => .ok [p] s
 |g::gs,f=>fun r st=>(g.fi r st).bind fun w s=>qm w.G (QG g (QR gs f) r) w.l s
def Le (r r':QC):Prop:=r.length=r'.length ∧ ∀ (i:Nat) (p:PV),r[i]? = some (some p)->r'[i]? = some (some p)
theorem REnv.le {K:W.Frag} {H:Hp} {b:Bz} {r r':QC} {s:L2.St} (h:REnv K H b r' s) (l:Le r r'):REnv K H b r s:=⟨l.1.trans h.1,fun i p e=>h.2 i p (l.2 i p e)⟩
def qBB (g:FG):Prop := ∀ p r r',g p r=some r'->Le r r'
inductive TsOk (X:Cx):List Expr->List FT->Prop where
 |nil:TsOk X [] []
 |cons {e:Expr} {t:FT} {es:List Expr} {ts:List FT} (h:VT X E0 e t) (r:TsOk X es ts):TsOk X (e::es) (t::ts)
theorem jm {X:Cx} (hx:∀ e s,X.xe e s->False):∀ {es:List Expr} {ts:List FT},TsOk X es ts -> ∀ {pins:List (Addr×Obj)} {s:Shared} {σ:L2.St} {H:Hp} {b:Bz} {r:QC} {st st':qC} {k:Bool} {Q:Bool->Shared->Prop} {E:Value->Shared->Prop},L2.Inv X pins σ H s->SR X.K H b st->REnv X.K H b r σ->wA ts r st = .ok k st' ->
  (∀ s' H' b',L2.Inv X pins σ H' s'->Ext H b H' b'->SR X.K H' b' st'->Q k s') ->
  wpAny (model X.prog X.w) X.A (forIn es true fun c r=>if r=true then do let ok ← isTrue c X.env (eval c X.env);pure (ForInStep.yield ok) else pure (ForInStep.yield r)) Q E s
 |_,_,.nil,pins,s,σ,H,b,r,st,st',k,Q,E,I,S,R,e,q=>by
  cases e
  exact wpAny_tests_nil (q s H b I (Ext.refl _ _) S)
 |_,_,@TsOk.cons _ c t es ts h hr,pins,s,σ,H,b,r,st,st',k,Q,E,I,S,R,e,q=>by
  rw [List.forIn_cons]
  simp only [if_true]
  unfold wA at e
  cases et:t r st with
  |no=>rw [et] at e;cases e
  |ex x s1=>rw [et] at e;cases e
  |ok k1 s1 =>
   rw [et] at e
   have e:(if k1=true then wA ts r s1 else .ok false s1) = .ok k st':=e
   refine AA (AA (Be (h pins s σ H (fun k' H'=>k'=k1 ∧ ∃ b',Ext H b H' b'∧SR X.K H' b' s1) I ⟨b,r,st,S,R,by rw [et];exact fun H' b' e' S'=>⟨rfl,b',e',S'⟩⟩) (fun k' s2 hq => ?_) fun e' s' z=>(hx e' s' z).elim))
   obtain ⟨H2,I2,rfl,b2,e2,S2⟩:=hq
   refine AD ?_
   dsimp only
   cases k' with
   |true =>
    rw [AG rfl] at e
    exact jm hx hr I2 S2 (R.ext e2) e fun s' H' b' I' e' S'=>q s' H' b' I' (e2.trans e') S'
   |false =>
    rw [AH Ba] at e
    cases e
    have skip:∀ (es:List Expr),wpAny (model X.prog X.w) X.A (forIn es false fun c r=>if r=true then do let ok ← isTrue c X.env (eval c X.env);pure (ForInStep.yield ok) else pure (ForInStep.yield r)) Q E s2:=by
     intro es
     induction es with
     |nil=>rw [List.forIn_nil];exact AD (q s2 H2 b2 I2 e2 S2)
     |cons c es ih =>
      rw [List.forIn_cons]
      simp only [A7,Bx]
      exact AA (AD ih)
    exact skip es
structure GOk (X:Cx) (c:Comprehension) (g:GenF):Prop where
 tg:VG X c.target g.g
 fr:qBB g.g
 ts:TsOk X c.ifs g.ts
 asy:c.is_async=0
structure GOk' (X:Cx) (c:Comprehension) (g:GenF):Prop extends GOk X c g where
 it:VI X E0 c.target c.iter g.fi
 fold:∀ x,foldedSetIterable c.iter X.env x=pure x
inductive GsOk (X:Cx):List Comprehension->List GenF->Prop where
 |nil:GsOk X [] []
 |cons {c:Comprehension} {g:GenF} {cs:List Comprehension} {gs:List GenF} (h:GOk' X c g) (r:GsOk X cs gs):GsOk X (c::cs) (g::gs)
theorem qCI {X:Cx} (hx:∀ e s,X.xe e s->False) {pins:List (Addr×Obj)} {s:Shared} {σ:L2.St} {H:Hp} {D:Addr} {xs:List V} {y:V} {u:Value} {Q:Value->Shared->Prop} {E:Value->Shared->Prop} (I:L2.Inv X pins σ H s) (hD:H D=some (.lst xs)) (hl:xs.length < sizeLine) (ry:RelV y u)
  (q:∀ v s',L2.Inv X pins σ (upd H D (.lst (xs++[y]))) s'->Q v s'):wpAny (model X.prog X.w) X.A (call (.builtin "list.append") [.ref D,u]) Q E s :=
 Be (qBY pins s σ H (.ref D) [y] (.ref D) [u] (fun v H'=>H'=upd H D (.lst (xs++[y]))) I rfl (.cons ry .nil) ⟨D,xs,y,rfl,rfl,hD,hl,rfl⟩) (fun v s' ⟨x,H',I',r',e⟩=>by subst e;exact q v s' I') fun e' s' z=>(hx e' s' z).elim
structure DE (D:Addr) (H:Hp) (b:Bz) (H':Hp) (b':Bz):Prop extends WE H b H' b' where
 same:b'.z=b.z
 hid:∀ a o,a∈b.z->a≠D->H a=some o->H' a=some o
 fz:∀ a o u,a≠D->H a=some (.frz o u)->H' a=some (.frz o u)
theorem DE.of {D:Addr} {H H':Hp} {b b':Bz} (e:Ext H b H' b'):DE D H b H' b':=⟨e.toWE,e.same,fun a o ha _ h=>e.hid a o ha h,fun a o u _ h=>e.fz a o u h⟩
theorem DE.trans {D:Addr} {H H1 H2:Hp} {b b1 b2:Bz} (e:DE D H b H1 b1) (f:DE D H1 b1 H2 b2):DE D H b H2 b2:=⟨e.toWE.trans f.toWE,f.same.trans e.same,fun a o ha hn h=>f.hid a o (by rw [e.same];exact ha) hn (e.hid a o ha hn h),fun a o u n h=>f.fz a o u n (e.fz a o u n h)⟩
theorem DE.wr {D:Addr} {H:Hp} {b:Bz} {o:HO} (h:D∈b.z):DE D H b (upd H D o) b:=⟨WE.wr (.inr h),rfl,fun a u ha hn e=>by rw [qV hn];exact e,fun a u v hn e=>by rw [qV hn];exact e⟩
def qJB (X:Cx) (D:Addr) (c:Code) (inner:Sem Fin) (rest:FL):Prop :=
 ∀ (pins:List (Addr×Obj)) (s:Shared) (σ:L2.St) (H:Hp) (b:Bz) (r:QC) (st st':qC) (l:List PV) (accV:List V) (QF:Fin->Shared->Prop) (E:Value->Shared->Prop),L2.Inv X pins σ H s->SR X.K H b st->REnv X.K H b r σ->D∈b.z->H D=some (.lst accV) ->
  rest r st = .ok l st'->accV.length + l.length≤sizeLine ->
  (∀ s' σ' H' b' lV,L2.Inv X pins σ' H' s'->DE D H b H' b'->SR X.K H' b' st'->REnv X.K H' b' r σ'->H' D=some (.lst (accV++lV))->RVs X.K H' b' l lV->QF (.again c) s')->wpAny (model X.prog X.w) X.A inner QF E s
theorem j9 {X:Cx} (hx:∀ e s,X.xe e s->False) {elt:Expr} {gens:List Comprehension} {scope:Scope} {pos:Pos} {d:Nat} {it D:Addr} {c:Comprehension} {g:GenF} (hg:GOk X c g) {inner:Sem Fin} {rest:FL} (hin:qJB X D (.compLoop (.ListComp elt gens scope pos) d (.ref it) (.ref D) X.env) inner rest)
  (hturn:compTurn (.ListComp elt gens scope pos) d (.ref it) (.ref D) X.env=(standAt c.iter.pos >>= fun _=>pyNext (.ref it) >>= fun r=>match r with
   |none=>pure (.done .next)
   |some v=>letOwnedTupleGo c.target (.ref it) v >>= fun _=>assign c.target X.env v >>= fun _ =>
    (forIn c.ifs true fun c r=>if r=true then do let ok ← isTrue c X.env (eval c X.env);pure (ForInStep.yield ok) else pure (ForInStep.yield r)) >>= fun ok =>
    if ok=true then inner else again (.compLoop (.ListComp elt gens scope pos) d (.ref it) (.ref D) X.env)))
  {pins:List (Addr×Obj)} {s:Shared} {σ:L2.St} {H:Hp} {b:Bz} {r:QC} {st st':qC} {fp:List Addr} {tn:Nat->Heap->Prop} {J:It} {w:ItP} {accV:List V} {l:List PV} {R:Result->Shared->Prop}
  (I:L2.Inv X pins σ H s) (S:SR X.K H b st) (RE:REnv X.K H b r σ) (hDz:D∈b.z) (hD:H D=some (.lst accV)) (T:Turn X.prog X.w X.K X.A c.target J fp it tn) (t0:tn 0 s.heap) (hf:∀ a∈fp,z8 X pins H a)
  (hit:Zu X.K H b J w)
  (hv:qm w.G (QG g rest r) w.l st = .ok l st') (hsz:accV.length + l.length≤sizeLine)
  (hR:∀ s' σ' H' b' lV,L2.Inv X pins σ' H' s'->DE D H b H' b'->SR X.K H' b' st'->REnv X.K H' b' r σ'->H' D=some (.lst (accV++lV))->RVs X.K H' b' l lV->R (.ok .next) s') :
  codeAny (model X.prog X.w) X.A (.compLoop (.ListComp elt gens scope pos) d (.ref it) (.ref D) X.env) R s:=by
 have stat:∀ {H':Hp},(∀ a∈fp,H' a=none) -> ∀ a∈fp,z8 X pins H' a:=fun hn a ha=>⟨hn a ha,(hf a ha).2⟩
 refine codeAny_loop rfl (fun n s1 => ∃ i σ1 H1 b1 st1 done doneV m,n=w.l.length + 1 - i∧i≤w.l.length∧L2.Inv X pins σ1 H1 s1∧DE D H b H1 b1∧SR X.K H1 b1 st1∧REnv X.K H1 b1 r σ1∧H1 D=some (.lst (accV++doneV))∧RVs X.K H1 b1 done doneV∧tn i s1.heap∧(∀ a∈fp,H1 a=none) ∧
  qm w.G (QG g rest r) (w.l.drop i) st1 = .ok m st'∧done++m=l) ?_ (w.l.length + 1)
  ⟨0,σ,H,b,st,[],[],l,by omega,A6 _,I,DE.of (Ext.refl _ _),S,RE,by simpa using hD,RVs.nil,t0,fun a ha=>(hf a ha).1,by simpa using hv,rfl⟩
 rintro n s1 ⟨i,σ1,H1,b1,st1,done,doneV,m,hn,hi,I1,e1,S1,R1,hD1,rd1,t1,fr1,hv1,hm⟩
 show wpAny _ X.A ((compTurn (.ListComp elt gens scope pos) d (.ref it) (.ref D) X.env).onRaise (fun x=>do noteFrame x X.env;theTreesLotGoes x)) _ _ s1
 refine wpAny_noted ?_
 rw [hturn]
 refine AA (CS (AA ?_))
 have hz1:D∈b1.z:=by rw [e1.same];exact hDz
 by_cases hlt:i < w.l.length
 ·have hd:w.l.drop i=w.l[i]::w.l.drop (i + 1):=List.drop_eq_getElem_cons hlt
  rw [hd] at hv1
  unfold qm at hv1
  by_cases hG:w.G st1
  ·rw [AG hG] at hv1
   obtain ⟨h1,h2⟩:=hit H1 b1 st1 e1.toWE S1 hG
   obtain ⟨go,yl⟩:=h1 i w.l[i] (AI hlt)
   cases ek:QG g rest r w.l[i] st1 with
   |no=>rw [ek] at hv1;cases hv1
   |ex x s5=>rw [ek] at hv1;cases hv1
   |ok l1 s5 =>
    rw [ek] at hv1
    have hv1:(qm w.G (QG g rest r) (w.l.drop (i + 1)) s5).bind (fun m s' => .ok (l1++m) s') = .ok m st':=hv1
    cases ek2:qm w.G (QG g rest r) (w.l.drop (i + 1)) s5 with
    |no=>rw [ek2] at hv1;cases hv1
    |ex x s6=>rw [ek2] at hv1;cases hv1
    |ok m2 s6 =>
     rw [ek2] at hv1
     have hv1:Rs.ok (l1++m2) s6 = .ok m st':=hv1
     injection hv1 with hv1a hv1b
     subst hv1a;subst hv1b
     refine thn (T.item X rfl rfl rfl rfl i pins s1 σ1 H1 _ I1 (stat fr1) t1 go) fun rr s2 ⟨u,hr,h4⟩ => ?_
     subst hr
     refine AA (thn h4 fun _ s3 ⟨x,H3,I3,r3,y3,t3,fr3⟩ => ?_)
     obtain ⟨sm3,S3,rx3⟩:=yl x H3 y3
     have e3:Ext H1 b1 H3 b1:=Ext.of_same sm3
     have hD3:=sm3 _ _ hD1
     unfold QG at ek
     cases eg:g.g w.l[i] r with
     |none=>rw [eg] at ek;cases ek
     |some r' =>
      rw [eg] at ek
      have ek:(wA g.ts r' st1).bind (fun k s1=>if k=true then rest r' s1 else .ok [] s1) = .ok l1 s5:=ek
      cases et:wA g.ts r' st1 with
      |no=>rw [et] at ek;cases ek
      |ex x s7=>rw [et] at ek;cases ek
      |ok k s7 =>
       rw [et] at ek
       have ek:(if k=true then rest r' s7 else .ok [] s7) = .ok l1 s5:=ek
       have I3':=I3.pinned (stat fr3) (T.obj _ _ t3)
       refine AA (Be (hg.tg _ s3 σ1 H3 x u (fun σ' H'=>H'=H3∧REnv X.K H3 b1 r' σ') I3' r3 ⟨b1,r,w.l[i],st1,S3,R1.ext e3,rx3,r',eg,fun s' R'=>⟨rfl,R'⟩⟩) (fun _ s4 hq => ?_) fun e' s' z=>(hx e' s' z).elim)
       obtain ⟨σ4,H4,I4,rfl,R4⟩:=hq
       refine AA (jm hx hg.ts I4 S3 R4 et fun s5' H5 b5 I5 e5 S5 => ?_)
       have hz5:D∈b5.z:=by rw [e5.same];exact hz1
       have hD5:=e5.hid _ _ hz1 hD3
       have e15:DE D H b H5 b5:=(e1.trans (DE.of e3)).trans (DE.of e5)
       have back:∀ {s7':Shared} {σ7:L2.St} {H7:Hp} {b7:Bz} {l1V:List V},L2.Inv X (pins++zu fp s3.heap) σ7 H7 s7'->DE D H5 b5 H7 b7->SR X.K H7 b7 s5->REnv X.K H7 b7 r' σ7->H7 D=some (.lst (accV++doneV++l1V))->RVs X.K H7 b7 l1 l1V ->
         ∃ m,m < n ∧ ∃ i σ1 H1 b1 st1 done doneV mm,m=w.l.length + 1 - i∧i≤w.l.length∧L2.Inv X pins σ1 H1 s7'∧DE D H b H1 b1∧SR X.K H1 b1 st1∧REnv X.K H1 b1 r σ1∧H1 D=some (.lst (accV++doneV))∧RVs X.K H1 b1 done doneV∧tn i s7'.heap∧(∀ a∈fp,H1 a=none) ∧
         qm w.G (QG g rest r) (w.l.drop i) st1 = .ok mm s6∧done++mm=l:=fun {s7' σ7 H7 b7 l1V} I7 e7 S7 R7 hD7 rl7=>by
        refine ⟨w.l.length + 1 - (i + 1),by omega,i + 1,σ7,H7,b7,s5,done++l1,doneV++l1V,m2,rfl,hlt,I7.unpinned,e15.trans e7,S7,R7.le (hg.fr _ _ _ eg),by rw [hD7,Aj],?_,T.keep _ _ _ t3 fun a ha o e=>(I7.pin (a,o) (A4 _ (A4 _ (W4 ha e)))).1,fun a ha => ?_,ek2,by rw [Aj];exact hm⟩
        ·exact RVs.append (RVs.wext e7.toWE done (RVs.ext e5 done (RVs.ext e3 done rd1))) rl7
        ·obtain ⟨o,e,_⟩:=T.obj _ _ t3 a ha
         exact (I7.pin (a,o) (A4 _ (A4 _ (W4 ha e)))).2.1
       cases k with
       |false =>
        rw [AH Ba] at ek ⊢
        injection ek with ek1 ek2'
        subst ek1;subst ek2'
        refine AD ⟨rfl,back I5 (DE.of (Ext.refl _ _)) S5 (R4.ext e5) (by rw [A8];exact hD5) RVs.nil⟩
       |true =>
        rw [AG rfl] at ek ⊢
        refine hin _ s5' σ4 H5 b5 r' s7 s5 l1 (accV++doneV) _ _ I5 S5 (R4.ext e5) hz5 hD5 ek ?_ fun s8 σ8 H8 b8 lV I8 e8 S8 R8 hD8 r8=>⟨rfl,back I8 e8 S8 R8 hD8 r8⟩
        have h1:=rd1.length
        have h2:l.length=done.length + (l1.length + m2.length):=by rw [← hm,AY,AY]
        rw [AY];omega
  ·rw [AH hG] at hv1;cases hv1
 ·have hl:i=w.l.length:=by omega
  subst hl
  rw [List.drop_length] at hv1
  unfold qm at hv1
  by_cases hG:w.G st1
  ·rw [AG hG] at hv1
   injection hv1 with k1 k2
   subst k1;subst k2
   obtain ⟨h1,h2⟩:=hit H1 b1 st1 e1.toWE S1 hG
   refine thn (T.done X rfl rfl rfl rfl _ pins s1 σ1 H1 _ I1 (stat fr1) t1 (h2 _ (AM _))) fun r2 s2 ⟨hr,I2⟩ => ?_
   subst hr
   rw [A8] at hm
   subst hm
   exact AD (hR s2 σ1 H1 b1 doneV I2 e1 S1 R1 hD1 rd1)
  ·rw [AH hG] at hv1;cases hv1
theorem Ya {X:Cx} (hx:∀ e s,X.xe e s->False) {elt:Expr} {gens:List Comprehension} {scope:Scope} {pos:Pos} {f:FE} {D:Addr} (he:VE X E0 elt f) :
  ∀ (gs:List GenF) (cs:List Comprehension) (d:Nat) (c:Comprehension) (g:GenF),gens.drop d=c::cs->GOk X c g->GsOk X cs gs ->
  ∀ (pins:List (Addr×Obj)) (s:Shared) (σ:L2.St) (H:Hp) (b:Bz) (r:QC) (st st':qC) (it:Addr) (fp:List Addr) (tn:Nat->Heap->Prop) (J:It) (w:ItP) (accV:List V) (l:List PV) (R:Result->Shared->Prop),
  L2.Inv X pins σ H s->SR X.K H b st->REnv X.K H b r σ->D∈b.z->H D=some (.lst accV)->Turn X.prog X.w X.K X.A c.target J fp it tn->tn 0 s.heap->(∀ a∈fp,z8 X pins H a)->Zu X.K H b J w ->
  qm w.G (QG g (QR gs f) r) w.l st = .ok l st'->accV.length + l.length≤sizeLine ->
  (∀ s' σ' H' b' lV,L2.Inv X pins σ' H' s'->DE D H b H' b'->SR X.K H' b' st'->REnv X.K H' b' r σ'->H' D=some (.lst (accV++lV))->RVs X.K H' b' l lV->R (.ok .next) s') ->
  codeAny (model X.prog X.w) X.A (.compLoop (.ListComp elt gens scope pos) d (.ref it) (.ref D) X.env) R s:=by
 intro gs
 induction gs with
 |nil =>
  intro cs d c g hdr hg hgs pins s σ H b r st st' it fp tn J w accV l R I S RE hDz hD T t0 hf hit hv hsz hR
  cases hgs
  have hgd:gens[d]? = some c:=by
   have:(gens.drop d)[0]? = some c:=by rw [hdr];rfl
   simpa using this
  have hgn:gens[d + 1]? = none:=by
   have:(gens.drop d)[1]? = none:=by rw [hdr];rfl
   simpa using this
  refine j9 hx hg ?_ (YJ hgd hg.asy hgn) I S RE hDz hD T t0 hf hit hv hsz hR
  intro pins s σ H b r st st' l accV QF E I S RE hDz hD hv hsz q
  have hv:(f r st).bind (fun p s => .ok [p] s) = .ok l st':=hv
  cases ef:f r st with
  |no=>rw [ef] at hv;cases hv
  |ex x s1=>rw [ef] at hv;cases hv
  |ok p s1 =>
   rw [ef] at hv
   have hv:Rs.ok [p] s1 = .ok l st':=hv
   injection hv with h1 h2
   subst h1;subst h2
   refine AA (AA (Be (he pins s σ H (fun v H' => ∃ b',Ext H b H' b'∧SR X.K H' b' s1∧RV X.K H' b' p v) I ⟨b,r,st,S,RE,by rw [ef];exact fun v H' b' e' S' r'=>⟨b',e',S',r'⟩⟩) (fun u s2 hq => ?_) fun e' s' z=>(hx e' s' z).elim))
   obtain ⟨v,H2,I2,rv,b2,e2,S2,r2⟩:=hq
   have hz2:D∈b2.z:=by rw [e2.same];exact hDz
   refine AA (qCI hx I2 (e2.hid _ _ hDz hD) (by rw [Bt] at hsz;omega) rv fun _ s3 I3=>AD (AD ?_))
   have dw:DE D H2 b2 (upd H2 D (.lst (accV++[v]))) b2:=DE.wr hz2
   exact q s3 σ _ b2 [v] I3 ((DE.of e2).trans dw) (SR.wrz S2 hz2) ((RE.ext e2).wext dw.toWE) Qk (RVs.cons (RV.wext dw.toWE p r2) RVs.nil)
 |cons g2 gs ih =>
  intro cs d c g hdr hg hgs pins s σ H b r st st' it fp tn J w accV l R I S RE hDz hD T t0 hf hit hv hsz hR
  cases hgs with
  | @cons c2 _ cs _ h2 hr2 =>
   have hgd:gens[d]? = some c:=by
    have:(gens.drop d)[0]? = some c:=by rw [hdr];rfl
    simpa using this
   have hgn:gens[d + 1]? = some c2:=by
    have:(gens.drop d)[1]? = some c2:=by rw [hdr];rfl
    simpa using this
   have hdr2:gens.drop (d + 1)=c2::cs:=by
    have:(gens.drop d).drop 1=c2::cs:=by rw [hdr];rfl
    rwa [List.drop_drop] at this
   refine j9 hx hg ?_ (YO hgd hg.asy hgn h2.asy) I S RE hDz hD T t0 hf hit hv hsz hR
   intro pins s σ H b r st st' l accV QF E I S RE hDz hD hv hsz q
   have hv:(g2.fi r st).bind (fun w s=>qm w.G (QG g2 (QR gs f) r) w.l s) = .ok l st':=hv
   cases ef:g2.fi r st with
   |no=>rw [ef] at hv;cases hv
   |ex x s1=>rw [ef] at hv;cases hv
   |ok w2 s1 =>
    rw [ef] at hv
    have hv:qm w2.G (QG g2 (QR gs f) r) w2.l s1 = .ok l st':=hv
    have hi:=h2.it pins s σ H (fun J H' => ∃ b',Ext H b H' b'∧SR X.K H' b' s1∧Zu X.K H' b' J w2) I ⟨b,r,st,S,RE,by rw [ef];exact fun J H' b' e' S' i'=>⟨b',e',S',i'⟩⟩
    refine AA (Be hi (fun u s2 hq => ?_) fun e' s' z=>(hx e' s' z).elim)
    refine AA (CS (AA (AZ (h2.fold u) (AA (Ao (Be hq (fun itv s3 hq3 => ?_) fun e' s' z=>(hx e' s' z).elim))))))
    obtain ⟨it2,fp2,tn2,J2,H3,rfl,I3,T2,t2,f2,b3,e3,S3,i3⟩:=hq3
    have hz3:D∈b3.z:=by rw [e3.same];exact hDz
    have hD3:=e3.hid _ _ hDz hD
    refine AA (wpAny_runOwn ?_)
    have loop:=ih cs (d + 1) c2 g2 hdr2 h2.toGOk hr2 pins s3 σ H3 b3 r s1 st' it2 fp2 tn2 J2 w2 accV l (fun r s'=>match r with
     | .ok f=>wpAny (model X.prog X.w) X.A (again (.compLoop (.ListComp elt gens scope pos) d (.ref it) (.ref D) X.env)) QF E s'
     | .error e=>cameBackBy (model X.prog X.w) X.A X.env E e s') I3 S3 (RE.ext e3) hz3 hD3 T2 t2 f2 i3 hv hsz
     fun s' σ' H' b' lV I' e' S' R' hD' r'=>AD (q s' σ' H' b' lV I' ((DE.of e3).trans e') S' R' hD' r')
    exact W3 hgn h2.asy loop (T2.self X.A 0 s3 _ _ t2 loop)
theorem jy {M:Model} {A:Around} {E:Value->Shared->Prop} {s:Shared} {scope:Scope} {env:Env} {cl:List (Str×Addr)} {Q:Env->Shared->Prop}
  (h:Q { scope:=scope,locals:=s.heap.objs.size,globals:=env.globals,cells:=cellsFrom (s.heap.objs.size + 1) scope.names cl,qual:=env.qual,func:=none,code:=env.code,frame:=env.frame,builtins:=env.builtins } { s with heap:=pushCells (s.heap.push { cls := .type "dict",data := .dict #[] }) scope.names }) :
  wpAny M A (newFunctionEnv scope env.globals cl [] env.qual none .none (some env)) Q E s:=by
 simp only [newFunctionEnv,Option.isSome_some,if_true]
 refine AA (wpAny_alloc ?_)
 refine AA (wpAny_layCells _ (fun name kind cells=>by cases hkc:kind==NameKind.cell <;> simp [hkc]) _ _ _ _ ?_)
 rw [show ({ s with heap:=s.heap.push { cls := .type "dict",data := .dict #[] } }:Shared).heap.objs.size=s.heap.objs.size + 1 from BO ..]
 exact AA (AD (AD h))
def w5 (caps:List Nat) (n:Nat) (r:QC):QC:=(caps.map fun j=>(r[j]?).join)++List.replicate n none
noncomputable def qh (caps:List Nat) (n:Nat) (fi:FI) (g:FG) (ts:List FT) (gs:List GenF) (f:FE):FL:=fun r st=>(fi r st).bind fun w s=>match qm w.G (QG ⟨fi,g,ts⟩ (QR gs f) (w5 caps n r)) w.l s with
 | .ok l s'=>if l.length≤sizeLine then .ok l s' else .no
 |_ => .no
theorem ju {K:W.Frag} {H:Hp} {b:Bz} {r:QC} {σ:L2.St} {caps:List Nat} {n:Nat} (R:REnv K H b r σ):REnv K H b (w5 caps n r) ((caps.map fun j=>(σ[j]?).join)++List.replicate n none):=by
 refine ⟨by simp [w5],fun i p e => ?_⟩
 unfold w5 at e
 by_cases hi:i < caps.length
 ·rw [Ab (by simpa using hi),Ag] at e
  rw [Ab (by simpa using hi),Ag]
  cases ej:caps[i]? with
  |none=>rw [ej] at e;cases e
  |some j =>
   rw [ej] at e
   have e':(r[j]?).join=some p:=An e
   have e2:r[j]? = some (some p):=by
    cases q:r[j]? with
    |none=>rw [q] at e';cases e'
    |some o=>rw [q] at e';exact B3 some e'
   obtain ⟨v,h1,h2⟩:=R.2 j p e2
   refine ⟨v,?_,h2⟩
   show some (σ[j]?).join=some (some v)
   rw [h1];rfl
 ·rw [Ac (by simpa using hi),BK] at e
  split at e <;> cases e
theorem YV {K:W.Frag} {H:Hp} {b:Bz} {J:It} {w:ItP} {D:Addr} {o:HO} (h:Zu K H b J w) (hD:H D=none):Zu K (upd H D o) ⟨b.b,D::b.z⟩ J w:=fun H1 b1 st1 e S g=>h H1 b1 st1 ((WE.hide hD).trans e) S g
theorem QT {X:Cx} {E:XK} {elt:Expr} {c:Comprehension} {cs:List Comprehension} {scope:Scope} {pos:Pos} {capN locN:List Str} {caps:List Nat} {fi:FI} {g:FG} {ts:List FT} {gs:List GenF} {f:FE} (hcs:CSc X scope capN locN caps)
  (hi:VI X E c.target c.iter fi) (sub:∀ s H fp pn,VE (cCx X scope (capN++locN) s H fp pn) E0 elt f∧GOk (cCx X scope (capN++locN) s H fp pn) c ⟨fi,g,ts⟩∧GsOk (cCx X scope (capN++locN) s H fp pn) cs gs)
  (hs:∀ x,foldedSetIterable c.iter X.env x=pure x:=by intro _;rfl):VN X E (.ListComp elt (c::cs) scope pos) (qh caps locN.length fi g ts gs f):=by
 intro pins s σ H Q I hq
 obtain ⟨b,r,st,S,RE,P⟩:=hq
 have hfree:∀ x∈scope.names,x.2 = .free -> ∃ c,X.env.cells.lookup x.1=some c:=fun x hx hk=>I.ok.has x.1 (hcs.fr x hx hk)
 obtain ⟨c1,c2,c3,c4⟩:=c
 have hasy:c4=0:=(sub s H [] []).2.1.asy
 subst hasy
 rw [eval_ListComp]
 refine wpAny_comprehension_free (use:=none) rfl hs (yn hfree) hcs.kind (fun x hx hl=>WG hcs.nd (by rw [← hl];exact hx)) ?_
 show wpAny _ _ (eval c2 X.env) _ _ s
 unfold qh at P
 cases ef:fi r st with
 |no=>rw [ef] at P;exact P.elim
 |ex x s1 =>
  rw [ef] at P
  refine thn (hi pins s σ H (fun _ _=>False) I ⟨b,r,st,S,RE,by rw [ef];exact P⟩) fun v s2 h2=>thn h2 fun itv s3 h3 => ?_
  obtain ⟨_,_,_,_,_,_,_,_,_,_,z⟩:=h3
  exact z.elim
 |ok w s1 =>
  rw [ef] at P
  refine thn (hi pins s σ H (fun J H' => ∃ b',Ext H b H' b'∧SR X.K H' b' s1∧Zu X.K H' b' J w) I ⟨b,r,st,S,RE,by rw [ef];exact fun J H' b' e' S' i'=>⟨b',e',S',i'⟩⟩) fun v s2 h2=>thn h2 fun itv s3 h3 => ?_
  obtain ⟨it,fp,tn,J,H2,rfl,I2,T,t2,f2,b2,e2,S2,i2⟩:=h3
  have P:PostN X.K E H b (match qm w.G (QG ⟨fi,g,ts⟩ (QR gs f) (w5 caps locN.length r)) w.l s1 with | .ok l s'=>if l.length≤sizeLine then .ok l s' else .no |_ => .no) Q:=P
  cases ev:qm w.G (QG ⟨fi,g,ts⟩ (QR gs f) (w5 caps locN.length r)) w.l s1 with
  |no=>rw [ev] at P;exact P.elim
  |ex x s4=>rw [ev] at P;exact P.elim
  |ok l st' =>
   rw [ev] at P
   have P:PostN X.K E H b (if l.length≤sizeLine then .ok l st' else .no) Q:=P
   by_cases hl:l.length≤sizeLine
   ·rw [AG hl] at P
    have hfr:H2 s3.heap.objs.size=none:=I2.hok.fresh (AM _)
    refine CT ?_
    generalize hs3:({ s3 with heap:=s3.heap.push { cls := .type "list",data := .seq ([]:List Value).toArray } }:Shared)=s3'
    have I3:L2.Inv X pins σ (upd H2 s3.heap.objs.size (.lst [])) s3':=by
     rw [← hs3]
     exact I2.laid (t':=s3.toks) (fun a u e=>AF _ e) (AM _) (show ObjOk X.prog X.w _ _ _ (.lst []) from ⟨A6 _,[],0,.nil,AW _ rfl⟩)
    have k3:∀ a o,s3.heap.get? a=some o->s3'.heap.get? a=some o:=fun a o e=>by rw [← hs3];exact AF _ e
    have hlt:∀ a∈fp,a < s3.heap.objs.size:=fun a ha=>by
     obtain ⟨o,e,_⟩:=T.obj _ _ t2 a ha
     exact AK e
    have f3:∀ a∈fp,z8 X pins (upd H2 s3.heap.objs.size (.lst [])) a:=fun a ha=>⟨by rw [qV (AX (hlt a ha))];exact (f2 a ha).1,(f2 a ha).2⟩
    have hlt3:∀ a∈fp,a < s3'.heap.objs.size:=fun a ha=>by
     obtain ⟨o,e,_⟩:=T.obj _ _ t2 a ha
     exact AK (k3 a o e)
    generalize hD:s3.heap.objs.size=D at I3 f3 hfr
    refine jy ?_
    have J0:=yW hcs I3 f3 hlt3 rfl
    obtain ⟨he,hg,hgs⟩:=sub s3' (upd H2 D (.lst [])) fp (X.pn++pins)
    have k4:∀ a o,s3'.heap.get? a=some o->(pushCells (s3'.heap.push { cls := .type "dict",data := .dict #[] }) scope.names).get? a=some o:=fun a o e=>CV _ _ _ _ (AF _ e)
    have hDz:D ∉ b2.z:=(S2.new_notin hfr).2
    have loop:=Ya (X:=cCx X scope (capN++locN) s3' (upd H2 D (.lst [])) fp (X.pn++pins)) (fun _ _ z=>z) (gens:=⟨c1,c2,c3,0⟩::cs) (scope:=scope) (pos:=pos) (D:=D) he gs cs 0 ⟨c1,c2,c3,0⟩ ⟨fi,g,ts⟩ rfl hg hgs [] _ _ _ ⟨b2.b,D::b2.z⟩ (w5 caps locN.length r) s1 st' it fp tn J w [] l
     (compPost (model X.prog X.w) X.A X.xe none (EP X pins σ Q) (.ref D) s3'.heap.objs.size) J0 (SR.hide S2 hfr) (ju ((RE.ext e2).wext (WE.hide hfr))) AE Qk T (T.keep _ _ _ t2 fun a ha o e=>k4 a o (k3 a o e))
     (fun a ha=>⟨(f3 a ha).1,(J0.ok.exf a ha).1,J0.ok.exfs a ha,.inl ha,(J0.ok.exf a ha).2,fun p hp=>(f3 a ha).2.2.2.2.2 p (by simpa [cCx] using hp)⟩) (YV i2 hfr) ev (by simpa using hl)
     (fun s' σ' H' b' lV I' e' S' R' hD' r'=>by
      obtain ⟨m,hn,_⟩:=I'.loc
      refine ⟨m,hn,fun h'' sb => ?_⟩
      have fin:=JK I3 f3 I' sb
      have hz':b'.z=D::b2.z:=e'.same
      refine ⟨.ref D,H',fin,rfl,?_⟩
      have ex:Ext H2 b2 H' ⟨b'.b,b2.z⟩:=by
       refine ⟨⟨?_,⟨[],rfl,by simp⟩,fun a o ha ho => ?_,fun a o ha => ?_⟩,rfl,fun a o hz ha => ?_,fun a o u ha=>e'.fz a o u (qM ha hfr) (by rw [qV (qM ha hfr)];exact ha)⟩
       ·obtain ⟨n,hb,hh⟩:=e'.more
        exact ⟨n,hb,fun a ha=>by
         have:=hh a ha
         by_cases q:a=D
         ·rw [q];exact hfr
         ·rwa [qV q] at this⟩
       ·have hne:a≠D:=qM ha hfr
        exact e'.keep a o (by rw [qV hne];exact ha) ⟨ho.1,fun z=>(AL.mp z).elim hne ho.2⟩
       ·have hne:a≠D:=qM ha hfr
        exact e'.dom a o (by rw [qV hne];exact ha)
       ·have hne:a≠D:=qM ha hfr
        exact e'.hid a o (AB _ hz) hne (by rw [qV hne];exact ha)
      have hb':(⟨b'.b,D::b2.z⟩:Bz)=b':=by rw [← hz']
      refine P D lV H' ⟨b'.b,b2.z⟩ (e2.trans ex) (e2.none_of hfr) (by simpa using hD') hDz ?_ ?_
      ·show SR X.K H' ⟨b'.b,D::b2.z⟩ st'
       rw [hb'];exact S'
      ·show RVs X.K H' ⟨b'.b,D::b2.z⟩ l lV
       rw [hb'];exact r')
    exact W3 rfl rfl loop (T.self X.A 0 _ _ _ (T.keep _ _ _ t2 fun a ha o e=>k4 a o (k3 a o e)) loop)
   ·rw [AH hl] at P;exact P.elim
def QZ (n:Nat) (l:List PV):QC:=l.map some++List.replicate (n - l.length) none
def qEx:RS->Rs PV
 | .nx _ st => .ok .non st
 | .rt v st => .ok v st
 | .ex x st => .ex x st
 |_ => .no
def Refn (n:Nat) (r r':Rs PV):Prop := ∀ (K:W.Frag) (E:XK) (H:Hp) (b:Bz) (Q:VK),b.b.length=n->PostE K E H b r' Q->PostE K E H b r Q
theorem Refn.refl {n:Nat} {r:Rs PV}:Refn n r r:=fun _ _ _ _ _ _ h=>h
theorem REnv.init {K:W.Frag} {H:Hp} {b:Bz} {N:List Str} {l:List PV} {vs:List V} (h:RVs K H b l vs):REnv K H b (QZ N.length l) (start N vs):=by
 have hl:=h.length
 refine ⟨by simp [QZ,L2.start,hl],fun i p e => ?_⟩
 unfold QZ at e
 unfold L2.start
 by_cases hi:i < l.length
 ·rw [Ab (by simpa using hi),Ag] at e
  rw [Ab (by simpa [← hl] using hi),Ag]
  cases q:l[i]? with
  |none=>rw [q] at e;cases e
  |some p' =>
   rw [q] at e
   cases e
   obtain ⟨v,h1,h2⟩:=h.get q
   exact ⟨v,by rw [h1];rfl,h2⟩
 ·rw [Ac (by simpa using hi),BK] at e
  split at e <;> cases e
section
variable {P:Program} {w:World} {K:W.Frag} {mg:Str->Option Value} {base:Heap}
theorem okV {CX:CXT} {x qual:Str} {st:Stmt} {f:Addr} {fd:FuncData} {N ps:List Str} {k:Nat} {g:List PV->qC->Rs PV} (F:Fun K x qual st f fd) (S:FnScope N ps (qI st))
  (body:∀ (cdv:Value) (A:Around) (outer:List Env) (s:Shared) (H:Hp) (E:XK),Room k (A.deeper (envOfC qual (qI st) s.heap.objs.size f cdv))->(0 < k->A.handled=none) ->
   ∃ B:FS,VSs (Wd CX P w K mg base N qual (qI st) f cdv A outer s H E) E (qf st) B ∧ ∀ l s0,l.length=ps.length->g l s0 ≠ .no->Refn s0.length (qEx (B (QZ N.length l) s0)) (g l s0)):FnOk P w K mg base CX (k + 1) f fd ps (spG K ps.length g):=by
 obtain ⟨oc,od,kV,doc,pm,an,cdv,ct,osl,rfl,lk,hcd⟩:=F.ex
 refine qH5 lk hcd S (fun vs H Q E h=>h.1) fun A outer s H vs Q E hr hcm hsp => ?_
 obtain ⟨B,hB,hg⟩:=body cdv A outer s H E hr hcm
 obtain ⟨hl,b,l,st0,S0,r0,P0⟩:=hsp
 refine ⟨_,hB,b,QZ N.length l,st0,S0,REnv.init r0,?_⟩
 have hne:g l st0 ≠ .no:=fun z=>by rw [z] at P0;exact P0
 have P1:=hg l st0 (by rw [r0.length];exact hl) hne K E H b Q S0.len P0
 cases e:B (QZ N.length l) st0 with
 |nx r st=>rw [e] at P1;exact fun s H' b' e' S' R'=>P1 .non H' b' e' S' (by unfold RV;rfl)
 |rt v st=>rw [e] at P1;exact P1
 |bk r st=>rw [e] at P1;exact P1.elim
 |ct r st=>rw [e] at P1;exact P1.elim
 |ex x st=>rw [e] at P1;exact P1
 |no=>rw [e] at P1;exact P1.elim
end
mutual
def peq:PV->PV->Bool
 | .non,.non=>true
 | .bl a,.bl c=>a==c
 | .int a,.int c=>a==c
 | .bl a,.int c=>(if a then 1 else 0)==c
 | .int a,.bl c=>a==(if c then 1 else 0)
 | .str a,.str c=>a==c
 | .tup l,.tup m=>peqs l m
 | .lst l,.lst m=>peqs l m
 |_,_=>false
def peqs:List PV->List PV->Bool
 |[],[]=>true
 |p::ps,q::qs=>peq p q&&peqs ps qs
 |_,_=>false
end
mutual
def nr:PV->Bool
 | .tup l=>nrs l
 | .lst l=>nrs l
 | .ref _=>false
 | .dct=>false
 | .ty _=>false
 | .fn _=>false
 | .exc _ _=>false
 |_=>true
def nrs:List PV->Bool
 |[]=>true
 |p::ps=>nr p&&nrs ps
end
mutual
def dep:PV->Nat
 | .tup l=>deps l + 1
 | .lst l=>deps l + 1
 |_=>0
def deps:List PV->Nat
 |[]=>0
 |p::ps=>max (dep p) (deps ps)
end
mutual
def RW (K:W.Frag) (H:Hp):PV->V->Prop
 | .non,v=>v = .non
 | .bl x,v=>v = .bl x
 | .int i,v=>v = .int i
 | .str x,v=>v = .str x
 | .tup l,v => ∃ a xs,v = .ref a∧SqT K H a xs∧RWs K H l xs
 | .lst l,v => ∃ a xs,v = .ref a∧SqL K H a xs∧RWs K H l xs
 |_,_=>False
def RWs (K:W.Frag) (H:Hp):List PV->List V->Prop
 |[],xs=>xs=[]
 |p::ps,xs => ∃ x r,xs=x::r∧RW K H p x∧RWs K H ps r
end
mutual
theorem RV.rw {K:W.Frag} {H:Hp} {b:Bz}:∀ (p:PV) {v:V},nr p=true->RV K H b p v->RW K H p v
 | .non,_,_,h=>by unfold RV at h;unfold RW;exact h
 | .bl _,_,_,h=>by unfold RV at h;unfold RW;exact h
 | .int _,_,_,h=>by unfold RV at h;unfold RW;exact h
 | .str _,_,_,h=>by unfold RV at h;unfold RW;exact h
 | .tup l,_,n,h=>by
  unfold RV at h;unfold RW;unfold nr at n
  obtain ⟨a,xs,h1,h2,h3⟩:=h
  exact ⟨a,xs,h1,h2.sq,RVs.rws l n h3⟩
 | .lst l,_,n,h=>by
  unfold RV at h;unfold RW;unfold nr at n
  obtain ⟨a,xs,h1,h2,h3⟩:=h
  exact ⟨a,xs,h1,h2.sq,RVs.rws l n h3⟩
 | .ref _,_,n,_=>by unfold nr at n;cases n
 | .dct,_,n,_=>by unfold nr at n;cases n
 | .ty _,_,n,_=>by unfold nr at n;cases n
 | .fn _,_,n,_=>by unfold nr at n;cases n
 | .exc _ _,_,n,_=>by unfold nr at n;cases n
theorem RVs.rws {K:W.Frag} {H:Hp} {b:Bz}:∀ (l:List PV) {xs:List V},nrs l=true->RVs K H b l xs->RWs K H l xs
 |[],_,_,h=>by unfold RVs at h;unfold RWs;exact h
 |p::ps,_,n,h=>by
  unfold RVs at h;unfold RWs;unfold nrs at n
  rw [Ay] at n
  obtain ⟨x,r,h1,h2,h3⟩:=h
  exact ⟨x,r,h1,RV.rw p n.1 h2,RVs.rws ps n.2 h3⟩
end
theorem RWs.length {K:W.Frag} {H:Hp}:∀ {l:List PV} {xs:List V},RWs K H l xs->l.length=xs.length
 |[],_,h=>by unfold RWs at h;rw [h];rfl
 |p::ps,_,h=>by
  unfold RWs at h
  obtain ⟨x,r,rfl,_,h3⟩:=h
  rw [AT,AT,RWs.length h3]
section
variable {X:Cx} {pins:List (Addr×Obj)} {σ:L2.St} {H:Hp} {s:Shared}
theorem ZM (I:L2.Inv X pins σ H s) {a:Addr} {xs ys:List V} (h1:SqL X.K H a xs) (h2:SqT X.K H a ys):False:=by
 obtain ⟨its,_,p,_⟩:=I.list h1
 obtain ⟨its',_,q,_⟩:=I.tuple h2
 obtain ⟨o,ho,hc,n,hd⟩:=p.isList
 obtain ⟨o',ho',hc',_⟩:=q
 rw [ho] at ho';cases ho'
 rw [hc] at hc'
 injection hc' with z
 exact absurd z (by decide)
mutual
theorem RW.same (I:L2.Inv X pins σ H s):∀ (p q:PV) {v:V},RW X.K H p v->RW X.K H q v->peq p q=true
 | .non,q,v,h,g=>by
  unfold RW at h;subst h
  cases q <;> unfold RW at g <;> first |rfl |exact (g:False).elim |(obtain ⟨_,_,e,_⟩:=g;cases e) |cases g
 | .bl x,q,v,h,g=>by
  unfold RW at h;subst h
  cases q <;> unfold RW at g <;> first |(obtain ⟨_,_,e,_⟩:=g;cases e) |(cases g;simp [peq];done) |exact (g:False).elim |cases g
 | .int x,q,v,h,g=>by
  unfold RW at h;subst h
  cases q <;> unfold RW at g <;> first |(obtain ⟨_,_,e,_⟩:=g;cases e) |(cases g;simp [peq];done) |exact (g:False).elim |cases g
 | .str x,q,v,h,g=>by
  unfold RW at h;subst h
  cases q <;> unfold RW at g <;> first |(obtain ⟨_,_,e,_⟩:=g;cases e) |(cases g;simp [peq];done) |exact (g:False).elim |cases g
 | .tup l,q,v,h,g=>by
  unfold RW at h
  obtain ⟨a,xs,rfl,h2,h3⟩:=h
  cases q with
  |tup m =>
   unfold RW at g
   obtain ⟨a',ys,e,g2,g3⟩:=g
   cases e
   have:=I.tuple_inj h2 g2
   subst this
   unfold peq
   exact RWs.same I l m h3 g3
  |lst m =>
   unfold RW at g
   obtain ⟨a',ys,e,g2,g3⟩:=g
   cases e
   exact (ZM I g2 h2).elim
  |ref _=>unfold RW at g;exact g.elim
  |dct=>unfold RW at g;exact g.elim
  |ty _=>unfold RW at g;exact g.elim
  |fn _=>unfold RW at g;exact g.elim
  |exc _ _=>unfold RW at g;exact g.elim
  |non=>unfold RW at g;cases g
  |bl _=>unfold RW at g;cases g
  |int _=>unfold RW at g;cases g
  |str _=>unfold RW at g;cases g
 | .lst l,q,v,h,g=>by
  unfold RW at h
  obtain ⟨a,xs,rfl,h2,h3⟩:=h
  cases q with
  |lst m =>
   unfold RW at g
   obtain ⟨a',ys,e,g2,g3⟩:=g
   cases e
   have:=I.list_inj h2 g2
   subst this
   unfold peq
   exact RWs.same I l m h3 g3
  |tup m =>
   unfold RW at g
   obtain ⟨a',ys,e,g2,g3⟩:=g
   cases e
   exact (ZM I h2 g2).elim
  |ref _=>unfold RW at g;exact g.elim
  |dct=>unfold RW at g;exact g.elim
  |ty _=>unfold RW at g;exact g.elim
  |fn _=>unfold RW at g;exact g.elim
  |exc _ _=>unfold RW at g;exact g.elim
  |non=>unfold RW at g;cases g
  |bl _=>unfold RW at g;cases g
  |int _=>unfold RW at g;cases g
  |str _=>unfold RW at g;cases g
 | .ref _,_,_,h,_=>by unfold RW at h;exact h.elim
 | .dct,_,_,h,_=>by unfold RW at h;exact h.elim
 | .ty _,_,_,h,_=>by unfold RW at h;exact h.elim
 | .fn _,_,_,h,_=>by unfold RW at h;exact h.elim
 | .exc _ _,_,_,h,_=>by unfold RW at h;exact h.elim
theorem RWs.same (I:L2.Inv X pins σ H s):∀ (l m:List PV) {xs:List V},RWs X.K H l xs->RWs X.K H m xs->peqs l m=true
 |[],m,xs,h,g=>by
  unfold RWs at h;subst h
  cases m with
  |nil=>rfl
  |cons _ _=>unfold RWs at g;obtain ⟨_,_,e,_⟩:=g;cases e
 |p::ps,m,xs,h,g=>by
  unfold RWs at h
  obtain ⟨x,r,rfl,h2,h3⟩:=h
  cases m with
  |nil=>unfold RWs at g;cases g
  |cons q qs =>
   unfold RWs at g
   obtain ⟨y,t,e,g2,g3⟩:=g
   cases e
   unfold peqs
   rw [RW.same I p q h2 g2,RWs.same I ps qs h3 g3];rfl
end
def eqN (l m:List PV) (j:Nat):Bool:=match l[j]?,m[j]? with
 |some p,some q=>peq p q
 |_,_=>false
theorem W5:∀ (l m:List PV),l.length=m.length->(List.range l.length).all (eqN l m)=peqs l m
 |[],[],_=>rfl
 |p::ps,q::qs,h=>by
  have ih:=W5 ps qs (by simpa using h)
  rw [AT,CH,List.all_cons,List.all_map]
  unfold peqs
  have e0:eqN (p::ps) (q::qs) 0=peq p q:=rfl
  have e1:(eqN (p::ps) (q::qs) ∘ Nat.succ)=eqN ps qs:=by funext j;rfl
  rw [e0,e1,ih]
 |[],_::_,h=>by simp at h
 |_::_,[],h=>by simp at h
theorem WP:∀ (l m:List PV),l.length≠m.length->peqs l m=false
 |[],[],h=>absurd rfl h
 |[],_::_,_=>rfl
 |_::_,[],_=>rfl
 |p::ps,q::qs,h=>by
  unfold peqs
  rw [WP ps qs (by intro z;apply h;rw [AT,AT,z]),B2]
theorem RWs.get' {K:W.Frag} {H:Hp}:∀ {l:List PV} {xs:List V} {i:Nat} {x:V},RWs K H l xs->xs[i]? = some x -> ∃ p,l[i]? = some p∧RW K H p x
 |[],_,_,_,h,e=>by unfold RWs at h;subst h;simp at e
 |p::ps,_,0,x,h,e=>by
  unfold RWs at h
  obtain ⟨y,r,rfl,h2,h3⟩:=h
  simp at e;subst e
  exact ⟨p,rfl,h2⟩
 |p::ps,_,i + 1,x,h,e=>by
  unfold RWs at h
  obtain ⟨y,r,rfl,h2,h3⟩:=h
  obtain ⟨q,e1,e2⟩:=RWs.get' (i:=i) h3 (by simpa using e)
  exact ⟨q,by simpa using e1,e2⟩
theorem Vals.get2:∀ {xs:List V} {us:List Value} {i:Nat} {u:Value},Vals xs us->us[i]? = some u -> ∃ x,xs[i]? = some x∧RelV x u
 |_,_,_,_,.nil,e=>by simp at e
 |_,_,0,_,.cons r _,e=>by simp at e;subst e;exact ⟨_,rfl,r⟩
 |_,_,i + 1,u,.cons _ t,e=>by
  obtain ⟨x,h1,h2⟩:=Vals.get2 (i:=i) (u:=u) t (by simpa using e)
  exact ⟨x,by simpa using h1,h2⟩
theorem Qz (I:L2.Inv X pins σ H s) (p q:PV) {v u:V} {uv uu:Value} {A:Around} (hd:dep p=0) (hu':A.units < cLine) (hp:RW X.K H p v) (hq:RW X.K H q u) (rv:RelV v uv) (ru:RelV u uu):SeqAt.EqAt A s uv uu (peq p q):=by
 cases p with
 |tup l=>unfold dep at hd;omega
 |lst l=>unfold dep at hd;omega
 |ref _=>unfold RW at hp;exact hp.elim
 |dct=>unfold RW at hp;exact hp.elim
 |ty _=>unfold RW at hp;exact hp.elim
 |fn _=>unfold RW at hp;exact hp.elim
 |exc _ _=>unfold RW at hp;exact hp.elim
 |non =>
  unfold RW at hp;subst hp;cases rv
  cases q with
  |non=>unfold RW at hq;subst hq;cases ru;exact SeqAt.EqAt.same _
  |bl _=>unfold RW at hq;subst hq;cases ru;exact SeqAt.EqAt.none_bool _
  |int _=>unfold RW at hq;subst hq;obtain ⟨t,rfl⟩:=ru;exact SeqAt.EqAt.none_int _ _
  |str _=>unfold RW at hq;subst hq;obtain ⟨t,rfl⟩:=ru;exact SeqAt.EqAt.none_str _ _
  |tup _=>unfold RW at hq;obtain ⟨a,xs,rfl,h2,_⟩:=hq;cases ru;obtain ⟨its,_,t,_⟩:=I.tuple h2;exact SeqAt.EqAt.none_tuple t hu'
  |lst _=>unfold RW at hq;obtain ⟨a,xs,rfl,h2,_⟩:=hq;cases ru;obtain ⟨its,_,t,_⟩:=I.list h2;exact SeqAt.EqAt.none_list t.isList hu'
  |ref _=>unfold RW at hq;exact hq.elim
  |dct=>unfold RW at hq;exact hq.elim
  |ty _=>unfold RW at hq;exact hq.elim
  |fn _=>unfold RW at hq;exact hq.elim
  |exc _ _=>unfold RW at hq;exact hq.elim
 |bl x =>
  unfold RW at hp;subst hp;cases rv
  cases q with
  |non=>unfold RW at hq;subst hq;cases ru;exact SeqAt.EqAt.bool_none _
  |bl _=>unfold RW at hq;subst hq;cases ru;exact SeqAt.EqAt.bool_bool _ _
  |int _=>unfold RW at hq;subst hq;obtain ⟨t,rfl⟩:=ru;exact SeqAt.EqAt.bool_int _ _ _
  |str _=>unfold RW at hq;subst hq;obtain ⟨t,rfl⟩:=ru;exact SeqAt.EqAt.bool_str _ _ _
  |tup _=>unfold RW at hq;obtain ⟨a,xs,rfl,h2,_⟩:=hq;cases ru;obtain ⟨its,_,t,_⟩:=I.tuple h2;exact SeqAt.EqAt.bool_tuple _ t hu'
  |lst _=>unfold RW at hq;obtain ⟨a,xs,rfl,h2,_⟩:=hq;cases ru;obtain ⟨its,_,t,_⟩:=I.list h2;exact SeqAt.EqAt.bool_list _ t.isList hu'
  |ref _=>unfold RW at hq;exact hq.elim
  |dct=>unfold RW at hq;exact hq.elim
  |ty _=>unfold RW at hq;exact hq.elim
  |fn _=>unfold RW at hq;exact hq.elim
  |exc _ _=>unfold RW at hq;exact hq.elim
 |int x =>
  unfold RW at hp;subst hp;obtain ⟨t0,rfl⟩:=rv
  cases q with
  |non=>unfold RW at hq;subst hq;cases ru;exact SeqAt.EqAt.int_none _ _
  |bl _=>unfold RW at hq;subst hq;cases ru;exact SeqAt.EqAt.int_bool _ _ _
  |int _=>unfold RW at hq;subst hq;obtain ⟨t,rfl⟩:=ru;exact SeqAt.EqAt.int_int _ _ _ _
  |str _=>unfold RW at hq;subst hq;obtain ⟨t,rfl⟩:=ru;exact SeqAt.EqAt.int_str _ _ _ _
  |tup _=>unfold RW at hq;obtain ⟨a,xs,rfl,h2,_⟩:=hq;cases ru;obtain ⟨its,_,t,_⟩:=I.tuple h2;exact SeqAt.EqAt.int_tuple _ _ t hu'
  |lst _=>unfold RW at hq;obtain ⟨a,xs,rfl,h2,_⟩:=hq;cases ru;obtain ⟨its,_,t,_⟩:=I.list h2;exact SeqAt.EqAt.int_list _ _ t.isList hu'
  |ref _=>unfold RW at hq;exact hq.elim
  |dct=>unfold RW at hq;exact hq.elim
  |ty _=>unfold RW at hq;exact hq.elim
  |fn _=>unfold RW at hq;exact hq.elim
  |exc _ _=>unfold RW at hq;exact hq.elim
 |str x =>
  unfold RW at hp;subst hp;obtain ⟨t0,rfl⟩:=rv
  cases q with
  |non=>unfold RW at hq;subst hq;cases ru;exact SeqAt.EqAt.str_none _ _
  |bl _=>unfold RW at hq;subst hq;cases ru;exact SeqAt.EqAt.str_bool _ _ _
  |int _=>unfold RW at hq;subst hq;obtain ⟨t,rfl⟩:=ru;exact SeqAt.EqAt.str_int _ _ _ _
  |str _=>unfold RW at hq;subst hq;obtain ⟨t,rfl⟩:=ru;exact SeqAt.EqAt.str_str _ _ _ _
  |tup _=>unfold RW at hq;obtain ⟨a,xs,rfl,h2,_⟩:=hq;cases ru;obtain ⟨its,_,t,_⟩:=I.tuple h2;exact SeqAt.EqAt.str_tuple _ _ t hu'
  |lst _=>unfold RW at hq;obtain ⟨a,xs,rfl,h2,_⟩:=hq;cases ru;obtain ⟨its,_,t,_⟩:=I.list h2;exact SeqAt.EqAt.str_list _ _ t.isList hu'
  |ref _=>unfold RW at hq;exact hq.elim
  |dct=>unfold RW at hq;exact hq.elim
  |ty _=>unfold RW at hq;exact hq.elim
  |fn _=>unfold RW at hq;exact hq.elim
  |exc _ _=>unfold RW at hq;exact hq.elim
theorem zG:∀ {l:List PV} {i:Nat} {p:PV},l[i]? = some p->dep p≤deps l
 |[],_,_,h=>by simp at h
 |q::qs,0,p,h=>by simp at h;subst h;unfold deps;exact Nat.le_max_left _ _
 |q::qs,i + 1,p,h=>by unfold deps;exact Am (zG (l:=qs) (i:=i) (by simpa using h)) (Nat.le_max_right _ _)
theorem qAx (I:L2.Inv X pins σ H s):∀ (n:Nat) (p q:PV) (v u:V) (uv uu:Value) (A:Around),dep p≤n->A.units + n < cLine->RW X.K H p v->RW X.K H q u->RelV v uv->RelV u uu->SeqAt.EqAt A s uv uu (peq p q):=by
 intro n
 induction n with
 |zero=>intro p q v u uv uu A hd hu hp hq rv ru;exact Qz I p q (Nat.le_zero.mp hd) hu hp hq rv ru
 |succ n ih =>
  intro p q v u uv uu A hd hu hp hq rv ru
  have hu':A.units < cLine:=CG (Bm _ _) hu
  have hin:A.in1.units + n < cLine:=by show A.units + 1 + n < cLine;omega
  have elt:∀ {l m:List PV} {xs ys:List V} {its its2:List Value},deps l≤n->RWs X.K H l xs->RWs X.K H m ys->Vals xs its->Vals ys its2 -> ∀ j (h1:j < its.toArray.size) (h2:j < its2.toArray.size),SeqAt.EqAt A.in1 s its.toArray[j] its2.toArray[j] (eqN l m j):=fun {l m xs ys its its2} hdl hl hm vl vm j h1 h2=>by
   have e1:its[j]? = some its.toArray[j]:=by simp
   have e2:its2[j]? = some its2.toArray[j]:=by simp
   obtain ⟨x,hx,rx⟩:=Vals.get2 vl e1
   obtain ⟨y,hy,ry⟩:=Vals.get2 vm e2
   obtain ⟨p',hp',rp'⟩:=RWs.get' hl hx
   obtain ⟨q',hq',rq'⟩:=RWs.get' hm hy
   have:eqN l m j=peq p' q':=by unfold eqN;rw [hp',hq']
   rw [this]
   exact ih p' q' x y _ _ A.in1 (Am (zG hp') hdl) hin rp' rq' rx ry
  cases p with
  |tup l =>
   have hp0:=hp
   unfold RW at hp
   unfold dep at hd
   obtain ⟨a,xs,rfl,h2,h3⟩:=hp
   cases rv
   obtain ⟨its,vl,tl,_⟩:=I.tuple h2
   cases q with
   |non=>unfold RW at hq;subst hq;cases ru;exact SeqAt.EqAt.tuple_none tl hu'
   |bl _=>unfold RW at hq;subst hq;cases ru;exact SeqAt.EqAt.tuple_bool _ tl hu'
   |int _=>unfold RW at hq;subst hq;obtain ⟨t,rfl⟩:=ru;exact SeqAt.EqAt.tuple_int _ _ tl hu'
   |str _=>unfold RW at hq;subst hq;obtain ⟨t,rfl⟩:=ru;exact SeqAt.EqAt.tuple_str _ _ tl hu'
   |lst _=>unfold RW at hq;obtain ⟨a,xs,rfl,h2,_⟩:=hq;cases ru;obtain ⟨its,_,t,_⟩:=I.list h2;exact SeqAt.EqAt.tuple_list tl t.isList hu'
   |ref _=>unfold RW at hq;exact hq.elim
   |dct=>unfold RW at hq;exact hq.elim
   |ty _=>unfold RW at hq;exact hq.elim
   |fn _=>unfold RW at hq;exact hq.elim
   |exc _ _=>unfold RW at hq;exact hq.elim
   |tup m =>
    have hq0:=hq
    unfold RW at hq
    obtain ⟨a2,ys,rfl,g2,g3⟩:=hq
    cases ru
    obtain ⟨its2,vm,tm,_⟩:=I.tuple g2
    by_cases ha:a=a2
    ·subst ha
     rw [RW.same I _ _ hp0 hq0]
     exact SeqAt.EqAt.same _
    ·refine SeqAt.EqAt.of_refs ha ?_
     have rc:=SeqAt.RcAt.tuples (e:=eqN l m) tl tm hu' (elt (by omega) h3 g3 vl vm)
     have hl1:its.toArray.size=l.length:=by rw [AV,← vl.length,h3.length]
     have hl2:its2.toArray.size=m.length:=by rw [AV,← vm.length,g3.length]
     rw [hl1,hl2] at rc
     have e:((List.range (min l.length m.length)).all (eqN l m)&&l.length==m.length)=peq (.tup l) (.tup m):=by
      unfold peq
      by_cases hlm:l.length=m.length
      ·rw [← hlm,Nat.min_self,W5 l m hlm,Aq,Bool.and_true]
      ·rw [WP l m hlm,Bu hlm,B2]
     rw [e] at rc
     exact rc
  |lst l =>
   have hp0:=hp
   unfold RW at hp
   unfold dep at hd
   obtain ⟨a,xs,rfl,h2,h3⟩:=hp
   cases rv
   obtain ⟨its,vl,tl',_⟩:=I.list h2
   have tl:=tl'.isList
   cases q with
   |non=>unfold RW at hq;subst hq;cases ru;exact SeqAt.EqAt.list_none tl hu'
   |bl _=>unfold RW at hq;subst hq;cases ru;exact SeqAt.EqAt.list_bool _ tl hu'
   |int _=>unfold RW at hq;subst hq;obtain ⟨t,rfl⟩:=ru;exact SeqAt.EqAt.list_int _ _ tl hu'
   |str _=>unfold RW at hq;subst hq;obtain ⟨t,rfl⟩:=ru;exact SeqAt.EqAt.list_str _ _ tl hu'
   |tup _=>unfold RW at hq;obtain ⟨a,xs,rfl,h2,_⟩:=hq;cases ru;obtain ⟨its,_,t,_⟩:=I.tuple h2;exact SeqAt.EqAt.list_tuple tl t hu'
   |ref _=>unfold RW at hq;exact hq.elim
   |dct=>unfold RW at hq;exact hq.elim
   |ty _=>unfold RW at hq;exact hq.elim
   |fn _=>unfold RW at hq;exact hq.elim
   |exc _ _=>unfold RW at hq;exact hq.elim
   |lst m =>
    have hq0:=hq
    unfold RW at hq
    obtain ⟨a2,ys,rfl,g2,g3⟩:=hq
    cases ru
    obtain ⟨its2,vm,tm',_⟩:=I.list g2
    have tm:=tm'.isList
    by_cases ha:a=a2
    ·subst ha
     rw [RW.same I _ _ hp0 hq0]
     exact SeqAt.EqAt.same _
    ·refine SeqAt.EqAt.of_refs ha ?_
     have hl1:its.toArray.size=l.length:=by rw [AV,← vl.length,h3.length]
     have hl2:its2.toArray.size=m.length:=by rw [AV,← vm.length,g3.length]
     unfold peq
     by_cases hlm:l.length=m.length
     ·have rc:=SeqAt.RcAt.lists (e:=eqN l m) tl tm (by rw [hl1,hl2,hlm]) hu' (elt (by omega) h3 g3 vl vm)
      rw [hl1,W5 l m hlm] at rc
      exact rc
     ·rw [WP l m hlm]
      exact SeqAt.RcAt.lists_lengths tl tm (by rw [hl1,hl2];exact bne_iff_ne.mpr hlm) hu'
  |non=>exact Qz I _ q rfl hu' hp hq rv ru
  |bl _=>exact Qz I _ q rfl hu' hp hq rv ru
  |int _=>exact Qz I _ q rfl hu' hp hq rv ru
  |str _=>exact Qz I _ q rfl hu' hp hq rv ru
  |ref _=>exact Qz I _ q rfl hu' hp hq rv ru
  |dct=>exact Qz I _ q rfl hu' hp hq rv ru
  |ty _=>exact Qz I _ q rfl hu' hp hq rv ru
  |fn _=>exact Qz I _ q rfl hu' hp hq rv ru
  |exc _ _=>exact Qz I _ q rfl hu' hp hq rv ru
end
section
variable {X:Cx} {pins:List (Addr×Obj)} {σ:L2.St} {H:Hp} {s:Shared}
mutual
theorem RW.det (I:L2.Inv X pins σ H s):∀ (p q:PV) {v:V},RW X.K H p v->RW X.K H q v->p=q
 | .non,q,v,h,g=>by
  unfold RW at h;subst h
  cases q <;> unfold RW at g <;> first |rfl |exact (g:False).elim |(obtain ⟨_,_,e,_⟩:=g;cases e) |cases g
 | .bl x,q,v,h,g=>by
  unfold RW at h;subst h
  cases q <;> unfold RW at g <;> first |(obtain ⟨_,_,e,_⟩:=g;cases e) |(cases g;rfl) |exact (g:False).elim |cases g
 | .int x,q,v,h,g=>by
  unfold RW at h;subst h
  cases q <;> unfold RW at g <;> first |(obtain ⟨_,_,e,_⟩:=g;cases e) |(cases g;rfl) |exact (g:False).elim |cases g
 | .str x,q,v,h,g=>by
  unfold RW at h;subst h
  cases q <;> unfold RW at g <;> first |(obtain ⟨_,_,e,_⟩:=g;cases e) |(cases g;rfl) |exact (g:False).elim |cases g
 | .tup l,q,v,h,g=>by
  unfold RW at h
  obtain ⟨a,xs,rfl,h2,h3⟩:=h
  cases q with
  |tup m =>
   unfold RW at g
   obtain ⟨a',ys,e,g2,g3⟩:=g
   cases e
   have:=I.tuple_inj h2 g2
   subst this
   rw [RWs.det I l m h3 g3]
  |lst m =>
   unfold RW at g
   obtain ⟨a',ys,e,g2,g3⟩:=g
   cases e
   exact (ZM I g2 h2).elim
  |ref _=>unfold RW at g;exact g.elim
  |dct=>unfold RW at g;exact g.elim
  |ty _=>unfold RW at g;exact g.elim
  |fn _=>unfold RW at g;exact g.elim
  |exc _ _=>unfold RW at g;exact g.elim
  |non=>unfold RW at g;cases g
  |bl _=>unfold RW at g;cases g
  |int _=>unfold RW at g;cases g
  |str _=>unfold RW at g;cases g
 | .lst l,q,v,h,g=>by
  unfold RW at h
  obtain ⟨a,xs,rfl,h2,h3⟩:=h
  cases q with
  |lst m =>
   unfold RW at g
   obtain ⟨a',ys,e,g2,g3⟩:=g
   cases e
   have:=I.list_inj h2 g2
   subst this
   rw [RWs.det I l m h3 g3]
  |tup m =>
   unfold RW at g
   obtain ⟨a',ys,e,g2,g3⟩:=g
   cases e
   exact (ZM I h2 g2).elim
  |ref _=>unfold RW at g;exact g.elim
  |dct=>unfold RW at g;exact g.elim
  |ty _=>unfold RW at g;exact g.elim
  |fn _=>unfold RW at g;exact g.elim
  |exc _ _=>unfold RW at g;exact g.elim
  |non=>unfold RW at g;cases g
  |bl _=>unfold RW at g;cases g
  |int _=>unfold RW at g;cases g
  |str _=>unfold RW at g;cases g
 | .ref _,_,_,h,_=>by unfold RW at h;exact h.elim
 | .dct,_,_,h,_=>by unfold RW at h;exact h.elim
 | .ty _,_,_,h,_=>by unfold RW at h;exact h.elim
 | .fn _,_,_,h,_=>by unfold RW at h;exact h.elim
 | .exc _ _,_,_,h,_=>by unfold RW at h;exact h.elim
theorem RWs.det (I:L2.Inv X pins σ H s):∀ (l m:List PV) {xs:List V},RWs X.K H l xs->RWs X.K H m xs->l=m
 |[],m,xs,h,g=>by
  unfold RWs at h;subst h
  cases m with
  |nil=>rfl
  |cons _ _=>unfold RWs at g;obtain ⟨_,_,e,_⟩:=g;cases e
 |p::ps,m,xs,h,g=>by
  unfold RWs at h
  obtain ⟨x,r,rfl,h2,h3⟩:=h
  cases m with
  |nil=>unfold RWs at g;cases g
  |cons q qs =>
   unfold RWs at g
   obtain ⟨y,t,e,g2,g3⟩:=g
   cases e
   rw [RW.det I p q h2 g2,RWs.det I ps qs h3 g3]
end
theorem Q6 (I:L2.Inv X pins σ H s) (p q:PV) {v u:V} {uv uu:Value} {A:Around} (hd:dep p=0) (hu':A.units < cLine) (hp:RW X.K H p v) (hq:RW X.K H q u) (rv:RelV v uv) (ru:RelV u uu):SeqAt.RcAt A s uv uu (peq p q):=by
 cases p with
 |tup l=>unfold dep at hd;omega
 |lst l=>unfold dep at hd;omega
 |ref _=>unfold RW at hp;exact hp.elim
 |dct=>unfold RW at hp;exact hp.elim
 |ty _=>unfold RW at hp;exact hp.elim
 |fn _=>unfold RW at hp;exact hp.elim
 |exc _ _=>unfold RW at hp;exact hp.elim
 |non =>
  unfold RW at hp;subst hp;cases rv
  cases q with
  |non=>unfold RW at hq;subst hq;cases ru;exact SeqAt.RcAt.none_none
  |bl _=>unfold RW at hq;subst hq;cases ru;exact SeqAt.RcAt.none_bool _
  |int _=>unfold RW at hq;subst hq;obtain ⟨t,rfl⟩:=ru;exact SeqAt.RcAt.none_int _ _
  |str _=>unfold RW at hq;subst hq;obtain ⟨t,rfl⟩:=ru;exact SeqAt.RcAt.none_str _ _
  |tup _=>unfold RW at hq;obtain ⟨a,xs,rfl,h2,_⟩:=hq;cases ru;obtain ⟨its,_,t,_⟩:=I.tuple h2;exact SeqAt.RcAt.none_tuple t hu'
  |lst _=>unfold RW at hq;obtain ⟨a,xs,rfl,h2,_⟩:=hq;cases ru;obtain ⟨its,_,t,_⟩:=I.list h2;exact SeqAt.RcAt.none_list t.isList hu'
  |ref _=>unfold RW at hq;exact hq.elim
  |dct=>unfold RW at hq;exact hq.elim
  |ty _=>unfold RW at hq;exact hq.elim
  |fn _=>unfold RW at hq;exact hq.elim
  |exc _ _=>unfold RW at hq;exact hq.elim
 |bl x =>
  unfold RW at hp;subst hp;cases rv
  cases q with
  |non=>unfold RW at hq;subst hq;cases ru;exact SeqAt.RcAt.bool_none _
  |bl _=>unfold RW at hq;subst hq;cases ru;exact SeqAt.RcAt.bool_bool _ _
  |int _=>unfold RW at hq;subst hq;obtain ⟨t,rfl⟩:=ru;exact SeqAt.RcAt.bool_int _ _ _
  |str _=>unfold RW at hq;subst hq;obtain ⟨t,rfl⟩:=ru;exact SeqAt.RcAt.bool_str _ _ _
  |tup _=>unfold RW at hq;obtain ⟨a,xs,rfl,h2,_⟩:=hq;cases ru;obtain ⟨its,_,t,_⟩:=I.tuple h2;exact SeqAt.RcAt.bool_tuple _ t hu'
  |lst _=>unfold RW at hq;obtain ⟨a,xs,rfl,h2,_⟩:=hq;cases ru;obtain ⟨its,_,t,_⟩:=I.list h2;exact SeqAt.RcAt.bool_list _ t.isList hu'
  |ref _=>unfold RW at hq;exact hq.elim
  |dct=>unfold RW at hq;exact hq.elim
  |ty _=>unfold RW at hq;exact hq.elim
  |fn _=>unfold RW at hq;exact hq.elim
  |exc _ _=>unfold RW at hq;exact hq.elim
 |int x =>
  unfold RW at hp;subst hp;obtain ⟨t0,rfl⟩:=rv
  cases q with
  |non=>unfold RW at hq;subst hq;cases ru;exact SeqAt.RcAt.int_none _ _
  |bl _=>unfold RW at hq;subst hq;cases ru;exact SeqAt.RcAt.int_bool _ _ _
  |int _=>unfold RW at hq;subst hq;obtain ⟨t,rfl⟩:=ru;exact SeqAt.RcAt.int_int _ _ _ _
  |str _=>unfold RW at hq;subst hq;obtain ⟨t,rfl⟩:=ru;exact SeqAt.RcAt.int_str _ _ _ _
  |tup _=>unfold RW at hq;obtain ⟨a,xs,rfl,h2,_⟩:=hq;cases ru;obtain ⟨its,_,t,_⟩:=I.tuple h2;exact SeqAt.RcAt.int_tuple _ _ t hu'
  |lst _=>unfold RW at hq;obtain ⟨a,xs,rfl,h2,_⟩:=hq;cases ru;obtain ⟨its,_,t,_⟩:=I.list h2;exact SeqAt.RcAt.int_list _ _ t.isList hu'
  |ref _=>unfold RW at hq;exact hq.elim
  |dct=>unfold RW at hq;exact hq.elim
  |ty _=>unfold RW at hq;exact hq.elim
  |fn _=>unfold RW at hq;exact hq.elim
  |exc _ _=>unfold RW at hq;exact hq.elim
 |str x =>
  unfold RW at hp;subst hp;obtain ⟨t0,rfl⟩:=rv
  cases q with
  |non=>unfold RW at hq;subst hq;cases ru;exact SeqAt.RcAt.str_none _ _
  |bl _=>unfold RW at hq;subst hq;cases ru;exact SeqAt.RcAt.str_bool _ _ _
  |int _=>unfold RW at hq;subst hq;obtain ⟨t,rfl⟩:=ru;exact SeqAt.RcAt.str_int _ _ _ _
  |str _=>unfold RW at hq;subst hq;obtain ⟨t,rfl⟩:=ru;exact SeqAt.RcAt.str_str _ _ _ _
  |tup _=>unfold RW at hq;obtain ⟨a,xs,rfl,h2,_⟩:=hq;cases ru;obtain ⟨its,_,t,_⟩:=I.tuple h2;exact SeqAt.RcAt.str_tuple _ _ t hu'
  |lst _=>unfold RW at hq;obtain ⟨a,xs,rfl,h2,_⟩:=hq;cases ru;obtain ⟨its,_,t,_⟩:=I.list h2;exact SeqAt.RcAt.str_list _ _ t.isList hu'
  |ref _=>unfold RW at hq;exact hq.elim
  |dct=>unfold RW at hq;exact hq.elim
  |ty _=>unfold RW at hq;exact hq.elim
  |fn _=>unfold RW at hq;exact hq.elim
  |exc _ _=>unfold RW at hq;exact hq.elim
theorem Q4 (I:L2.Inv X pins σ H s) (p q:PV) {v u:V} {uv uu:Value} {A:Around} (hd:dep p=0) (hu':A.units < cLine) (hp:RW X.K H p v) (hq:RW X.K H q u) (rv:RelV v uv) (ru:RelV u uu):SeqAt.RcNeAt A s uv uu (!peq p q):=by
 cases p with
 |tup l=>unfold dep at hd;omega
 |lst l=>unfold dep at hd;omega
 |ref _=>unfold RW at hp;exact hp.elim
 |dct=>unfold RW at hp;exact hp.elim
 |ty _=>unfold RW at hp;exact hp.elim
 |fn _=>unfold RW at hp;exact hp.elim
 |exc _ _=>unfold RW at hp;exact hp.elim
 |non =>
  unfold RW at hp;subst hp;cases rv
  cases q with
  |non=>unfold RW at hq;subst hq;cases ru;exact SeqAt.RcNeAt.none_none
  |bl _=>unfold RW at hq;subst hq;cases ru;exact SeqAt.RcNeAt.none_bool _
  |int _=>unfold RW at hq;subst hq;obtain ⟨t,rfl⟩:=ru;exact SeqAt.RcNeAt.none_int _ _
  |str _=>unfold RW at hq;subst hq;obtain ⟨t,rfl⟩:=ru;exact SeqAt.RcNeAt.none_str _ _
  |tup _=>unfold RW at hq;obtain ⟨a,xs,rfl,h2,_⟩:=hq;cases ru;obtain ⟨its,_,t,_⟩:=I.tuple h2;exact SeqAt.RcNeAt.none_tuple t hu'
  |lst _=>unfold RW at hq;obtain ⟨a,xs,rfl,h2,_⟩:=hq;cases ru;obtain ⟨its,_,t,_⟩:=I.list h2;exact SeqAt.RcNeAt.none_list t.isList hu'
  |ref _=>unfold RW at hq;exact hq.elim
  |dct=>unfold RW at hq;exact hq.elim
  |ty _=>unfold RW at hq;exact hq.elim
  |fn _=>unfold RW at hq;exact hq.elim
  |exc _ _=>unfold RW at hq;exact hq.elim
 |bl x =>
  unfold RW at hp;subst hp;cases rv
  cases q with
  |non=>unfold RW at hq;subst hq;cases ru;exact SeqAt.RcNeAt.bool_none _
  |bl _=>unfold RW at hq;subst hq;cases ru;exact SeqAt.RcNeAt.bool_bool _ _
  |int _=>unfold RW at hq;subst hq;obtain ⟨t,rfl⟩:=ru;exact SeqAt.RcNeAt.bool_int _ _ _
  |str _=>unfold RW at hq;subst hq;obtain ⟨t,rfl⟩:=ru;exact SeqAt.RcNeAt.bool_str _ _ _
  |tup _=>unfold RW at hq;obtain ⟨a,xs,rfl,h2,_⟩:=hq;cases ru;obtain ⟨its,_,t,_⟩:=I.tuple h2;exact SeqAt.RcNeAt.bool_tuple _ t hu'
  |lst _=>unfold RW at hq;obtain ⟨a,xs,rfl,h2,_⟩:=hq;cases ru;obtain ⟨its,_,t,_⟩:=I.list h2;exact SeqAt.RcNeAt.bool_list _ t.isList hu'
  |ref _=>unfold RW at hq;exact hq.elim
  |dct=>unfold RW at hq;exact hq.elim
  |ty _=>unfold RW at hq;exact hq.elim
  |fn _=>unfold RW at hq;exact hq.elim
  |exc _ _=>unfold RW at hq;exact hq.elim
 |int x =>
  unfold RW at hp;subst hp;obtain ⟨t0,rfl⟩:=rv
  cases q with
  |non=>unfold RW at hq;subst hq;cases ru;exact SeqAt.RcNeAt.int_none _ _
  |bl _=>unfold RW at hq;subst hq;cases ru;exact SeqAt.RcNeAt.int_bool _ _ _
  |int _=>unfold RW at hq;subst hq;obtain ⟨t,rfl⟩:=ru;exact SeqAt.RcNeAt.int_int _ _ _ _
  |str _=>unfold RW at hq;subst hq;obtain ⟨t,rfl⟩:=ru;exact SeqAt.RcNeAt.int_str _ _ _ _
  |tup _=>unfold RW at hq;obtain ⟨a,xs,rfl,h2,_⟩:=hq;cases ru;obtain ⟨its,_,t,_⟩:=I.tuple h2;exact SeqAt.RcNeAt.int_tuple _ _ t hu'
  |lst _=>unfold RW at hq;obtain ⟨a,xs,rfl,h2,_⟩:=hq;cases ru;obtain ⟨its,_,t,_⟩:=I.list h2;exact SeqAt.RcNeAt.int_list _ _ t.isList hu'
  |ref _=>unfold RW at hq;exact hq.elim
  |dct=>unfold RW at hq;exact hq.elim
  |ty _=>unfold RW at hq;exact hq.elim
  |fn _=>unfold RW at hq;exact hq.elim
  |exc _ _=>unfold RW at hq;exact hq.elim
 |str x =>
  unfold RW at hp;subst hp;obtain ⟨t0,rfl⟩:=rv
  cases q with
  |non=>unfold RW at hq;subst hq;cases ru;exact SeqAt.RcNeAt.str_none _ _
  |bl _=>unfold RW at hq;subst hq;cases ru;exact SeqAt.RcNeAt.str_bool _ _ _
  |int _=>unfold RW at hq;subst hq;obtain ⟨t,rfl⟩:=ru;exact SeqAt.RcNeAt.str_int _ _ _ _
  |str _=>unfold RW at hq;subst hq;obtain ⟨t,rfl⟩:=ru;exact SeqAt.RcNeAt.str_str _ _ _ _
  |tup _=>unfold RW at hq;obtain ⟨a,xs,rfl,h2,_⟩:=hq;cases ru;obtain ⟨its,_,t,_⟩:=I.tuple h2;exact SeqAt.RcNeAt.str_tuple _ _ t hu'
  |lst _=>unfold RW at hq;obtain ⟨a,xs,rfl,h2,_⟩:=hq;cases ru;obtain ⟨its,_,t,_⟩:=I.list h2;exact SeqAt.RcNeAt.str_list _ _ t.isList hu'
  |ref _=>unfold RW at hq;exact hq.elim
  |dct=>unfold RW at hq;exact hq.elim
  |ty _=>unfold RW at hq;exact hq.elim
  |fn _=>unfold RW at hq;exact hq.elim
  |exc _ _=>unfold RW at hq;exact hq.elim
theorem qIT (I:L2.Inv X pins σ H s) (p q:PV) {v u:V} {uv uu:Value} {A:Around} (hu:A.units + (dep p + 1) < cLine) (hp:RW X.K H p v) (hq:RW X.K H q u) (rv:RelV v uv) (ru:RelV u uu):SeqAt.RcAt A s uv uu (peq p q):=by
 have hu':A.units < cLine:=CG (Bm _ _) hu
 have elt:∀ {n:Nat} {l m:List PV} {xs ys:List V} {its its2:List Value},A.in1.units + n < cLine->deps l≤n->RWs X.K H l xs->RWs X.K H m ys->Vals xs its->Vals ys its2 -> ∀ j (h1:j < its.toArray.size) (h2:j < its2.toArray.size),SeqAt.EqAt A.in1 s its.toArray[j] its2.toArray[j] (eqN l m j):=fun {n l m xs ys its its2} hin hdl hl hm vl vm j h1 h2=>by
  have e1:its[j]? = some its.toArray[j]:=by simp
  have e2:its2[j]? = some its2.toArray[j]:=by simp
  obtain ⟨x,hx,rx⟩:=Vals.get2 vl e1
  obtain ⟨y,hy,ry⟩:=Vals.get2 vm e2
  obtain ⟨p',hp',rp'⟩:=RWs.get' hl hx
  obtain ⟨q',hq',rq'⟩:=RWs.get' hm hy
  have:eqN l m j=peq p' q':=by unfold eqN;rw [hp',hq']
  rw [this]
  exact qAx I n p' q' x y _ _ A.in1 (Am (zG hp') hdl) hin rp' rq' rx ry
 cases p with
 |tup l =>
  have hp0:=hp
  unfold RW at hp
  obtain ⟨a,xs,rfl,h2,h3⟩:=hp
  cases rv
  obtain ⟨its,vl,tl,_⟩:=I.tuple h2
  unfold dep at hu
  cases q with
  |non=>unfold RW at hq;subst hq;cases ru;exact SeqAt.RcAt.tuple_none tl hu'
  |bl _=>unfold RW at hq;subst hq;cases ru;exact SeqAt.RcAt.tuple_bool _ tl hu'
  |int _=>unfold RW at hq;subst hq;obtain ⟨t,rfl⟩:=ru;exact SeqAt.RcAt.tuple_int _ _ tl hu'
  |str _=>unfold RW at hq;subst hq;obtain ⟨t,rfl⟩:=ru;exact SeqAt.RcAt.tuple_str _ _ tl hu'
  |lst _=>unfold RW at hq;obtain ⟨a,xs,rfl,h2,_⟩:=hq;cases ru;obtain ⟨its,_,t,_⟩:=I.list h2;exact SeqAt.RcAt.tuple_list tl t.isList hu'
  |ref _=>unfold RW at hq;exact hq.elim
  |dct=>unfold RW at hq;exact hq.elim
  |ty _=>unfold RW at hq;exact hq.elim
  |fn _=>unfold RW at hq;exact hq.elim
  |exc _ _=>unfold RW at hq;exact hq.elim
  |tup m =>
   unfold RW at hq
   obtain ⟨a2,ys,rfl,g2,g3⟩:=hq
   cases ru
   obtain ⟨its2,vm,tm,_⟩:=I.tuple g2
   have rc:=SeqAt.RcAt.tuples (e:=eqN l m) tl tm hu' (elt (n:=deps l) (by show A.units + 1 + deps l < cLine;omega) (AM _) h3 g3 vl vm)
   have hl1:its.toArray.size=l.length:=by rw [AV,← vl.length,h3.length]
   have hl2:its2.toArray.size=m.length:=by rw [AV,← vm.length,g3.length]
   rw [hl1,hl2] at rc
   have e:((List.range (min l.length m.length)).all (eqN l m)&&l.length==m.length)=peq (.tup l) (.tup m):=by
    unfold peq
    by_cases hlm:l.length=m.length
    ·rw [← hlm,Nat.min_self,W5 l m hlm,Aq,Bool.and_true]
    ·rw [WP l m hlm,Bu hlm,B2]
   rw [e] at rc
   exact rc
 |lst l =>
  have hp0:=hp
  unfold RW at hp
  obtain ⟨a,xs,rfl,h2,h3⟩:=hp
  cases rv
  obtain ⟨its,vl,tl',_⟩:=I.list h2
  have tl:=tl'.isList
  unfold dep at hu
  cases q with
  |non=>unfold RW at hq;subst hq;cases ru;exact SeqAt.RcAt.list_none tl hu'
  |bl _=>unfold RW at hq;subst hq;cases ru;exact SeqAt.RcAt.list_bool _ tl hu'
  |int _=>unfold RW at hq;subst hq;obtain ⟨t,rfl⟩:=ru;exact SeqAt.RcAt.list_int _ _ tl hu'
  |str _=>unfold RW at hq;subst hq;obtain ⟨t,rfl⟩:=ru;exact SeqAt.RcAt.list_str _ _ tl hu'
  |tup _=>unfold RW at hq;obtain ⟨a,xs,rfl,h2,_⟩:=hq;cases ru;obtain ⟨its,_,t,_⟩:=I.tuple h2;exact SeqAt.RcAt.list_tuple tl t hu'
  |ref _=>unfold RW at hq;exact hq.elim
  |dct=>unfold RW at hq;exact hq.elim
  |ty _=>unfold RW at hq;exact hq.elim
  |fn _=>unfold RW at hq;exact hq.elim
  |exc _ _=>unfold RW at hq;exact hq.elim
  |lst m =>
   unfold RW at hq
   obtain ⟨a2,ys,rfl,g2,g3⟩:=hq
   cases ru
   obtain ⟨its2,vm,tm',_⟩:=I.list g2
   have tm:=tm'.isList
   have hl1:its.toArray.size=l.length:=by rw [AV,← vl.length,h3.length]
   have hl2:its2.toArray.size=m.length:=by rw [AV,← vm.length,g3.length]
   unfold peq
   by_cases hlm:l.length=m.length
   ·have rc:=SeqAt.RcAt.lists (e:=eqN l m) tl tm (by rw [hl1,hl2,hlm]) hu' (elt (n:=deps l) (by show A.units + 1 + deps l < cLine;omega) (AM _) h3 g3 vl vm)
    rw [hl1,W5 l m hlm] at rc
    exact rc
   ·rw [WP l m hlm]
    exact SeqAt.RcAt.lists_lengths tl tm (by rw [hl1,hl2];exact bne_iff_ne.mpr hlm) hu'
 |non=>exact Q6 I _ q rfl hu' hp hq rv ru
 |bl _=>exact Q6 I _ q rfl hu' hp hq rv ru
 |int _=>exact Q6 I _ q rfl hu' hp hq rv ru
 |str _=>exact Q6 I _ q rfl hu' hp hq rv ru
 |ref _=>exact Q6 I _ q rfl hu' hp hq rv ru
 |dct=>exact Q6 I _ q rfl hu' hp hq rv ru
 |ty _=>exact Q6 I _ q rfl hu' hp hq rv ru
 |fn _=>exact Q6 I _ q rfl hu' hp hq rv ru
 |exc _ _=>exact Q6 I _ q rfl hu' hp hq rv ru
theorem qH4 (I:L2.Inv X pins σ H s) (p q:PV) {v u:V} {uv uu:Value} {A:Around} (hu:A.units + (dep p + 1) < cLine) (hp:RW X.K H p v) (hq:RW X.K H q u) (rv:RelV v uv) (ru:RelV u uu):SeqAt.RcNeAt A s uv uu (!peq p q):=by
 have hu':A.units < cLine:=CG (Bm _ _) hu
 have elt:∀ {n:Nat} {l m:List PV} {xs ys:List V} {its its2:List Value},A.in1.units + n < cLine->deps l≤n->RWs X.K H l xs->RWs X.K H m ys->Vals xs its->Vals ys its2 -> ∀ j (h1:j < its.toArray.size) (h2:j < its2.toArray.size),SeqAt.EqAt A.in1 s its.toArray[j] its2.toArray[j] (eqN l m j):=fun {n l m xs ys its its2} hin hdl hl hm vl vm j h1 h2=>by
  have e1:its[j]? = some its.toArray[j]:=by simp
  have e2:its2[j]? = some its2.toArray[j]:=by simp
  obtain ⟨x,hx,rx⟩:=Vals.get2 vl e1
  obtain ⟨y,hy,ry⟩:=Vals.get2 vm e2
  obtain ⟨p',hp',rp'⟩:=RWs.get' hl hx
  obtain ⟨q',hq',rq'⟩:=RWs.get' hm hy
  have:eqN l m j=peq p' q':=by unfold eqN;rw [hp',hq']
  rw [this]
  exact qAx I n p' q' x y _ _ A.in1 (Am (zG hp') hdl) hin rp' rq' rx ry
 cases p with
 |tup l =>
  have hp0:=hp
  unfold RW at hp
  obtain ⟨a,xs,rfl,h2,h3⟩:=hp
  cases rv
  obtain ⟨its,vl,tl,_⟩:=I.tuple h2
  unfold dep at hu
  cases q with
  |non=>unfold RW at hq;subst hq;cases ru;exact SeqAt.RcNeAt.tuple_none tl hu'
  |bl _=>unfold RW at hq;subst hq;cases ru;exact SeqAt.RcNeAt.tuple_bool _ tl hu'
  |int _=>unfold RW at hq;subst hq;obtain ⟨t,rfl⟩:=ru;exact SeqAt.RcNeAt.tuple_int _ _ tl hu'
  |str _=>unfold RW at hq;subst hq;obtain ⟨t,rfl⟩:=ru;exact SeqAt.RcNeAt.tuple_str _ _ tl hu'
  |lst _=>unfold RW at hq;obtain ⟨a,xs,rfl,h2,_⟩:=hq;cases ru;obtain ⟨its,_,t,_⟩:=I.list h2;exact SeqAt.RcNeAt.tuple_list tl t.isList hu'
  |ref _=>unfold RW at hq;exact hq.elim
  |dct=>unfold RW at hq;exact hq.elim
  |ty _=>unfold RW at hq;exact hq.elim
  |fn _=>unfold RW at hq;exact hq.elim
  |exc _ _=>unfold RW at hq;exact hq.elim
  |tup m =>
   unfold RW at hq
   obtain ⟨a2,ys,rfl,g2,g3⟩:=hq
   cases ru
   obtain ⟨its2,vm,tm,_⟩:=I.tuple g2
   have rc:=SeqAt.RcNeAt.tuples (e:=eqN l m) tl tm hu' (elt (n:=deps l) (by show A.units + 1 + deps l < cLine;omega) (AM _) h3 g3 vl vm)
   have hl1:its.toArray.size=l.length:=by rw [AV,← vl.length,h3.length]
   have hl2:its2.toArray.size=m.length:=by rw [AV,← vm.length,g3.length]
   rw [hl1,hl2] at rc
   have e:((List.range (min l.length m.length)).all (eqN l m)&&l.length==m.length)=peq (.tup l) (.tup m):=by
    unfold peq
    by_cases hlm:l.length=m.length
    ·rw [← hlm,Nat.min_self,W5 l m hlm,Aq,Bool.and_true]
    ·rw [WP l m hlm,Bu hlm,B2]
   rw [e] at rc
   exact rc
 |lst l =>
  have hp0:=hp
  unfold RW at hp
  obtain ⟨a,xs,rfl,h2,h3⟩:=hp
  cases rv
  obtain ⟨its,vl,tl',_⟩:=I.list h2
  have tl:=tl'.isList
  unfold dep at hu
  cases q with
  |non=>unfold RW at hq;subst hq;cases ru;exact SeqAt.RcNeAt.list_none tl hu'
  |bl _=>unfold RW at hq;subst hq;cases ru;exact SeqAt.RcNeAt.list_bool _ tl hu'
  |int _=>unfold RW at hq;subst hq;obtain ⟨t,rfl⟩:=ru;exact SeqAt.RcNeAt.list_int _ _ tl hu'
  |str _=>unfold RW at hq;subst hq;obtain ⟨t,rfl⟩:=ru;exact SeqAt.RcNeAt.list_str _ _ tl hu'
  |tup _=>unfold RW at hq;obtain ⟨a,xs,rfl,h2,_⟩:=hq;cases ru;obtain ⟨its,_,t,_⟩:=I.tuple h2;exact SeqAt.RcNeAt.list_tuple tl t hu'
  |ref _=>unfold RW at hq;exact hq.elim
  |dct=>unfold RW at hq;exact hq.elim
  |ty _=>unfold RW at hq;exact hq.elim
  |fn _=>unfold RW at hq;exact hq.elim
  |exc _ _=>unfold RW at hq;exact hq.elim
  |lst m =>
   unfold RW at hq
   obtain ⟨a2,ys,rfl,g2,g3⟩:=hq
   cases ru
   obtain ⟨its2,vm,tm',_⟩:=I.list g2
   have tm:=tm'.isList
   have hl1:its.toArray.size=l.length:=by rw [AV,← vl.length,h3.length]
   have hl2:its2.toArray.size=m.length:=by rw [AV,← vm.length,g3.length]
   unfold peq
   by_cases hlm:l.length=m.length
   ·have rc:=SeqAt.RcNeAt.lists (e:=eqN l m) tl tm (by rw [hl1,hl2,hlm]) hu' (elt (n:=deps l) (by show A.units + 1 + deps l < cLine;omega) (AM _) h3 g3 vl vm)
    rw [hl1,W5 l m hlm] at rc
    exact rc
   ·rw [WP l m hlm]
    exact SeqAt.RcNeAt.lists_lengths tl tm (by rw [hl1,hl2];exact bne_iff_ne.mpr hlm) hu'
 |non=>exact Q4 I _ q rfl hu' hp hq rv ru
 |bl _=>exact Q4 I _ q rfl hu' hp hq rv ru
 |int _=>exact Q4 I _ q rfl hu' hp hq rv ru
 |str _=>exact Q4 I _ q rfl hu' hp hq rv ru
 |ref _=>exact Q4 I _ q rfl hu' hp hq rv ru
 |dct=>exact Q4 I _ q rfl hu' hp hq rv ru
 |ty _=>exact Q4 I _ q rfl hu' hp hq rv ru
 |fn _=>exact Q4 I _ q rfl hu' hp hq rv ru
 |exc _ _=>exact Q4 I _ q rfl hu' hp hq rv ru
end
def res (st:qC) (p:PV):PV:=match asL st p with
 |some l => .lst l
 |none=>p
theorem zY {K:W.Frag} {H:Hp} {b:Bz} {st:qC} {p:PV} {v:V} (S:SR K H b st) (r:RV K H b p v) (h:nr (res st p)=true):RW K H (res st p) v:=by
 unfold res at h ⊢
 cases e:asL st p with
 |none=>rw [e] at h;exact RV.rw p h r
 |some l =>
  rw [e] at h
  obtain ⟨a,xs,rfl,h2,h3⟩:=Qj S r e
  dsimp only at h ⊢
  unfold nr at h
  unfold RW
  exact ⟨a,xs,rfl,h2,RVs.rws l h h3⟩
abbrev yq:Nat:=60
def zC (p q:PV):Bool:=nr p&&nr q&&decide (dep p≤yq)
def gEq:PV->PV->qC->Rs PV:=fun p q st=>if zC (res st p) (res st q)=true then .ok (.bl (peq (res st p) (res st q))) st else .no
def gNe:PV->PV->qC->Rs PV:=fun p q st=>if zC (res st p) (res st q)=true then .ok (.bl (!peq (res st p) (res st q))) st else .no
section
variable {X:Cx} {E:XK} {e a c d:Expr} {es:List Expr} {f fa fb fc:FE} {pos:Pos}
def qCh (K:W.Frag) (neg:Bool):R2:=fun u v H Q => ∃ p q,RW K H p u∧RW K H q v∧dep p≤yq∧Q (.bl (if neg then !peq p q else peq p q)) H
theorem W0 (hr:X.A.units + 64 < cLine):OpR X (compareOp .Eq) (qCh X.K false):=by
 intro pins s σ H x y v u Q I rx ry h
 obtain ⟨p,q,hp,hq,hd,h⟩:=h
 exact qIT I p q (by have:dep p≤60:=hd;omega) hp hq rx ry _ _ _ _ ⟨.bl _,H,I,rfl,h⟩
theorem wu (hr:X.A.units + 64 < cLine):OpR X (compareOp .NotEq) (qCh X.K true):=by
 intro pins s σ H x y v u Q I rx ry h
 obtain ⟨p,q,hp,hq,hd,h⟩:=h
 exact qH4 I p q (by have:dep p≤60:=hd;omega) hp hq rx ry _ _ _ _ ⟨.bl _,H,I,rfl,h⟩
theorem ZD {p q:PV} (h:zC p q=true):nr p=true∧nr q=true∧dep p≤yq:=by
 unfold zC at h
 rw [Ay,Ay] at h
 exact ⟨h.1.1,h.1.2,BC h.2⟩
theorem Zn:OpG X E (qCh X.K false) gEq:=by
 intro H b st p q u v Q S rp rq P
 unfold gEq at P
 split at P
 ·rename_i h
  obtain ⟨h1,h2,h3⟩:=ZD h
  exact ⟨_,_,zY S rp h1,zY S rq h2,h3,PostE.here P S WM⟩
 ·exact P.elim
theorem W9:OpG X E (qCh X.K true) gNe:=by
 intro H b st p q u v Q S rp rq P
 unfold gNe at P
 split at P
 ·rename_i h
  obtain ⟨h1,h2,h3⟩:=ZD h
  exact ⟨_,_,zY S rp h1,zY S rq h2,h3,PostE.here P S WM⟩
 ·exact P.elim
theorem qCu (hr:X.A.units + 64 < cLine) (ha:VE X E a fa) (hb:VE X E c fb):VE X E (.Compare a [.Eq] [c] pos) (qG gEq fa fb):=yf (W0 hr) Zn ha hb
def pin (x:PV):List PV->Bool
 |[]=>false
 |y::ys=>peq y x || pin x ys
def gIn (neg:Bool):PV->PV->qC->Rs PV:=fun p q st=>match zg st q with
 |some l=>if nrs l=true∧nr (res st p)=true∧deps l≤yq then .ok (.bl (if neg then !pin (res st p) l else pin (res st p) l)) st else .no
 |none => .no
def qHM (K:W.Frag) (neg:Bool):R2:=fun u v H Q => ∃ p l a xs,v = .ref a∧(SqL K H a xs∨SqT K H a xs)∧RW K H p u∧RWs K H l xs∧deps l≤yq∧Q (.bl (if neg then !pin p l else pin p l)) H
theorem Z1 {X:Cx} {pins:List (Addr×Obj)} {σ:L2.St} {H:Hp} {s:Shared} (I:L2.Inv X pins σ H s) {A:Around} {p:PV} {u:V} {uu:Value} (hp:RW X.K H p u) (ru:RelV u uu) (hA:A.units + 60 < cLine)
  {l:List PV} {xs:List V} {its:List Value} (hl:RWs X.K H l xs) (vl:Vals xs its) (hd:deps l≤yq):∃ g:Value->Bool,(∀ y∈its,SeqAt.EqAt A s y uu (g y))∧its.any g=pin p l:=by
 classical
 have key:∀ (q:PV) (x:V) (y:Value),RW X.K H q x->RelV x y->decide (∃ q x,RW X.K H q x∧RelV x y∧peq q p=true)=peq q p:=fun q x y h1 h2=>by
  by_cases hb:peq q p=true
  ·rw [hb];exact AS ⟨q,x,h1,h2,hb⟩
  ·rw [show peq q p=false by simpa using hb]
   refine Aa fun ⟨q',x',k1,k2,k3⟩=>hb ?_
   have ex:x'=x:=k2.inj h2
   subst ex
   rw [RW.det I q q' h1 k1];exact k3
 refine ⟨fun y=>decide (∃ q x,RW X.K H q x∧RelV x y∧peq q p=true),fun y hy => ?_,?_⟩
 ·obtain ⟨i,hi⟩:=BL hy
  obtain ⟨x,hx,rx⟩:=Vals.get2 vl hi
  obtain ⟨q,hq,rq⟩:=RWs.get' hl hx
  dsimp only
  rw [key q x y rq rx]
  exact qAx I 60 q p x u y uu A (Am (zG hq) hd) hA rq hp rx ru
 ·have go:∀ (l:List PV) (xs:List V) (its:List Value),RWs X.K H l xs->Vals xs its->its.any (fun y=>decide (∃ q x,RW X.K H q x∧RelV x y∧peq q p=true))=pin p l:=by
   intro l
   induction l with
   |nil=>intro xs its h v;unfold RWs at h;subst h;cases v;rfl
   |cons q qs ih =>
    intro xs its h v
    unfold RWs at h
    obtain ⟨x,r,rfl,h2,h3⟩:=h
    cases v with
    |cons rv vr =>
     rw [List.any_cons,key q x _ h2 rv,ih _ _ h3 vr]
     rfl
  exact go l xs its hl vl
theorem qDh (hr:X.A.units + 64 < cLine):OpR X (compareOp .In) (qHM X.K false):=by
 intro pins s σ H x y v u Q I rx ry h
 obtain ⟨p,l,a,xs,rfl,hs,hp,hl,hd,h⟩:=h
 cases ry
 have hA:X.A.in1.units + 60 < cLine:=by show X.A.units + 1 + 60 < cLine;omega
 rcases hs with hs |hs
 ·obtain ⟨its,vl,t,_⟩:=I.list hs
  obtain ⟨g,h1,h2⟩:=Z1 I hp rx hA hl vl hd
  exact SeqAt.in_listAt g t.isList (fun y hy=>h1 y (by simpa using hy)) ⟨.bl _,H,I,by show _=_;rw [List.any_toArray,h2];rfl,h⟩
 ·obtain ⟨its,vl,t,_⟩:=I.tuple hs
  obtain ⟨g,h1,h2⟩:=Z1 I hp rx hA hl vl hd
  exact SeqAt.in_tupleAt g t (fun y hy=>h1 y (by simpa using hy)) ⟨.bl _,H,I,by show _=_;rw [List.any_toArray,h2];rfl,h⟩
theorem qB3 (hr:X.A.units + 64 < cLine):OpR X (compareOp .NotIn) (qHM X.K true):=by
 intro pins s σ H x y v u Q I rx ry h
 obtain ⟨p,l,a,xs,rfl,hs,hp,hl,hd,h⟩:=h
 cases ry
 have hA:X.A.in1.units + 60 < cLine:=by show X.A.units + 1 + 60 < cLine;omega
 rcases hs with hs |hs
 ·obtain ⟨its,vl,t,_⟩:=I.list hs
  obtain ⟨g,h1,h2⟩:=Z1 I hp rx hA hl vl hd
  exact SeqAt.notIn_listAt g t.isList (fun y hy=>h1 y (by simpa using hy)) ⟨.bl _,H,I,by show _=_;rw [List.any_toArray,h2];rfl,h⟩
 ·obtain ⟨its,vl,t,_⟩:=I.tuple hs
  obtain ⟨g,h1,h2⟩:=Z1 I hp rx hA hl vl hd
  exact SeqAt.notIn_tupleAt g t (fun y hy=>h1 y (by simpa using hy)) ⟨.bl _,H,I,by show _=_;rw [List.any_toArray,h2];rfl,h⟩
theorem qCr {neg:Bool}:OpG X E (qHM X.K neg) (gIn neg):=by
 intro H b st p q u v Q S rp rq P
 unfold gIn at P
 split at P
 ·rename_i l el
  split at P
  ·rename_i hh
   obtain ⟨h1,h2,h3⟩:=hh
   obtain ⟨a,xs,rfl,k2,k3⟩:=Z3 S rq el
   exact ⟨_,l,a,xs,rfl,k2,zY S rp h2,RVs.rws l h1 k3,h3,PostE.here P S WM⟩
  ·exact P.elim
 ·exact P.elim
theorem qIL (hr:X.A.units + 64 < cLine) (ha:VE X E a fa) (hb:VE X E c fb) (hm:behindInMarks .In c=false:=by with_unfolding_all rfl):VE X E (.Compare a [.In] [c] pos) (qG (gIn false) fa fb):=yf (qDh hr) qCr ha hb hm
end
end EV
end
section
namespace EV
open PySem PySem.Spec PyProof.Rows L2 EX
section
variable {X:Cx} {E:XK} {e a c d:Expr} {es:List Expr} {f fa fb fc:FE} {pos:Pos} {F G:FS}
def qGd:FS:=fun _ _ => .no
theorem qF7 {st:Stmt}:VS X E st qGd:=PS.imp qDB fun D s H ⟨b,r,st,S,R,P⟩=>P.elim
def tyP:PV->Option Value
 | .non=>some (.type "NoneType")
 | .bl _=>some (.type "bool")
 | .int _=>some (.type "int")
 | .str _=>some (.type "str")
 | .tup _=>some (.type "tuple")
 | .lst _=>some (.type "list")
 | .ref _=>some (.type "list")
 | .dct=>some (.type "dict")
 | .exc c _=>some (.ref c)
 |_=>none
def clP:PV->Option Value
 | .ty n=>some (.type n)
 | .fn a=>some (.ref a)
 |_=>none
def qCG (kit:Value->Value->Option Bool) (p c:PV):Option Bool:=match tyP p,clP c with
 |some t,some c=>kit t c
 |_,_=>none
def Jd (kit:Value->Value->Option Bool) (p:PV):List PV->Option Bool
 |[]=>some false
 |c::r=>match qCG kit p c with
  |some true=>some true
  |some false=>Jd kit p r
  |none=>none
def qId (kit:Value->Value->Option Bool) (p:PV):PV->Option Bool
 | .tup cs=>if (tyP p).isSome then Jd kit p cs else none
 |c=>qCG kit p c
structure KitOk (K:W.Frag) (kit:Value->Value->Option Bool):Prop where
 one:∀ t c b,kit t c=some b->W.kitOne K t c=some b
 exc:∀ a c b,kit (.ref a) c=some b->ExcK K a
end
end EV
end
section
namespace EX
open PySem PySem.Spec PyProof.Rows L2
def Itz (K:W.Frag) (l1 l2:Addr):It :=
 ⟨fun i H => ∃ xs ys x y,SqL K H l1 xs∧SqL K H l2 ys∧xs[i]? = some x∧ys[i]? = some y,
  fun i H v H' => ∃ T x y,H T=none∧v = .ref T∧H'=upd H T (.tup [x,y]) ∧ ∀ xs ys,SqL K H l1 xs->SqL K H l2 ys->xs[i]? = some x∧ys[i]? = some y,
  fun i H => ∃ xs ys,SqL K H l1 xs∧SqL K H l2 ys∧(xs.length≤i∨ys.length≤i)⟩
def qFo (z TI TO i1 i2 l1 l2:Addr) (i:Nat) (h:Heap):Prop:=IsZip h z TI TO .none∧IsPair h TI (.ref i1) (.ref i2)∧(∃ a b,IsPair h TO a b)∧h.IsListIter i1 l1 i∧h.IsListIter i2 l2 i
theorem qEV {X:Cx} {pins:List (Addr×Obj)} {σ:L2.St} {H:Hp} {s:Shared} (I:L2.Inv X pins σ H s) {fp:List Addr} (hf:∀ b∈fp,z8 X pins H b) {h':Heap} {t':Nat} {x y:V} {u v:Value} (rx:RelV x u) (ry:RelV y v)
  (k:∀ b o,b ∉ fp->s.heap.get? b=some o->h'.get? b=some o) (kf:∀ b∈fp,∃ o,h'.get? b=some o) (hT:IsPair h' s.heap.objs.size u v):L2.Inv X pins σ (upd H s.heap.objs.size (.tup [x,y])) { s with heap:=h',toks:=t' }:=by
 have hn:H s.heap.objs.size=none:=I.hok.fresh (AM _)
 have nt:∀ b o,s.heap.get? b=some o->b≠s.heap.objs.size:=fun b o e=>AX (AK e)
 have nf:∀ b u,H b=some u->b ∉ fp:=fun b u e z=>by rw [(hf b z).1] at e;cases e
 have un:Un (frs X.stack) fp H (upd H s.heap.objs.size (.tup [x,y])) s.heap h' :=
  ⟨fun b o e _ _ hb=>k b o hb e,fun b o e _ _ hb=>⟨o.slots,k b o hb e⟩,fun b o e n _=>by rw [qV (nt b o e)];exact n,fun b o e hb=>⟨o,k b o hb e⟩,fun b xs e=>by rw [qV (qM e hn)];exact e,fun b o u e=>by rw [qV (qM e hn)];exact e,fun b ps e=>⟨#[],by rw [qV (qM e hn),e];simp⟩⟩
 refine I.call (g':=s.gens) (d':=s.drawn) (t':=t') (ch:=fp) un (fun b u' e => ?_) I.bare fun b hb=>⟨(hf b hb).2.2.2.1,(hf b hb).2.1,(hf b hb).2.2.2.2.1,(hf b hb).2.2.2.2.2⟩
 by_cases hb:b=s.heap.objs.size
 ·subst hb
  rw [Qk] at e;cases e
  exact ⟨by show 2≤sizeLine;decide,[u,v],.cons rx (.cons ry .nil),_,hT,rfl,0,rfl⟩
 ·rw [qV hb] at e
  refine (I.hok b u' e).stay (fun c w hc q=>k c w ?_ q) (fun c q=>by rw [qV (qM q hn)];exact q) fun c xs q=>by rw [qV (qM q hn)];exact q
  rcases hc with rfl |hc
  ·exact nf _ _ e
  ·exact nf _ _ hc
theorem qDc {P:Program} {w:World} {K:W.Frag} {A:Around} {elts:List Expr} {n:Nat} {pos:Pos} (hA:A.handled=none) (z TI TO i1 i2 l1 l2:Addr) (D:ZipApart z TI TO i1 i2 l1 l2) :
  Turn P w K A (.Tuple elts n pos) (Itz K l1 l2) [z,TI,TO,i1,i2] z (qFo z TI TO i1 i2 l1 l2) where
 mem:=by simp
 obj:=fun i h st b hb=>by
  obtain ⟨a1,a2,⟨a,c,a3⟩,⟨o4,a4,c4,d4⟩,⟨o5,a5,c5,d5⟩⟩:=st
  simp only [AL,Al,or_false] at hb
  rcases hb with rfl |rfl |rfl |rfl |rfl
  ·exact ⟨_,a1,fun v q=>by cases (show Data.fields _=Data.cell v from q)⟩
  ·exact ⟨_,a2,fun v q=>by cases (show Data.seq _ _=Data.cell v from q)⟩
  ·exact ⟨_,a3,fun v q=>by cases (show Data.seq _ _=Data.cell v from q)⟩
  ·exact ⟨_,a4,fun v q=>by rw [d4] at q;cases q⟩
  ·exact ⟨_,a5,fun v q=>by rw [d5] at q;cases q⟩
 keep:=fun i h h' st k=>by
  obtain ⟨a1,a2,⟨a,c,a3⟩,a4,a5⟩:=st
  exact ⟨k z (by simp) _ a1,k TI (by simp) _ a2,⟨a,c,k TO (by simp) _ a3⟩,a4.at fun o e=>k i1 (by simp) o e,a5.at fun o e=>k i2 (by simp) o e⟩
 item:=by
  intro X hP hw hK hA' i pins s σ H E I hf st hg
  subst hP hw hK
  obtain ⟨xs,ys,x,y,q1,q2,e1,e2⟩:=hg
  obtain ⟨a1,a2,⟨a,c,a3⟩,a4,a5⟩:=st
  obtain ⟨us,r1,p1,_⟩:=I.list q1
  obtain ⟨vs,r2,p2,_⟩:=I.list q2
  obtain ⟨u,g1,ru⟩:=r1.get e1
  obtain ⟨v,g2,rv⟩:=r2.get e2
  refine wpAny_pyNext_zip_item D a1 a2 a3 a4 a5 p1.isList p2.isList (x:=u) (y:=v) (by simpa using g1) (by simpa using g2) fun h' z1 z2 z3 z4 z5 z6 z7=>⟨_,rfl,?_⟩
  refine wpAny_letOwnedTupleGo_zip (s:={ s with heap:=h' }) z1 fun h2 y1 y2 => ?_
  have nz:s.heap.objs.size≠z:=Nat.ne_of_gt (AK a1)
  have oth:∀ b,b≠z->h2.get? b=h'.get? b:=fun b hb=>y2.2 b hb
  have tz:qFo z TI TO i1 i2 l1 l2 (i + 1) h2:=⟨y1,(oth TI D.TIz).trans (z7 TI _ D.TIz D.TITO D.TIi1 D.TIi2 a2),⟨u,v,(oth TO D.TOz).trans z2⟩,z3.at fun o e=>(oth i1 D.i1z).trans e,z4.at fun o e=>(oth i2 D.i2z).trans e⟩
  have hT:IsPair h2 s.heap.objs.size u v:=(oth _ nz).trans z5
  have I2:=qEV (t':=s.toks) (h':=h2) I hf ru rv (fun b o hb e=>(oth b fun q=>hb (by simp [q])).trans (z7 b o (fun q=>hb (by simp [q])) (fun q=>hb (by simp [q])) (fun q=>hb (by simp [q])) (fun q=>hb (by simp [q])) e)) (fun b hb=>by
   obtain ⟨b1,b2,⟨a',c',b3⟩,⟨o4,b4,_⟩,⟨o5,b5,_⟩⟩:=tz
   simp only [AL,Al,or_false] at hb
   rcases hb with rfl |rfl |rfl |rfl |rfl
   ·exact ⟨_,b1⟩
   ·exact ⟨_,b2⟩
   ·exact ⟨_,b3⟩
   ·exact ⟨_,b4⟩
   ·exact ⟨_,b5⟩) hT
  refine ⟨.ref s.heap.objs.size,_,I2,rfl,⟨_,x,y,I.hok.fresh (AM _),rfl,rfl,fun xs' ys' h1 h2 => ?_⟩,tz,fun b hb => ?_⟩
  ·rw [I.list_inj h1 q1,I.list_inj h2 q2];exact ⟨e1,e2⟩
  ·have:=(hf b hb).1
   have ne:b≠s.heap.objs.size:=by
    simp only [AL,Al,or_false] at hb
    obtain ⟨o4,b4,_⟩:=a4
    obtain ⟨o5,b5,_⟩:=a5
    rcases hb with rfl |rfl |rfl |rfl |rfl
    ·exact AX (AK a1)
    ·exact AX (AK a2)
    ·exact AX (AK a3)
    ·exact AX (AK b4)
    ·exact AX (AK b5)
   rw [qV ne];exact this
 done:=by
  intro X hP hw hK hA' i pins s σ H E I hf st hg
  subst hP hw hK
  obtain ⟨xs,ys,q1,q2,e1⟩:=hg
  obtain ⟨a1,a2,⟨a,c,a3⟩,a4,a5⟩:=st
  obtain ⟨us,r1,p1,_⟩:=I.list q1
  obtain ⟨vs,r2,p2,_⟩:=I.list q2
  have n1:=r1.length
  have n2:=r2.length
  refine wpAny_pyNext_zip_end (by rw [hA'];exact hA) D a1 a2 a3 a4 a5 p1.isList p2.isList (e1.imp (fun q=>by simp;omega) fun q=>by simp;omega) fun h' k=>⟨rfl,?_⟩
  have nf:∀ b u,H b=some u->b ∉ [z,TI,TO,i1,i2]:=fun b u e q=>by rw [(hf b q).1] at e;cases e
  have kk:∀ b o,b ∉ [z,TI,TO,i1,i2]->s.heap.get? b=some o->h'.get? b=some o:=fun b o hb e=>k b o (fun q=>hb (by simp [q])) (fun q=>hb (by simp [q])) (fun q=>hb (by simp [q])) (fun q=>hb (by simp [q])) e
  exact I.call (g':=s.gens) (d':=s.drawn) (t':=s.toks) (ch:=[z,TI,TO,i1,i2]) ⟨fun b o e _ _ hb=>kk b o hb e,fun b o e _ _ hb=>⟨o.slots,kk b o hb e⟩,fun b o e n _=>n,fun b o e hb=>⟨o,kk b o hb e⟩,fun b xs e=>e,fun b o u e=>e,fun b ps e=>⟨#[],by rw [e];simp⟩⟩
   (fun b u' e=>(I.hok b u' e).stay (fun c w hc q=>kk c w (hc.elim (fun z=>by rw [z];exact nf _ _ e) fun z=>nf _ _ z) q) (fun c q=>q) fun c xs q=>q) I.bare fun b hb=>⟨(hf b hb).2.2.2.1,(hf b hb).2.1,(hf b hb).2.2.2.2.1,(hf b hb).2.2.2.2.2⟩
 self:=fun _ _ _ _ _ st h=>wpAny_pyIter_zip st.1 h
section
variable {X:Cx} {a b:Expr} {ta:TA} {p pos:Pos} {elts:List Expr} {n:Nat} {tpos:Pos}
def qJN (K:W.Frag) (ta:TA):TI:=fun σ H R=>ta σ H fun vs H1 => ∃ l1 l2,vs=[.ref l1,.ref l2]∧(∃ xs,SqL K H1 l1 xs)∧(∃ ys,SqL K H1 l2 ys)∧R (Itz K l1 l2) H1
theorem qHU (hc:X.calm=true) (hg:Gl X "zip") (hm:X.mg "zip" = none) (ha:PA X [a,b] ta) (he:starEach [a,b] X.env=(false,eval a X.env)::starEach [b] X.env:=by rfl) (hpl:(backTo pos (starEach [b] X.env)).any (·.1)=false:=by rfl) :
  PI X (.Tuple elts n tpos) (.Call (.Name "zip" p) [a,b] [] pos) (qJN X.K ta):=by
 intro pins s σ H R I h
 refine BI (WC I hg hm PyProof.Rows.boot_zip ?_)
 refine BH (thn (ha pos pins s σ H _ I h) fun us s1 ⟨vs,H1,I1,r1,q1⟩ => ?_) he hpl
 obtain ⟨l1,l2,rfl,⟨xs,h1⟩,⟨ys,h2⟩,q⟩:=q1
 obtain ⟨u,v,rfl,ru,rv⟩:=qA6 r1
 cases ru
 cases rv
 obtain ⟨ts,r1,p1,_⟩:=I1.list h1
 obtain ⟨ws,r2,p2,_⟩:=I1.list h2
 refine call_zip_2 p1.isList p2.isList fun h' b1 b2 b3 b4 b5 b6 b7 => ?_
 refine wpAny_pyIter_zip b1 ?_
 have lt1:l1 < s1.heap.objs.size:=by obtain ⟨_,e,_⟩:=p1.isList;exact AK e
 have lt2:l2 < s1.heap.objs.size:=by obtain ⟨_,e,_⟩:=p2.isList;exact AK e
 have I2:L2.Inv X pins σ H1 { s1 with heap:=h' }:=I1.kept (t':=s1.toks) b7
 refine ⟨_,_,_,_,H1,rfl,I2,qDc (I1.ok.hd hc) _ _ _ _ _ _ _ (PyProof.Rows.zipApart_new lt1 lt2),⟨b1,b2,⟨_,_,b3⟩,b4,b5⟩,fun c hc' => ?_,q⟩
 have hle:s1.heap.objs.size≤c:=by
  simp only [AL,Al,or_false] at hc'
  rcases hc' with rfl |rfl |rfl |rfl |rfl
  ·exact Bm _ _
  ·exact Bm _ _
  ·exact Bm _ _
  ·exact AM _
  ·exact Bm _ _
 exact I1.fpOk hle (I1.hok.fresh hle)
end
section
variable {X:Cx}
def qIW (K:W.Frag):R2:=fun x y H Q => ∃ l b xs zs,x = .ref l∧y = .ref b∧SqL K H l xs∧SqL K H b zs∧xs.length + zs.length≤sizeLine ∧ ∀ p,H p=none->Q (.ref p) (upd H p (.lst (xs++zs)))
theorem qFU:OpR X (binaryOp .Add) (qIW X.K):=by
 intro pins s σ H x y v u Q I rx ry h
 obtain ⟨l,b,xs,zs,rfl,rfl,h1,h2,hz,q⟩:=h
 cases rx
 cases ry
 obtain ⟨us,r1,p1,_⟩:=I.list h1
 obtain ⟨ws,r2,p2,_⟩:=I.list h2
 obtain ⟨⟨c1,d1,a1,s1⟩,o1,e1,m1,f1⟩:=id p1.isList
 obtain ⟨⟨c2,d2,a2,s2⟩,o2,e2,m2,f2⟩:=id p2.isList
 have e1:c1=_:=e1
 have e2:c2=_:=e2
 have f1:a1=_:=f1
 have f2:a2=_:=f2
 subst e1;subst e2;subst f1;subst f2
 have z:us.length + ws.length≤sizeLine:=by rw [← r1.length,← r2.length];exact hz
 refine concat_meets ⟨_,o1,rfl⟩ ⟨_,o2,rfl⟩ noFill_list_add seq_list_add F.slot_list_add F.entry_list_add (F.args_list_add_2 _ _) (list_addW l b us.toArray ws.toArray m1 m2 d1 d2 s1 s2 (by simpa using z)) ⟨o1,o2,?_⟩
 rw [show us.toArray++ws.toArray=(us++ws).toArray by simp]
 exact ⟨.ref _,_,I.lnew (t':=s.toks) (r1.append r2) (by rw [AY];exact hz),rfl,q _ I.fresh⟩
end
end EX
end
section
namespace EV
open PySem PySem.Spec PyProof.Rows L2 EX
section
variable {X:Cx} {E:XK} {e a c d:Expr} {es:List Expr} {f fa fb fc:FE} {pos:Pos} {F G:FS}
theorem jk {x:Str} {n:String} {pos:Pos} (hg:Gl X x) (hm:X.mg x=none) (hv:bootBuiltins x=some (.type n)) (hn:x ≠ "__name__" := by decide) (hd:(x==("__debug__":Str))=false:=by decide):VE X E (.Name x pos) (vC (.ty n)) :=
 qCl (qFI (v := .ty n) hg hm hv rfl hn hd) fun _ _=>by unfold RV;rfl
def lk (st:qC):PV->Bool
 | .ref i=>match st[i]? with
  |some (.l _)=>true
  |_=>false
 |_=>true
theorem qEA {kit:Value->Value->Option Bool} (hk:KitOk X.K kit) {pins:List (Addr×Obj)} {σ:L2.St} {H:Hp} {s:Shared} (I:L2.Inv X pins σ H s) {b:Bz} {st:qC} (S:SR X.K H b st) {p:PV} {v:V} {u t:Value} (r:RV X.K H b p v) (ru:RelV v u) (ht:tyP p=some t) (hlk:lk st p=true) (hx:∀ a,t = .ref a->ExcK X.K a) :
  ∃ Hh,W.KitX X.K u t Hh∧Hh s.heap∧u ≠ .builtin "__main__.__loader__#opaque" := by
 cases p with
 |non=>unfold RV at r;subst r;cases ht;cases (show u=Value.none from ru);exact ⟨_,W.kitx_none,trivial,fun z=>nomatch z⟩
 |bl x=>unfold RV at r;subst r;cases ht;cases (show u=Value.bool x from ru);exact ⟨_,W.kitx_bool,trivial,fun z=>nomatch z⟩
 |int x=>unfold RV at r;subst r;cases ht;obtain ⟨t,rfl⟩:=(show ∃ t,u=Value.int x t from ru);exact ⟨_,W.kitx_int,trivial,fun z=>nomatch z⟩
 |str x=>unfold RV at r;subst r;cases ht;obtain ⟨t,rfl⟩:=(show ∃ t,u=Value.str x t from ru);exact ⟨_,W.kitx_str,trivial,fun z=>nomatch z⟩
 |tup l =>
  unfold RV at r
  obtain ⟨a,xs,rfl,h2,h3⟩:=r
  cases ht
  cases (show u=Value.ref a from ru)
  obtain ⟨its,_,⟨o,h4,h5,_⟩,_⟩:=I.tuple h2.sq
  exact ⟨_,W.kitx_tuple,⟨o,h4,h5⟩,fun z=>nomatch z⟩
 |lst l =>
  unfold RV at r
  obtain ⟨a,xs,rfl,h2,h3⟩:=r
  cases ht
  cases (show u=Value.ref a from ru)
  obtain ⟨its,_,⟨o,n,h4,h5,_⟩,_⟩:=I.list h2.sq
  exact ⟨_,W.kitx_list,⟨o,h4,h5⟩,fun z=>nomatch z⟩
 |ref i =>
  unfold RV at r
  obtain ⟨a,rfl,h2⟩:=r
  cases ht
  cases (show u=Value.ref a from ru)
  have hl:i < st.length:=by rw [← S.len];exact (AO.mp h2).1
  obtain ⟨a',o,h3,h4,h5⟩:=S.at_ i _ (AI hl)
  rw [h2] at h3;cases h3
  have hq:∃ vs,o = .lst vs:=by
   cases hx:st[i] with
   |l xs=>rw [hx] at h5;obtain ⟨vs,e,_⟩:=h5;exact ⟨vs,e⟩
   |z xs=>unfold lk at hlk;dsimp only at hlk;rw [AI hl,hx] at hlk;cases hlk
   |d xs=>unfold lk at hlk;dsimp only at hlk;rw [AI hl,hx] at hlk;cases hlk
  obtain ⟨vs,rfl⟩:=hq
  obtain ⟨its,_,⟨o,n,h6,h7,_⟩,_⟩:=I.list (SqL.of h4)
  exact ⟨_,W.kitx_list,⟨o,h6,h7⟩,fun z=>nomatch z⟩
 |dct =>
  unfold RV at r
  obtain ⟨a,rfl,h2,h3⟩:=r
  cases ht
  cases (show u=Value.ref a from ru)
  obtain ⟨_,_,vs,_,o,_,_,h4,h5,_⟩:=(show ObjOk X.prog X.w H s.heap a (.dK []) from I.hok a _ h2)
  exact ⟨_,W.kitx_dict,⟨o,h4,h5.1⟩,fun z=>nomatch z⟩
 |exc c fs =>
  unfold RV at r
  obtain ⟨a,o,w,rfl,h2,h3,h4,⟨vs,h6⟩,h5⟩:=r
  cases ht
  cases (show u=Value.ref a from ru)
  have ho:s.heap.get? a=some o:=(I.hok a _ h2).1
  have hn:W.notCls o=true:=by
   obtain ⟨c',d',dt,sl⟩:=o
   have h6:dt=_:=h6
   subst h6;rfl
  refine ⟨_,qCZ (hx c rfl),?_,fun z=>nomatch z⟩
  rcases h5 with ⟨_,h5⟩ |⟨d,h5,h7,h8⟩
  ·exact ⟨o,none,ho,h4,hn,by rw [h5];trivial⟩
  ·obtain ⟨od,h9⟩:=got (I.hok d _ h7)
   exact ⟨o,some od,ho,h4,hn,by rw [h5];exact h9⟩
 |ty n=>cases ht
 |fn n=>cases ht
theorem qF1 {K:W.Frag} {H:Hp} {b:Bz} {c:PV} {v:V} {u t:Value} (r:RV K H b c v) (ru:RelV v u) (ht:clP c=some t):u=t:=by
 cases c with
 |ty n=>unfold RV at r;subst r;cases ht;exact ru
 |fn a=>unfold RV at r;subst r;cases ht;exact ru
 |_=>cases ht
theorem Jg {kit:Value->Value->Option Bool} (hk:KitOk X.K kit) {H:Hp} {b:Bz} {p:PV} {t:Value} (ht:tyP p=some t):∀ {cs:List PV} {xs:List V} {us:List Value} {k:Bool},RVs X.K H b cs xs->Vals xs us->Jd kit p cs=some k->W.kitAny X.K t us=some k
 |[],_,_,k,h,r,e=>by
  unfold RVs at h;subst h;cases r;exact e
 |c::cs,_,_,k,h,r,e=>by
  unfold RVs at h
  obtain ⟨x,xs,rfl,h1,h2⟩:=h
  cases r with
  | @cons _ u _ us r1 r2 =>
   unfold Jd qCG at e
   rw [ht] at e
   cases hc:clP c with
   |none=>rw [hc] at e;cases e
   |some c' =>
    rw [hc] at e
    have eu:=qF1 h1 r1 hc
    subst eu
    dsimp only at e
    unfold W.kitAny
    cases q:kit t u with
    |none=>rw [q] at e;cases e
    |some bb =>
     rw [q] at e
     rw [hk.one _ _ _ q]
     cases bb with
     |true=>exact e
     |false=>exact Jg hk ht h2 r2 e
theorem qDx {kit:Value->Value->Option Bool} (hk:KitOk X.K kit) {p:PV} {t:Value} (ht:tyP p=some t):∀ {cs:List PV} {k:Bool},cs≠[]->Jd kit p cs=some k -> ∀ a,t = .ref a->ExcK X.K a
 |[],_,h,_,_,_=>absurd rfl h
 |c::cs,k,_,e,a,ha=>by
  unfold Jd qCG at e
  rw [ht] at e
  cases hc:clP c with
  |none=>rw [hc] at e;cases e
  |some c' =>
   rw [hc] at e
   dsimp only at e
   cases q:kit t c' with
   |none=>rw [q] at e;cases e
   |some bb=>subst ha;exact hk.exc _ _ _ q
theorem qCd {kit:Value->Value->Option Bool} (hk:KitOk X.K kit):zT X (.builtin "isinstance") (fun vs H Q => ∃ b st p c k,SR X.K H b st∧RVs X.K H b [p,c] vs∧(∀ cs,c = .tup cs->cs≠[])∧lk st p=true∧qId kit p c=some k∧Q (.bl k) H):=by
 intro pins s σ H xs us Q I r h
 obtain ⟨b,st,p,c,k,S,rs,hne,hlk,e,q⟩:=h
 obtain ⟨x,y,rfl,r1,r2⟩:=RVs.two rs
 obtain ⟨u,v,rfl,ru,rv⟩:=qA6 r
 by_cases hc:∃ cs,c = .tup cs
 ·obtain ⟨cs,rfl⟩:=hc
  have e:(if (tyP p).isSome then Jd kit p cs else none)=some k:=e
  cases ht:tyP p with
  |none=>rw [ht] at e;cases e
  |some t =>
   rw [ht] at e
   have e:Jd kit p cs=some k:=e
   obtain ⟨Hh,Z,hh,hx⟩:=qEA hk I S r1 ru ht hlk (qDx hk ht (hne cs rfl) e)
   unfold RV at r2
   obtain ⟨a,ys,rfl,h2,h3⟩:=r2
   cases (show v=Value.ref a from rv)
   obtain ⟨its,r',⟨o,h4,h5,n,h6⟩,_⟩:=I.tuple h2.sq
   obtain ⟨c1,d1,dt,sl⟩:=o
   have h5:c1=_:=h5
   have h6:dt=_:=h6
   subst h5;subst h6
   exact W.kia_tup Z I.kIn hh h4 (Jg hk ht h3 r' e) hx fun tk=>⟨.bl k,H,I.tok _,rfl,q⟩
 ·have e:qCG kit p c=some k:=by
   cases c <;> first |exact e |exact (hc ⟨_,rfl⟩).elim
  unfold qCG at e
  cases ht:tyP p with
  |none=>rw [ht] at e;cases e
  |some t =>
   cases hc2:clP c with
   |none=>rw [ht,hc2] at e;cases e
   |some c' =>
    rw [ht,hc2] at e
    have eu:=qF1 r2 rv hc2
    subst eu
    obtain ⟨Hh,Z,hh,hx⟩:=qEA hk I S r1 ru ht hlk (fun a ha=>by subst ha;exact hk.exc _ _ _ e)
    exact W.kia_one Z I.kIn hh (hk.one _ _ _ e) hx fun tk=>⟨.bl k,H,I.tok _,rfl,q⟩
def yL (kit:Value->Value->Option Bool):List PV->qC->Rs PV:=fun ps st=>match ps with
 |[p,c]=>match c with
  | .tup [] => .no
  |c=>match qId kit p c with
   |some b=>if lk st p=true then .ok (.bl b) st else .no
   |none => .no
 |_ => .no
theorem YB {kit:Value->Value->Option Bool} {ta:FA} {p:Pos} (hk:KitOk X.K kit) (hm:X.mg "isinstance" = none) (ha:VA X E (e::es) ta) (hg:Gl X "isinstance" := by rfl)
  (he:starEach (e::es) X.env=(false,eval e X.env)::starEach es X.env:=by rfl) (hpl:(backTo pos (starEach es X.env)).any (·.1)=false:=by rfl):VE X E (.Call (.Name "isinstance" p) (e::es) [] pos) (qH (yL kit) ta) :=
 Wq (qCd hk) (fun H b st ps vs Q S r P=>by
  unfold yL at P
  split at P
  ·rename_i p c
   split at P
   ·exact P.elim
   ·rename_i hc
    split at P
    ·rename_i k hk'
     split at P
     ·rename_i hlk
      exact ⟨b,st,p,c,k,S,r,fun cs e z=>by subst e;subst z;exact hc rfl,hlk,hk',PostE.here P S WM⟩
     ·exact P.elim
    ·exact P.elim
  ·exact P.elim) hg hm PyProof.Rows.boot_isinstance ha (he:=he) (hpl:=hpl)
end
def pbl:PV->Option Bool
 | .bl b=>some b
 |_=>none
def qBZ:PV->Option Int
 | .int i=>some i
 |_=>none
def wC {α:Type} (f:PV->Option α):List PV->Option (List α)
 |[]=>some []
 |p::ps=>match f p with
  |some a=>match wC f ps with
   |some r=>some (a::r)
   |none=>none
  |none=>none
section
variable {X:Cx} {E:XK} {e a c d:Expr} {es:List Expr} {f fa fb fc:FE} {pos:Pos} {F G:FS}
theorem qD0 {K:W.Frag} {H:Hp} {b:Bz}:∀ {l:List PV} {xs:List V} {bs:List Bool},RVs K H b l xs->wC pbl l=some bs->xs=bs.map V.bl
 |[],_,_,h,e=>by unfold RVs at h;subst h;cases e;rfl
 |p::ps,_,bs,h,e=>by
  unfold RVs at h
  obtain ⟨x,r,rfl,h1,h2⟩:=h
  unfold wC at e
  cases p with
  |bl k =>
   unfold RV at h1;subst h1
   cases q:wC pbl ps with
   |none=>rw [q] at e;cases e
   |some r'=>rw [q] at e;cases e;rw [qD0 h2 q];rfl
  |_=>cases e
theorem Zx {K:W.Frag} {H:Hp} {b:Bz}:∀ {l:List PV} {xs:List V} {bs:List Int},RVs K H b l xs->wC qBZ l=some bs->xs=bs.map V.int
 |[],_,_,h,e=>by unfold RVs at h;subst h;cases e;rfl
 |p::ps,_,bs,h,e=>by
  unfold RVs at h
  obtain ⟨x,r,rfl,h1,h2⟩:=h
  unfold wC at e
  cases p with
  |int k =>
   unfold RV at h1;subst h1
   cases q:wC qBZ ps with
   |none=>rw [q] at e;cases e
   |some r'=>rw [q] at e;cases e;rw [Zx h2 q];rfl
  |_=>cases e
def YU {α:Type} (k:PV->Option α) (g:List α->PV):List PV->qC->Rs PV:=fun ps st=>match ps with
 |[p]=>match asL st p with
  |some l=>match wC k l with
   |some r => .ok (g r) st
   |none => .no
  |none => .no
 |_ => .no
def yQ:=YU pbl fun bs => .bl (bs.all id)
def Zv:=YU qBZ fun ns => .int ns.sum
theorem qHB:Zm X E (fun xs H Q => ∃ (p:Addr) (bs:List Bool),xs=[.ref p]∧SqL X.K H p (bs.map V.bl)∧Q (.bl (bs.all id)) H) yQ:=by
 intro H b st ps vs Q S r P
 unfold yQ YU at P
 split at P
 ·obtain ⟨v,rfl,r1⟩:=RVs.one r
  split at P
  ·rename_i l e
   split at P
   ·rename_i bs eb
    obtain ⟨a,xs,rfl,h2,h3⟩:=Qj S r1 e
    rw [qD0 h3 eb] at h2
    exact ⟨a,bs,rfl,h2,PostE.here P S WM⟩
   ·exact P.elim
  ·exact P.elim
 ·exact P.elim
theorem qGK:Zm X E (fun xs H Q => ∃ (p:Addr) (ns:List Int),xs=[.ref p]∧SqL X.K H p (ns.map V.int)∧Q (.int ns.sum) H) Zv:=by
 intro H b st ps vs Q S r P
 unfold Zv YU at P
 split at P
 ·obtain ⟨v,rfl,r1⟩:=RVs.one r
  split at P
  ·rename_i l e
   split at P
   ·rename_i bs eb
    obtain ⟨a,xs,rfl,h2,h3⟩:=Qj S r1 e
    rw [Zx h3 eb] at h2
    exact ⟨a,bs,rfl,h2,PostE.here P S Q9⟩
   ·exact P.elim
  ·exact P.elim
 ·exact P.elim
section
variable {ta:FA} {p:Pos} (ha:VA X E (e::es) ta)
include ha
theorem jD (hm:X.mg "all" = none) (hg:Gl X "all" := by rfl) (he:starEach (e::es) X.env=(false,eval e X.env)::starEach es X.env:=by rfl) (hpl:(backTo pos (starEach es X.env)).any (·.1)=false:=by rfl):VE X E (.Call (.Name "all" p) (e::es) [] pos) (qH yQ ta) :=
 Wq qCA qHB hg hm Boot.«all» ha (he:=he) (hpl:=hpl)
theorem qCo (hm:X.mg "sum" = none) (hg:Gl X "sum" := by rfl) (he:starEach (e::es) X.env=(false,eval e X.env)::starEach es X.env:=by rfl) (hpl:(backTo pos (starEach es X.env)).any (·.1)=false:=by rfl):VE X E (.Call (.Name "sum" p) (e::es) [] pos) (qH Zv ta) :=
 Wq qCC qGK hg hm Boot.«sum» ha (he:=he) (hpl:=hpl)
theorem wD (hm:X.mg "len" = none) (hg:Gl X "len" := by rfl) (he:starEach (e::es) X.env=(false,eval e X.env)::starEach es X.env:=by rfl) (hpl:(backTo pos (starEach es X.env)).any (·.1)=false:=by rfl):VE X E (.Call (.Name "len" p) (e::es) [] pos) (qH wg ta) :=
 Wq Y6 qHG hg hm Boot.«len» ha (he:=he) (hpl:=hpl)
theorem qFh (hc:X.calm=true) (hm:X.mg "max" = none) (hg:Gl X "max" := by rfl) (he:starEach (e::es) X.env=(false,eval e X.env)::starEach es X.env:=by rfl) (hpl:(backTo pos (starEach es X.env)).any (·.1)=false:=by rfl):VE X E (.Call (.Name "max" p) (e::es) [] pos) (qH qDm ta) :=
 Wq (qBw hc) qHd hg hm Boot.«max» ha (he:=he) (hpl:=hpl)
theorem qEv (hc:X.calm=true) (hm:X.mg "min" = none) (hg:Gl X "min" := by rfl) (he:starEach (e::es) X.env=(false,eval e X.env)::starEach es X.env:=by rfl) (hpl:(backTo pos (starEach es X.env)).any (·.1)=false:=by rfl):VE X E (.Call (.Name "min" p) (e::es) [] pos) (qH qDw ta) :=
 Wq (qB4 hc) qGV hg hm Boot.«min» ha (he:=he) (hpl:=hpl)
theorem wc (hm:X.mg "tuple" = none) (hg:Gl X "tuple" := by rfl) (he:starEach (e::es) X.env=(false,eval e X.env)::starEach es X.env:=by rfl) (hpl:(backTo pos (starEach es X.env)).any (·.1)=false:=by rfl):VE X E (.Call (.Name "tuple" p) (e::es) [] pos) (qH wF ta) :=
 qCH YN qC9 hg hm Boot.«tuple» ha (he:=he) (hpl:=hpl)
end
def yE (fa fb:FE):FL:=fun r st=>(fa r st).bind fun p s1=>(fb r s1).bind fun q s2=>match asL s2 p with
 |some l=>match asL s2 q with
  |some m=>if l.length + m.length≤sizeLine then .ok (l++m) s2 else .no
  |none => .no
 |none => .no
theorem Jt (ha:VE X E a fa) (hb:VE X E c fb):VN X E (.BinOp a .Add c pos) (yE fa fb):=PE.imp (qD4 qFU ha hb) fun s H Q ⟨b,r,st,S,R,P⟩ =>
 ⟨b,r,st,S,R,PostE.bindN P fun p s1 u H1 b1 e1 S1 r1 P1=>⟨b1,r,s1,S1,R.ext e1,PostE.bindN P1 fun q s2 v H2 b2 e2 S2 r2 P2=>by
  split at P2
  ·rename_i l el
   split at P2
   ·rename_i m em
    split at P2
    ·rename_i hl
     obtain ⟨x,xs,rfl,h2,h3⟩:=Qj S2 (RV.ext e2 p r1) el
     obtain ⟨y,ys,rfl,h4,h5⟩:=Qj S2 r2 em
     exact ⟨x,y,xs,ys,rfl,rfl,h2,h4,by rw [← h3.length,← h5.length];exact hl,fun z hz=>PostN.lay P2 S2 (h3.append h5) hz⟩
    ·exact P2.elim
   ·exact P2.elim
  ·exact P2.elim⟩⟩
theorem RVs.rep {K:W.Frag} {H:Hp} {b:Bz} {l:List PV} {xs:List V} (h:RVs K H b l xs):∀ n,RVs K H b (List.replicate n l).flatten (List.replicate n xs).flatten
 |0=>RVs.nil
 |n + 1=>by rw [A0,A0,BQ,BQ];exact h.append (RVs.rep h n)
def y0 (fa:FL) (fb:FE):FL:=fun r st=>(fa r st).bind fun l s1=>(fb r s1).bind fun q s2=>match q with
 | .int k=>if -(2 ^ 63)≤k∧k < 2 ^ 63∧l.length * k.toNat≤sizeLine then .ok (List.replicate k.toNat l).flatten s2 else .no
 |_ => .no
end
theorem WE.hid1 {H H':Hp} {b b':Bz} {p:Addr} (e:Ext H b H' b') (hn:H p=none):WE H b H' ⟨b'.b,p::b'.z⟩ :=
 ⟨e.more,⟨[p],by rw [e.same];rfl,fun a ha=>by rw [Ai.mp ha];exact hn⟩,e.keep,e.dom⟩
theorem Ext.unhide {H H' H2:Hp} {b b' b4:Bz} {p:Addr} (e:Ext H b H' b') (hn:H p=none) (e4:Ext H' ⟨b'.b,p::b'.z⟩ H2 b4):Ext H b H2 ⟨b4.b,b'.z⟩:=by
 obtain ⟨n,hb,hh⟩:=e.more
 obtain ⟨n4,hb4,hh4⟩:=e4.more
 refine ⟨⟨⟨n++n4,?_,fun a ha => ?_⟩,⟨[],by rw [e.same];rfl,by simp⟩,fun a o ha ho => ?_,fun a o ha => ?_⟩,e.same,fun a o ha ho => ?_,fun a o u ha=>e4.fz a o u (e.fz a o u ha)⟩
 ·show b4.b=b.b++(n++n4)
  rw [hb4];show b'.b++n4=_;rw [hb,Aj]
 ·rcases Ar.mp ha with ha |ha
  ·exact hh a ha
  ·exact e.none_of (hh4 a ha)
 ·have o2:=e.not_in ha ho
  exact e4.keep a o (e.keep a o ha ho) ⟨o2.1,fun z=>(AL.mp z).elim (qM ha hn) o2.2⟩
 ·obtain ⟨o',h'⟩:=e.dom a o ha
  exact e4.dom a o' h'
 ·exact e4.hid a o (AB _ (by rw [e.same];exact ha)) (e.hid a o ha ho)
theorem qFx {b4:Bz} {z:List Addr} (h:b4.z=z):b4=⟨b4.b,z⟩:=by cases b4;cases h;rfl
section
variable {X:Cx} {E:XK} {e a c d:Expr} {es:List Expr} {f fa fb fc:FE} {fl:FL} {pos:Pos} {F G:FS}
theorem J9 (ha:VN X E a fl) (hb:VE X E c fb):VN X E (.BinOp a .Mult c pos) (y0 fl fb):=PE.imp (qD4 qHe ha hb) fun s H Q ⟨b,r,st,S,R,P⟩=>⟨b,r,st,S,R,by
 unfold y0 at P
 cases ef:fl r st with
 |no=>rw [ef] at P;exact P.elim
 |ex x s1=>rw [ef] at P;exact P
 |ok l s1 =>
  rw [ef] at P
  have P:PostN X.K E H b ((fb r s1).bind fun q s2=>match q with | .int k=>if -(2 ^ 63)≤k∧k < 2 ^ 63∧l.length * k.toNat≤sizeLine then .ok (List.replicate k.toNat l).flatten s2 else .no |_ => .no) Q:=P
  intro p xs H' b' e1 hn hp hz S1 r1
  refine ⟨⟨b'.b,p::b'.z⟩,r,s1,S1,R.wext (WE.hid1 e1 hn),?_⟩
  cases eb:fb r s1 with
  |no=>rw [eb] at P;exact P.elim
  |ex x s2 =>
   rw [eb] at P
   intro cc dd H2 b2 e2 S2 rx
   have e3:=Ext.unhide e1 hn e2
   have hb2:b2=⟨b2.b,p::b'.z⟩:=qFx e2.same
   refine P cc dd H2 ⟨b2.b,b'.z⟩ e3 (by rw [hb2] at S2;exact S2.bare) ⟨rx.1,rx.2.imp id fun ⟨a,q1,q2,q3⟩=>⟨a,q1,q2,by rw [hb2] at q3;exact ⟨q3.1,fun z=>q3.2 (AB _ z)⟩⟩⟩
  |ok q s2 =>
   rw [eb] at P
   intro v H2 b2 e2 S2 rv
   have e3:=Ext.unhide e1 hn e2
   have hb2:b2=⟨b2.b,p::b'.z⟩:=qFx e2.same
   dsimp only [Rs.bind] at P
   split at P
   ·rename_i k
    split at P
    ·rename_i hk
     unfold RV at rv
     have hH2:H2 p=some (.lst xs):=e2.hid p _ AE hp
     have S3:SR X.K H2 ⟨b2.b,b'.z⟩ s2:=by rw [hb2] at S2;exact S2.bare
     have r3:RVs X.K H2 ⟨b2.b,b'.z⟩ l xs:=RVs.sh Sh.bare l (by have:=RVs.ext e2 l r1;rw [hb2] at this;exact this)
     refine ⟨p,k,xs,rfl,rv,hH2,hk.1,hk.2.1,by rw [← r1.length];exact hk.2.2,fun z hz' => ?_⟩
     exact PostN.lay (PostN.ext (show PostN X.K E H b (.ok (List.replicate k.toNat l).flatten s2) Q from P) e3) S3 (RVs.rep r3 k.toNat) hz'
    ·exact P.elim
   ·exact P.elim⟩
abbrev FO:=QC->qC->Rs (Option Int)
def PostO (K:W.Frag) (E:XK) (H:Hp) (b:Bz) (r:Rs (Option Int)) (Q:Option Int->Hp->Prop):Prop:=match r with
 | .ok k st => ∀ H' b',Ext H b H' b'->SR K H' b' st->Q k H'
 | .ex x st=>XP K E H b x st
 | .no=>False
def rdO (K:W.Frag) (E:XK) (f:FO):TO:=fun s H Q => ∃ b r st,SR K H b st∧REnv K H b r s∧PostO K E H b (f r st) Q
abbrev VO (X:Cx) (E:XK) (e:Option Expr) (f:FO):Prop:=PO X e (rdO X.K E f)
def yY:FO:=fun _ st => .ok none st
def zK (f:FE):FO:=fun r st=>(f r st).bind fun p s=>match p with
 | .int i => .ok (some i) s
 |_ => .no
theorem qAn:VO X E none yY:=fun pins s σ H Q I ⟨b,r,st,S,R,P⟩=>qET pins s σ H Q I (P H b (Ext.refl _ _) S)
theorem qBG (h:VE X E e f):VO X E (some e) (zK f):=fun pins s σ H Q I ⟨b,r,st,S,R,P⟩=>qEk h pins s σ H Q I ⟨b,r,st,S,R,by
 unfold zK at P
 cases ef:f r st with
 |no=>rw [ef] at P;exact P.elim
 |ex x s1=>rw [ef] at P;exact P
 |ok p s1 =>
  rw [ef] at P
  intro v H1 b1 e1 S1 r1
  dsimp only [Rs.bind] at P
  split at P
  ·rename_i i
   unfold RV at r1
   exact ⟨i,r1,P H1 b1 e1 S1⟩
  ·exact P.elim⟩
def qAC (l:List PV) (lo hi:Option Int):List PV:=(l.drop (HT.sIx l.length 0 lo)).take (HT.sIx l.length l.length hi - HT.sIx l.length 0 lo)
theorem PostO.bind {K:W.Frag} {E:XK} {H:Hp} {b:Bz} {r:Rs (Option Int)} {k:Option Int->qC->Rs PV} {Q:VK} {R:Option Int->Hp->Prop} (P:PostE K E H b (r.bind k) Q)
  (h:∀ p st H1 b1,Ext H b H1 b1->SR K H1 b1 st->PostE K E H1 b1 (k p st) Q->R p H1):PostO K E H b r R:=by
 cases r with
 |ok p st=>exact fun H1 b1 e S=>h p st H1 b1 e S (PostE.ext (show PostE K E H b (k p st) Q from P) e)
 |ex x st=>exact P
 |no=>exact P
def zQ:List PV->List PV->List PV
 |x::l,y::m => .tup [x,y]::zQ l m
 |_,_=>[]
theorem yt:∀ {l m:List PV} {i:Nat} {p:PV},(zQ l m)[i]? = some p -> ∃ x y,l[i]? = some x∧m[i]? = some y∧p = .tup [x,y]
 |[],_,_,_,h=>by simp [zQ] at h
 |_::_,[],_,_,h=>by simp [zQ] at h
 |x::l,y::m,0,p,h=>⟨x,y,rfl,rfl,by simpa [zQ] using h.symm⟩
 |x::l,y::m,i + 1,p,h=>by
  obtain ⟨u,v,h1,h2,h3⟩:=yt (l:=l) (m:=m) (i:=i) (p:=p) (by simpa [zQ] using h)
  exact ⟨u,v,by simpa using h1,by simpa using h2,h3⟩
theorem YF:∀ (l m:List PV),(zQ l m).length=min l.length m.length
 |[],m=>by simp [zQ]
 |_::_,[]=>by simp [zQ]
 |x::l,y::m=>by simp [zQ,YF l m]
def qA7 (ps:List PV) (st:qC):Rs ItP:=match ps with
 |[p,q]=>match asL st p,asL st q with
  |some l,some m => .ok ⟨zQ l m,fun s=>asL s p=some l∧asL s q=some m⟩ st
  |_,_ => .no
 |_ => .no
def zn (t:FA):FI:=fun r st=>(t r st).bind qA7
theorem qG0 {elts:List Expr} {n:Nat} {tpos p:Pos} {t:FA} (hc:X.calm=true) (hm:X.mg "zip" = none) (ha:VA X E [a,c] t) (hg:Gl X "zip" := by rfl) (he:starEach [a,c] X.env=(false,eval a X.env)::starEach [c] X.env:=by rfl) (hpl:(backTo pos (starEach [c] X.env)).any (·.1)=false:=by rfl) :
  VI X E (.Tuple elts n tpos) (.Call (.Name "zip" p) [a,c] [] pos) (zn t):=fun pins s σ H R I q=>qHU hc hg hm ha he hpl pins s σ H R I (by
 obtain ⟨b,r,st,S,RE,P⟩:=q
 refine ⟨b,r,st,S,RE,PostA.bindI P fun l s1 us H1 b1 e1 S1 r1 P1 => ?_⟩
 unfold qA7 at P1
 split at P1
 ·rename_i p q
  obtain ⟨u,v,rfl,h1,h2⟩:=RVs.two r1
  split at P1
  ·rename_i l m el em
   obtain ⟨x,xs,rfl,k1,k2⟩:=Qj S1 h1 el
   obtain ⟨y,ys,rfl,k3,k4⟩:=Qj S1 h2 em
   refine ⟨x,y,rfl,⟨xs,k1⟩,⟨ys,k3⟩,P1 _ H1 b1 (Ext.refl _ _) S1 fun H2 b2 st2 e2 S2 g2 => ?_⟩
   obtain ⟨x',xs',ex,j1,j2⟩:=Qj S2 (RV.wext e2 p h1) g2.1
   cases ex
   obtain ⟨y',ys',ey,j3,j4⟩:=Qj S2 (RV.wext e2 q h2) g2.2
   cases ey
   refine ⟨fun i w hw => ?_,fun i hi => ?_⟩
   ·obtain ⟨x1,y1,w1,w2,rfl⟩:=yt hw
    obtain ⟨v1,z1,z2⟩:=j2.get w1
    obtain ⟨v2,z3,z4⟩:=j4.get w2
    refine ⟨⟨xs',ys',v1,v2,j1,j3,z1,z3⟩,fun z H3 ⟨T,a1,a2,hn,hz,hH,ha⟩ => ?_⟩
    subst hz;subst hH
    obtain ⟨q1,q2⟩:=ha xs' ys' j1 j3
    rw [z1] at q1;cases q1
    rw [z3] at q2;cases q2
    refine ⟨fun b' o h=>by rw [qV (qM h hn)];exact h,S2.new hn,?_⟩
    unfold RV
    exact ⟨T,_,rfl,.inl ⟨Qk,S2.new_notin hn⟩,RVs.cons (RV.wext (WE.new hn) _ z2) (RVs.cons (RV.wext (WE.new hn) _ z4) RVs.nil)⟩
   ·have hi:min l.length m.length≤i:=by rw [← YF];exact hi
    exact ⟨xs',ys',j1,j3,by rw [← j2.length,← j4.length];omega⟩
  ·exact P1.elim
 ·exact P1.elim)
theorem qt {P:Program} {w:World} (X:Cx):ZZ (CXF P w) X E0:=fun pins σ H s e s' I h=>by
 obtain ⟨_,_,_,_,_,_,_,_,_,_,_,_,q⟩:=h
 exact q.elim
def qq (i:Nat):FG:=fun p r=>match r[i]? with
 |some none=>some (r.set i (some p))
 |_=>none
theorem qAi {i:Nat} {p:PV} {r r':QC} (h:qq i p r=some r'):r[i]? = some none∧r'=r.set i (some p):=by
 unfold qq at h
 split at h
 ·rename_i e;cases h;exact ⟨e,rfl⟩
 ·cases h
theorem QN (i:Nat) {x:Str} (hN:X.N.Nodup) (hi:X.N[i]? = some x:=by rfl) (hx:Loc X.env.scope x:=by first |exact Or.inl rfl |exact Or.inr rfl) (hf:X.fn x=true∨X.env.scope.names.lookup x=some .local:=by first |exact .inl rfl |exact .inr rfl |assumption):VG X (.Name x pos) (qq i) :=
 PG.imp (q0 i hN hi hx hf) fun v s H Q ⟨b,r,p,st,S,R,rv,r',e,q⟩=>⟨b,r,p,st,S,R,rv,r',by rw [(qAi e).2];rfl,q⟩
theorem Le.refl (r:QC):Le r r:=⟨rfl,fun _ _ h=>h⟩
theorem Le.trans {r r1 r2:QC} (h:Le r r1) (g:Le r1 r2):Le r r2:=⟨h.1.trans g.1,fun i p e=>g.2 i p (h.2 i p e)⟩
theorem qa (i:Nat):qBB (qq i):=fun p r r' h=>by
 obtain ⟨h1,rfl⟩:=qAi h
 refine ⟨by simp,fun j q e => ?_⟩
 by_cases hj:i=j
 ·subst hj;rw [h1] at e;cases e
 ·rw [Bd hj];exact e
def jY (g:FGs):Prop := ∀ p r r',g p r=some r'->Le r r'
theorem ZO:jY Wy:=fun p r r' h=>by
 unfold Wy at h
 split at h
 ·cases h;exact Le.refl _
 ·cases h
theorem wj {g:FG} {gs:FGs} (h1:qBB g) (h2:jY gs):jY (qz g gs):=fun p r r' h=>by
 unfold qz at h
 split at h
 ·split at h
  ·rename_i r1 e;exact (h1 _ _ _ e).trans (h2 _ _ _ h)
  ·cases h
 ·cases h
theorem ZT {n:Nat} {gs:FGs} (h1:jY gs):qBB (Wl n gs):=fun p r r' h=>by
 unfold Wl at h
 split at h
 ·split at h
  ·exact h1 _ _ _ h
  ·cases h
 ·cases h
end
structure DefG (P:Program) (w:World) (K:W.Frag) (mg:Str->Option Value) (base:Heap) (k:Nat) (x:Str) (fa:Addr) (n:Nat) (g:List PV->qC->Rs PV):Prop where
 ok:∃ fd ps,ps.length=n∧FnOk P w K mg base (CXF P w) k fa fd ps (spG K ps.length g)∧L2.Binds K fd ps [] ∧ ∀ l st,g l st ≠ .no->l.length=ps.length
 mg:mg x=some (.ref fa)
 kp:W.keepIn K (.ref fa)=true
section
variable {X:Cx} {E:XK} {e a c d:Expr} {es:List Expr} {f fa fb fc:FE} {fl:FL} {pos:Pos} {F G:FS}
theorem DefG.call {k n:Nat} {x:Str} {fa:Addr} {g:List PV->qC->Rs PV} (D:DefG X.prog X.w X.K X.mg X.base k x fa n g) (hr:Room k X.A) (hx:ZZ (CXF X.prog X.w) X E) (hg:Gl X x:=by rfl) (hdb:(x==("__debug__":Str))=false:=by decide):qHI X E x g:=by
 obtain ⟨fd,ps,_,F,B,hl⟩:=D.ok
 exact qI4 (n:=n) F hr hg D.mg D.kp B hx hl hdb
end
def QD (n N:Nat) (B:FS):List PV->qC->Rs PV:=fun l st=>if l.length=n then qEx (B (QZ N l) st) else .no
theorem qc {n N:Nat} {B:FS} {l:List PV} {st:qC} (h:QD n N B l st ≠ .no):l.length=n:=by
 unfold QD at h
 split at h
 ·assumption
 ·exact absurd rfl h
section
variable {X:Cx} {E:XK} {e a c d:Expr} {f fa fb fc:FE} {pos:Pos}
def qHZ (f:FE):FE:=fun r st=>(f r st).bind fun p s=>match p with
 | .int i => .ok (.int (-i)) s
 |_ => .no
theorem qDr (h:VE X E e f):VE X E (.UnaryOp .USub e pos) (qHZ f):=PE.imp (qH2 qHi h) fun s H Q ⟨b,r,st,S,R,P⟩=>⟨b,r,st,S,R,PostE.bind P fun p s1 u H1 b1 e1 S1 r1 P1=>by
 split at P1
 ·rename_i i
  unfold RV at r1
  exact ⟨i,r1,PostE.here P1 S1 Q9⟩
 ·exact P1.elim⟩
end
theorem qZ {n N m:Nat} {B:FS} {l:List PV} {s0:qC} (hl:l.length=n):Refn m (qEx (B (QZ N l) s0)) (QD n N B l s0):=by
 unfold QD;rw [AG hl];exact Refn.refl
section
variable {P:Program} {w:World} {K:W.Frag} {mg:Str->Option Value} {base:Heap}
theorem Qt {x:Str} {st:Stmt} {fa:Addr} {fd:FuncData} {N ps:List Str} {k:Nat} {B:FS} {g:List PV->qC->Rs PV} (F:Fun K x x st fa fd) (S:FnScope N ps (qI st)) (b:L2.Binds K fd ps []) (m:mg x=some (.ref fa)) (hlen:∀ l s,g l s ≠ .no->l.length=ps.length)
  (body:∀ (cdv:Value) (A:Around) (outer:List Env) (s:Shared) (H:Hp) (E:XK),Room k (A.deeper (envOfC x (qI st) s.heap.objs.size fa cdv))->(0 < k->A.handled=none)->VSs (Wd (CXF P w) P w K mg base N x (qI st) fa cdv A outer s H E) E (qf st) B)
  (hg:∀ l s0,l.length=ps.length->g l s0 ≠ .no->Refn s0.length (qEx (B (QZ N.length l) s0)) (g l s0)):DefG P w K mg base (k + 1) x fa ps.length g :=
 ⟨⟨fd,ps,rfl,okV F S fun cdv A outer s H E hr hc=>⟨B,body cdv A outer s H E hr hc,hg⟩,b,hlen⟩,m,F.kp⟩
end
section
variable {X:Cx} {E:XK} {es:List Expr} {f:FE} {g:FA} {pos:Pos}
theorem WK {c:Const} {j:Nat} (h:VE X E (.Constant c j pos) f) (h2:VA X E es g):VA X E (.Constant c j pos::es) (qA f g):=Qp h h2 rfl
theorem qP {x:Str} (h:VE X E (.Name x pos) f) (h2:VA X E es g):VA X E (.Name x pos::es) (qA f g):=Qp h h2 rfl
theorem Wv {a b c} (h:VE X E (.Call a b c pos) f) (h2:VA X E es g):VA X E (.Call a b c pos::es) (qA f g):=Qp h h2 rfl
theorem YL {a b c} (h:VE X E (.BinOp a b c pos) f) (h2:VA X E es g):VA X E (.BinOp a b c pos::es) (qA f g):=Qp h h2 rfl
theorem qJV {a b} (h:VE X E (.Tuple a b pos) f) (h2:VA X E es g):VA X E (.Tuple a b pos::es) (qA f g):=Qp h h2 rfl
theorem qJX {a} (h:VE X E (.List a pos) f) (h2:VA X E es g):VA X E (.List a pos::es) (qA f g):=Qp h h2 rfl
theorem qEl {a b} (h:VE X E (.Subscript a b pos) f) (h2:VA X E es g):VA X E (.Subscript a b pos::es) (qA f g):=Qp h h2 rfl
theorem qIk {a b} (h:VE X E (.UnaryOp a b pos) f) (h2:VA X E es g):VA X E (.UnaryOp a b pos::es) (qA f g):=Qp h h2 rfl
theorem qJY {a b c} (h:VE X E (.Compare a b c pos) f) (h2:VA X E es g):VA X E (.Compare a b c pos::es) (qA f g):=Qp h h2 rfl
theorem YH {a b c} (h:VE X E (.ListComp a b c pos) f) (h2:VA X E es g):VA X E (.ListComp a b c pos::es) (qA f g):=Qp h h2 rfl
theorem qJa {a} (h:VE X E (.JoinedStr a pos) f) (h2:VA X E es g):VA X E (.JoinedStr a pos::es) (qA f g):=Qp h h2 rfl
theorem qI1 {a b c} (h:VE X E (.IfExp a b c pos) f) (h2:VA X E es g):VA X E (.IfExp a b c pos::es) (qA f g):=Qp h h2 rfl
theorem qJW {a b} (h:VE X E (.BoolOp a b pos) f) (h2:VA X E es g):VA X E (.BoolOp a b pos::es) (qA f g):=Qp h h2 rfl
end
section
variable {X:Cx} {E:XK} {e a c d:Expr} {es:List Expr} {f fa fb fc:FE} {pos:Pos}
def qCO:PV->Bool
 | .non=>true
 |_=>false
theorem jl {K:W.Frag} {H:Hp} {b:Bz} {p:PV} {u:V} (r:RV K H b p u):decide (u = .non)=qCO p:=by
 cases p with
 |non=>unfold RV at r;subst r;rfl
 |bl x=>unfold RV at r;subst r;rfl
 |int x=>unfold RV at r;subst r;rfl
 |str x=>unfold RV at r;subst r;rfl
 |tup l=>unfold RV at r;obtain ⟨a,xs,rfl,_⟩:=r;rfl
 |lst l=>unfold RV at r;obtain ⟨a,xs,rfl,_⟩:=r;rfl
 |ref i=>unfold RV at r;obtain ⟨a,rfl,_⟩:=r;rfl
 |dct=>unfold RV at r;obtain ⟨a,rfl,_⟩:=r;rfl
 |ty n=>unfold RV at r;subst r;rfl
 |fn n=>unfold RV at r;subst r;rfl
 |exc x y=>unfold RV at r;obtain ⟨a,o,u,rfl,_⟩:=r;rfl
def zf (neg:Bool):PV->PV->qC->Rs PV:=fun p q st=>match q with
 | .non => .ok (.bl (if neg then !qCO p else qCO p)) st
 |_ => .no
theorem qF4:OpG X E (fun x y H Q=>y = .non∧Q (.bl (decide (x = .non))) H) (zf false):=by
 intro H b st p q u v Q S rp rq P
 unfold zf at P
 split at P
 ·unfold RV at rq
  refine ⟨rq,?_⟩
  rw [jl rp]
  exact PostE.here P S WM
 ·exact P.elim
theorem yz:OpG X E (fun x y H Q=>y = .non∧Q (.bl (!decide (x = .non))) H) (zf true):=by
 intro H b st p q u v Q S rp rq P
 unfold zf at P
 split at P
 ·unfold RV at rq
  refine ⟨rq,?_⟩
  rw [jl rp]
  exact PostE.here P S WM
 ·exact P.elim
theorem qF5 (ha:VE X E a fa) (hb:VE X E c fb):VE X E (.Compare a [.Is] [c] pos) (qG (zf false) fa fb):=yf qCM qF4 ha hb
end
section
variable {X:Cx} {E:XK} {es:List Expr} {f:FE} {g:FA} {pos:Pos}
theorem qJZ {a b} (h:VE X E (.Dict a b pos) f) (h2:VA X E es g):VA X E (.Dict a b pos::es) (qA f g):=Qp h h2 rfl
end
end EV
end
section
namespace Att
open PySem PySem.W PySem.Calls PyProof.Rows
theorem yw:∀ {ns:List Int} {n:Int},n∈ns->WData.weight (.int n)≤WData.weightAll (ns.map WData.int)
 |m::ns,n,h=>by
  show _≤WData.weight (.int m) + 1 + WData.weightAll (ns.map WData.int)
  rcases AL.mp h with rfl |h
  ·omega
  ·have:=yw h;omega
theorem Jk {ns:List Int} (h:WData.layableAll [WData.list (ns.map WData.int)]=true):∀ n∈ns,Builtin.Int.intBits n≤2 ^ 20:=by
 intro n hn
 unfold WData.layableAll at h
 have h1:WData.layable (WData.list (ns.map WData.int))=true:=by simpa using h
 unfold WData.layable at h1
 rw [Ay] at h1
 have h2:WData.weight (WData.list (ns.map WData.int))≤2 ^ 20:=BC h1.2
 have h3:WData.weightAll (ns.map WData.int)≤2 ^ 20:=h2
 exact Am (yw hn) h3
theorem attach_callB {l:OpenLaw} {n:Nat} {q:Program} {loose:List Str} {XP:(Str->Option Value)->Heap->Prop} {YP:World->Heap->Prop} {d:DefRec}
  (hn:l.most=some n) (hdf:d.params.defaults=[])
  (call:∀ (w:World) (s₀ s₁:Shared) (mg mb:Str->Option Value) (fa:Addr) (o:Obj) (pm cd doc:Value) (a:Addr) (vs:List Value) (ns:List Int),
   Ground q loose [] XP w s₀ mg mb s₁.heap->YP w s₁.heap ->
   s₁.heap.get? fa=some o->o.data = .func (docDef d.name d.params d.body d.scope pm cd doc)->s₁.heap.CodeRec cd d.name->mg d.name=some (.ref fa) ->
   s₁.heap.get? a=some { cls := .type "list",data := .seq vs.toArray }->IntsAre vs ns->ns.length≤n->(∀ k∈ns,Builtin.Int.intBits k≤2 ^ 20)->s₁.gens = #[] ->
   codeAny (model l.prog w) callerA (.call (.ref fa) ⟨[.ref a],[]⟩) (fun r s'=>r = .ok (.ret (.bool true))∧OldK s₁.heap s'.heap∧s'.os=s₁.os∧AllBare s'.gens) s₁) :
  WalkO q loose XP YP l.row.toRowW d [] (fun f vs=>PySem.call f vs):=by
 intro w s₀ s₁ mg mb G Y fa o pm cd doc dV kV ho hd hcd hD hmg hg args vals as hpre hlay hrd hwl hlo
 obtain rfl:dV = .none:=Dflts.none hD hdf
 obtain rfl:kV = .none:=Dflts.noKw hD
 obtain ⟨a,vs,ns,rfl,rfl,hobj,hints,hlen⟩:=qBg hn hpre hwl
 refine enter_call (codeAny_mono (call w s₀ s₁ mg mb fa o pm cd doc a vs ns G Y ho (fd_plain hd) hcd hmg hobj hints hlen (Jk hlay) hg) fun r s' hq => ?_)
 obtain ⟨rfl,h2,h3,h4⟩:=hq
 exact ⟨.inl ⟨.bool true,.bool true,[],rfl,fun _=>rfl,.bool true,qB7 l _,fun _=>⟨List.Pairwise.nil,fun _ hm=>(nomatch hm)⟩⟩,h2,h3,h4⟩
end Att
end
section
namespace EX
open PySem PySem.Spec PyProof.Rows L2
end EX
namespace EV
open PySem PySem.Spec PyProof.Rows L2 EX
end EV
end
section
namespace HT
open PySem PySem.Spec PyProof.Rows L2
end HT
namespace L2
open PySem PySem.Spec PyProof.Rows
end L2
end
section
namespace EV
open PySem PySem.Spec PyProof.Rows L2
theorem qBK {X:Cx} {E:XK} (i:Nat) {x:Str} {p' pos2:Pos} {elt:Expr} {c:Comprehension} {cs:List Comprehension} {scope:Scope} {pos:Pos} {capN locN:List Str} {caps:List Nat} {fi:FI} {g:FG} {ts:List FT} {gs:List GenF} {f:FE} (hN:X.N.Nodup) (hi':X.N[i]? = some x) (hx:Loc X.env.scope x) (hf:X.fn x=true∨X.env.scope.names.lookup x=some .local) (hsw:swapsWith (.ListComp elt (c::cs) scope pos) (some (.Name x p')) pos2.line X.env=pure true) (hcs:CSc X scope capN locN caps)
  (hi:VI X E c.target c.iter fi) (sub:∀ s H fp pn,VE (cCx X scope (capN++locN) s H fp pn) E0 elt f∧GOk (cCx X scope (capN++locN) s H fp pn) c ⟨fi,g,ts⟩∧GsOk (cCx X scope (capN++locN) s H fp pn) cs gs)
  (hs:∀ x,foldedSetIterable c.iter X.env x=pure x):PS X (.Assign [.Name x p'] (.ListComp elt (c::cs) scope pos) pos2) (qGo (rdN X.K E (qh caps locN.length fi g ts gs f)) (qDg i)):=by
 intro pins s σ H D0 I hq
 obtain ⟨b,r,st,S,RE,P⟩:=hq
 have hfree:∀ x∈scope.names,x.2 = .free -> ∃ c,X.env.cells.lookup x.1=some c:=fun x hx hk=>I.ok.has x.1 (hcs.fr x hx hk)
 obtain ⟨c1,c2,c3,c4⟩:=c
 have hasy:c4=0:=(sub s H [] []).2.1.asy
 subst hasy
 rw [exec_Assign_Name_used x p' _ pos2 hsw]
 refine AA (CS ?_)
 refine AA (Be (Q:=fun _ s' => ∃ v H',L2.Inv X pins (σ.set i (some v)) H' s'∧D0.nx (σ.set i (some v)) H') ?_ (fun _ s' ⟨v,H',I',q'⟩=>AD ⟨_,H',I',q'⟩) fun _ _ z=>z)
 rw [arm_evalThenUse_ListComp]
 refine AA (Be (Q:=fun _ s' => ∃ v H',L2.Inv X pins (σ.set i (some v)) H' s'∧D0.nx (σ.set i (some v)) H') ?_ (fun _ s' q'=>AD q') fun _ _ z=>z)
 refine wpAny_comprehension_free (e := .ListComp elt (⟨c1,c2,c3,0⟩::cs) scope pos) (use:=some (assign (.Name x p') X.env)) rfl hs (yn hfree) hcs.kind (fun x hx hl=>WG hcs.nd (by rw [← hl];exact hx)) ?_
 show wpAny _ _ (eval c2 X.env) _ _ s
 unfold qh at P
 cases ef:fi r st with
 |no=>rw [ef] at P;exact P.elim
 |ex xx s1 =>
  rw [ef] at P
  refine thn (hi pins s σ H (fun _ _=>False) I ⟨b,r,st,S,RE,by rw [ef];exact P⟩) fun v s2 h2=>thn h2 fun itv s3 h3 => ?_
  obtain ⟨_,_,_,_,_,_,_,_,_,_,z⟩:=h3
  exact z.elim
 |ok w s1 =>
  rw [ef] at P
  refine thn (hi pins s σ H (fun J H' => ∃ b',Ext H b H' b'∧SR X.K H' b' s1∧Zu X.K H' b' J w) I ⟨b,r,st,S,RE,by rw [ef];exact fun J H' b' e' S' i'=>⟨b',e',S',i'⟩⟩) fun v s2 h2=>thn h2 fun itv s3 h3 => ?_
  obtain ⟨it,fp,tn,J,H2,rfl,I2,T,t2,f2,b2,e2,S2,i2⟩:=h3
  have P:PostN X.K E H b (match qm w.G (QG ⟨fi,g,ts⟩ (QR gs f) (w5 caps locN.length r)) w.l s1 with | .ok l s'=>if l.length≤sizeLine then .ok l s' else .no |_ => .no) (fun v H'=>D0.nx (σ.set i (some v)) H'):=P
  cases ev:qm w.G (QG ⟨fi,g,ts⟩ (QR gs f) (w5 caps locN.length r)) w.l s1 with
  |no=>rw [ev] at P;exact P.elim
  |ex xx s4=>rw [ev] at P;exact P.elim
  |ok l st' =>
   rw [ev] at P
   have P:PostN X.K E H b (if l.length≤sizeLine then .ok l st' else .no) (fun v H'=>D0.nx (σ.set i (some v)) H'):=P
   by_cases hl:l.length≤sizeLine
   ·rw [AG hl] at P
    have hfr:H2 s3.heap.objs.size=none:=I2.hok.fresh (AM _)
    refine CT ?_
    generalize hs3:({ s3 with heap:=s3.heap.push { cls := .type "list",data := .seq ([]:List Value).toArray } }:Shared)=s3'
    have I3:L2.Inv X pins σ (upd H2 s3.heap.objs.size (.lst [])) s3':=by
     rw [← hs3]
     exact I2.laid (t':=s3.toks) (fun a u e=>AF _ e) (AM _) (show ObjOk X.prog X.w _ _ _ (.lst []) from ⟨A6 _,[],0,.nil,AW _ rfl⟩)
    have k3:∀ a o,s3.heap.get? a=some o->s3'.heap.get? a=some o:=fun a o e=>by rw [← hs3];exact AF _ e
    have hlt:∀ a∈fp,a < s3.heap.objs.size:=fun a ha=>by
     obtain ⟨o,e,_⟩:=T.obj _ _ t2 a ha
     exact AK e
    have f3:∀ a∈fp,z8 X pins (upd H2 s3.heap.objs.size (.lst [])) a:=fun a ha=>⟨by rw [qV (AX (hlt a ha))];exact (f2 a ha).1,(f2 a ha).2⟩
    have hlt3:∀ a∈fp,a < s3'.heap.objs.size:=fun a ha=>by
     obtain ⟨o,e,_⟩:=T.obj _ _ t2 a ha
     exact AK (k3 a o e)
    generalize hD:s3.heap.objs.size=D at I3 f3 hfr
    refine jy ?_
    have J0:=yW hcs I3 f3 hlt3 rfl
    obtain ⟨he,hg,hgs⟩:=sub s3' (upd H2 D (.lst [])) fp (X.pn++pins)
    have k4:∀ a o,s3'.heap.get? a=some o->(pushCells (s3'.heap.push { cls := .type "dict",data := .dict #[] }) scope.names).get? a=some o:=fun a o e=>CV _ _ _ _ (AF _ e)
    have hDz:D ∉ b2.z:=(S2.new_notin hfr).2
    have loop:=Ya (X:=cCx X scope (capN++locN) s3' (upd H2 D (.lst [])) fp (X.pn++pins)) (fun _ _ z=>z) (gens:=⟨c1,c2,c3,0⟩::cs) (scope:=scope) (pos:=pos) (D:=D) he gs cs 0 ⟨c1,c2,c3,0⟩ ⟨fi,g,ts⟩ rfl hg hgs [] _ _ _ ⟨b2.b,D::b2.z⟩ (w5 caps locN.length r) s1 st' it fp tn J w [] l
     (compPost (model X.prog X.w) X.A X.xe (some (assign (.Name x p') X.env)) (fun _ s' => ∃ v H',L2.Inv X pins (σ.set i (some v)) H' s'∧D0.nx (σ.set i (some v)) H') (.ref D) s3'.heap.objs.size) J0 (SR.hide S2 hfr) (ju ((RE.ext e2).wext (WE.hide hfr))) AE Qk T (T.keep _ _ _ t2 fun a ha o e=>k4 a o (k3 a o e))
     (fun a ha=>⟨(f3 a ha).1,(J0.ok.exf a ha).1,J0.ok.exfs a ha,.inl ha,(J0.ok.exf a ha).2,fun p hp=>(f3 a ha).2.2.2.2.2 p (by simpa [cCx] using hp)⟩) (YV i2 hfr) ev (by simpa using hl)
     (fun s' σ' H' b' lV I' e' S' R' hD' r'=>by
      obtain ⟨m,hn,_⟩:=I'.loc
      have hn:s'.heap.Ns s3'.heap.objs.size m:=hn
      have fin:L2.Inv X pins σ H' s':=JK I3 f3 I' ⟨rfl,fun _ _=>rfl⟩
      have hC:H' s3'.heap.objs.size=none:=I'.free
      have fpC:z8 X pins H' s3'.heap.objs.size:=I3.fpOk (AM _) hC
      obtain ⟨oC,esC,epC,hoC,hdC,hkC⟩:=id hn
      have finp:=fin.pinned (fp:=[s3'.heap.objs.size]) (fun b hb=>by rw [Ai.mp hb];exact fpC) (fun b hb=>by rw [Ai.mp hb];exact ⟨oC,hoC,fun v z=>by rw [hdC] at z;cases z⟩)
      have hz':b'.z=D::b2.z:=e'.same
      show wpAny (model X.prog X.w) X.A (assign (.Name x p') X.env (.ref D)) _ _ s'
      refine wpAny_assign_Name ?_
      refine zS finp hN hi' hx (v := .ref D) rfl (fun s'' I'' => ?_) hf
      have hpin:s''.heap.get? s3'.heap.objs.size=some oC:=by
       have hm:(s3'.heap.objs.size,oC)∈X.pn++(pins++zu [s3'.heap.objs.size] s'.heap):=by
        unfold zu
        simp [hoC]
       exact (I''.pin _ hm).1
      refine ⟨m,⟨oC,esC,epC,hpin,hdC,hkC⟩,fun h'' sb=>⟨.ref D,H',(I''.unpinned).turned (t':=s''.toks) (fun b o hb e=>sb.extBut b o hb e) fpC.1 fpC.2.1 fpC.2.2.2.1 fpC.2.2.2.2.1 (fun p hp=>fpC.2.2.2.2.2 p hp),?_⟩⟩
      have ex:Ext H2 b2 H' ⟨b'.b,b2.z⟩:=by
       refine ⟨⟨?_,⟨[],rfl,by simp⟩,fun a o ha ho => ?_,fun a o ha => ?_⟩,rfl,fun a o hz ha => ?_,fun a o u ha=>e'.fz a o u (qM ha hfr) (by rw [qV (qM ha hfr)];exact ha)⟩
       ·obtain ⟨n,hb,hh⟩:=e'.more
        exact ⟨n,hb,fun a ha=>by
         have:=hh a ha
         by_cases q:a=D
         ·rw [q];exact hfr
         ·rwa [qV q] at this⟩
       ·have hne:a≠D:=qM ha hfr
        exact e'.keep a o (by rw [qV hne];exact ha) ⟨ho.1,fun z=>(AL.mp z).elim hne ho.2⟩
       ·have hne:a≠D:=qM ha hfr
        exact e'.dom a o (by rw [qV hne];exact ha)
       ·have hne:a≠D:=qM ha hfr
        exact e'.hid a o (AB _ hz) hne (by rw [qV hne];exact ha)
      have hb':(⟨b'.b,D::b2.z⟩:Bz)=b':=by rw [← hz']
      refine P D lV H' ⟨b'.b,b2.z⟩ (e2.trans ex) (e2.none_of hfr) (by simpa using hD') hDz ?_ ?_
      ·show SR X.K H' ⟨b'.b,D::b2.z⟩ st'
       rw [hb'];exact S'
      ·show RVs X.K H' ⟨b'.b,D::b2.z⟩ l lV
       rw [hb'];exact r')
    exact W3 rfl rfl loop (T.self X.A 0 _ _ _ (T.keep _ _ _ t2 fun a ha o e=>k4 a o (k3 a o e)) loop)
   ·rw [AH hl] at P;exact P.elim
end EV
namespace EV
open PySem PySem.Spec PyProof.Rows L2
section
variable {X:Cx} {E:XK} {x:Str} {p' pos2:Pos} {elt:Expr} {c:Comprehension} {cs:List Comprehension} {scope:Scope} {pos:Pos} {capN locN:List Str} {caps:List Nat} {fi:FI} {g:FG} {ts:List FT} {gs:List GenF} {f:FE}
theorem qAo (i:Nat) (hN:X.N.Nodup) (hcs:CSc X scope capN locN caps)
  (hi:VI X E c.target c.iter fi) (sub:∀ s H fp pn,VE (cCx X scope (capN++locN) s H fp pn) E0 elt f∧GOk (cCx X scope (capN++locN) s H fp pn) c ⟨fi,g,ts⟩∧GsOk (cCx X scope (capN++locN) s H fp pn) cs gs)
  (hi':X.N[i]? = some x:=by rfl) (hx:Loc X.env.scope x:=by first |exact Or.inl rfl |exact Or.inr rfl) (hf:X.fn x=true∨X.env.scope.names.lookup x=some .local:=by first |exact .inl rfl |exact .inr rfl |assumption)
  (hsw:swapsWith (.ListComp elt (c::cs) scope pos) (some (.Name x p')) pos2.line X.env=pure true:=by rfl) (hs:∀ x,foldedSetIterable c.iter X.env x=pure x:=by intro _;rfl) :
  VS X E (.Assign [.Name x p'] (.ListComp elt (c::cs) scope pos) pos2) (ql i (vFz (qh caps locN.length fi g ts gs f))) :=
 PS.imp (qBK i hN hi' hx hf hsw hcs hi sub hs) fun D s H ⟨b,r,st,S,R,P⟩=>⟨b,r,st,S,R,PostN.of (PostE.bindS P fun p s1 u H1 b1 e1 S1 r1 P1=>P1 _ H1 b1 (Ext.refl _ _) S1 ((R.ext e1).set r1 i))⟩
theorem qCP (i:Nat) (hN:X.N.Nodup) (hcs:CSc X scope capN locN caps)
  (hi:VI X E c.target c.iter fi) (sub:∀ s H fp pn,VE (cCx X scope (capN++locN) s H fp pn) E0 elt f∧GOk (cCx X scope (capN++locN) s H fp pn) c ⟨fi,g,ts⟩∧GsOk (cCx X scope (capN++locN) s H fp pn) cs gs)
  (hi':X.N[i]? = some x:=by rfl) (hx:Loc X.env.scope x:=by first |exact Or.inl rfl |exact Or.inr rfl) (hf:X.fn x=true∨X.env.scope.names.lookup x=some .local:=by first |exact .inl rfl |exact .inr rfl |assumption)
  (hsw:swapsWith (.ListComp elt (c::cs) scope pos) (some (.Name x p')) pos2.line X.env=pure true:=by rfl) (hs:∀ x,foldedSetIterable c.iter X.env x=pure x:=by intro _;rfl) :
  VS X E (.Assign [.Name x p'] (.ListComp elt (c::cs) scope pos) pos2) (WO i (qh caps locN.length fi g ts gs f)) :=
 PS.imp (qBK i hN hi' hx hf hsw hcs hi sub hs) fun D s H ⟨b,r,st,S,R,P⟩ =>
  ⟨b,r,st,S,R,PostN.bindS (k:=fun q s => .nx (r.set i (some q)) s) P fun p s1 u H1 b1 e1 S1 r1 P1=>P1 _ H1 b1 (Ext.refl _ _) S1 ((R.ext e1).set r1 i)⟩
end
end EV
end
section
namespace EX
open PySem PySem.Spec PyProof.Rows L2
end EX
namespace EV
open PySem PySem.Spec PyProof.Rows L2 EX
end EV
end
section
namespace EV
open PySem PySem.Spec PyProof.Rows L2 EX
section
variable {X:Cx} {E:XK}
def qHS (sc:Scope) (x:Str):Bool:=match sc.names.lookup x with
 |some .local=>true
 |some .cell=>true
 |some .free=>true
 |_=>false
theorem qG5 {sc:Scope} {x:Str} (h:qHS sc x=true):Vis sc x:=by
 unfold qHS at h
 unfold Vis
 split at h
 ·rename_i e;exact .inl e
 ·rename_i e;exact .inr (.inl e)
 ·rename_i e;exact .inr (.inr e)
 ·cases h
theorem qF (i:Nat) {x:Str} {pos:Pos} (hN:X.N[i]? = some x:=by rfl) (hv:qHS X.env.scope x=true:=by rfl) (hd:((x==("__debug__":Str)) || (x==("__classdict__":Str)))=false:=by rfl):VE X E (.Name x pos) (qB i):=by
 rw [Bool.or_eq_false_iff] at hd
 exact qIH (pv i hN (qG5 hv) hd.1 hd.2)
def frB (X:Cx):List (Str×NameKind)->Bool
 |[]=>true
 |(x,.free)::l=>(match X.env.kindOf x with |some .cell=>true |some .free=>true |_=>false)&&frB X l
 |_::l=>frB X l
theorem qD1:∀ {l:List (Str×NameKind)},frB X l=true -> ∀ x∈l,x.2 = .free->(X.env.kindOf x.1=some .cell∨X.env.kindOf x.1=some .free)
 |[],_,x,hx,_=>by cases hx
 |(y,k)::l,h,x,hx,hk=>by
  rcases AL.mp hx with rfl |hx
  ·have hk:k = .free:=hk
   subst hk
   unfold frB at h
   rw [Ay] at h
   have h:=h.1
   split at h
   ·rename_i e;exact .inl e
   ·rename_i e;exact .inr e
   ·cases h
  ·refine qD1 (l:=l) ?_ x hx hk
   unfold frB at h
   split at h
   ·rename_i he;cases he
   ·rename_i he;cases he;rw [Ay] at h;exact h.2
   ·rename_i he;cases he;exact h
def qEd (X:Cx) (l:List (Str×NameKind)):List Str->List Nat->Prop
 |x::xs,j::js=>(X.N[j]? = some x∧l.lookup x=some .free)∧qEd X l xs js
 |_,_=>True
theorem ya {x:Str} {k:NameKind}:∀ {l:List (Str×NameKind)},l.lookup x=some k->(x,k)∈l
 |[],h=>by cases h
 |(y,q)::l,h=>by
  rw [Ax] at h
  split at h
  ·rename_i e;cases h;rw [eq_of_beq e];exact AE
  ·exact AB _ (ya h)
theorem qA4 {l:List (Str×NameKind)}:∀ {xs:List Str} {js:List Nat},qEd X l xs js -> ∀ (i:Nat) (x:Str) (j:Nat),xs[i]? = some x->js[i]? = some j->X.N[j]? = some x∧(x,NameKind.free)∈l
 |[],_,_,i,x,j,h1,_=>by cases h1
 |_::_,[],_,i,x,j,_,h2=>by cases h2
 |a::xs,b::js,h,i,x,j,h1,h2=>by
  unfold qEd at h
  cases i with
  |zero=>cases h1;cases h2;exact ⟨h.1.1,ya h.1.2⟩
  |succ i=>exact qA4 h.2 i x j h1 h2
theorem Qd {scope:Scope} {capN locN:List Str} {caps:List Nat} (h1:scope.kind = .function) (h2:(scope.names.map (·.1)).Nodup) (h3:frB X scope.names=true) (h4:capN.length=caps.length) (h5:qEd X scope.names capN caps):CSc X scope capN locN caps :=
 ⟨h1,h2,qD1 h3,h4,qA4 h5⟩
end
end EV
end
section
namespace EX
open PySem PySem.Spec PyProof.Rows L2
end EX
namespace EV
open PySem PySem.Spec PyProof.Rows L2 EX
end EV
end
section
namespace EV
open PySem PySem.Spec PyProof.Rows L2 EX
section
variable {X:Cx} {E:XK} {e:Expr} {es:List Expr} {pos:Pos}
theorem qJb {a:Expr} {n:Str} {f:FE} {g:FA} (h:VE X E (.Attribute a n pos) f) (h2:VA X E es g):VA X E (.Attribute a n pos::es) (qA f g):=Qp h h2 rfl
end
end EV
end
section
namespace EX
open PySem PySem.Spec PyProof.Rows L2
end EX
namespace EV
open PySem PySem.Spec PyProof.Rows L2 EX
end EV
end
section
namespace EX
open PySem PySem.Spec PyProof.Rows L2
end EX
namespace EV
open PySem PySem.Spec PyProof.Rows L2 EX
end EV
end
section
namespace EX
open PySem PySem.Spec PyProof.Rows L2
end EX
namespace EV
open PySem PySem.Spec PyProof.Rows L2 EX
end EV
end
section
namespace EV
open PySem PySem.Spec PyProof.Rows L2 EX
section
variable {X:Cx} {E:XK} {e a c d:Expr} {es:List Expr} {f fa fb fc:FE} {fl:FL} {pos:Pos} {F G:FS}
def qAB (f:FE) (lo hi:FO):FE:=fun r st=>(f r st).bind fun p s1=>(lo r s1).bind fun k s2=>(hi r s2).bind fun m s3=>match asL s3 p with
 |some l => .ok (.lst (qAC l k m)) s3
 |none => .no
theorem qFH {l:List PV} {xs:List V} (h:l.length=xs.length) {K:W.Frag} {H:Hp} {b:Bz} (r:RVs K H b l xs) (k m:Option Int):RVs K H b (qAC l k m) (qCB xs k m):=by
 unfold qAC qCB
 rw [h]
 exact RVs.take _ (RVs.drop _ r)
theorem qCf {lo hi:Option Expr} {flo fhi:FO} {p2:Pos} (h:VE X E e f) (hl:VO X E lo flo) (hh:VO X E hi fhi):VE X E (.Subscript e (.Slice lo hi none p2) pos) (qAB f flo fhi) :=
 PE.imp (qDF qEc h hl hh) fun s H Q ⟨b,r,st,S,R,P⟩=>⟨b,r,st,S,R,PostE.bind P fun p s1 u H1 b1 e1 S1 r1 P1=>⟨b1,r,s1,S1,R.ext e1,PostO.bind P1 fun k s2 H2 b2 e2 S2 P2=>⟨b2,r,s2,S2,(R.ext e1).ext e2,PostO.bind P2 fun m s3 H3 b3 e3 S3 P3=>by
  split at P3
  ·rename_i l el
   obtain ⟨x,xs,rfl,h2,h3⟩:=Qj S3 (RV.ext e3 _ (RV.ext e2 _ r1)) el
   refine ⟨x,xs,rfl,h2,fun p hp=>PostN.lay (PostN.of (r := .ok (qAC l k m) s3) P3) S3 (qFH h3.length h3 k m) hp⟩
  ·exact P3.elim⟩⟩⟩
def vMk (f:FL):FE:=fun r st=>(f r st).bind fun l s => .ok (.ref s.length) (s++[.l l])
theorem PostN.bindE {K:W.Frag} {E:XK} {H:Hp} {b:Bz} {r:Rs (List PV)} {Q:VK} (P:PostE K E H b (r.bind fun l s => .ok (.ref s.length) (s++[.l l])) Q):PostN K E H b r Q:=by
 cases r with
 |ok l st =>
  intro p xs H' b' e hn hp hz S rs
  have hl:b'.b.length=st.length:=S.len
  refine P (.ref p) H' ⟨b'.b++[p],b'.z⟩ (e.adopt hn) (S.slot (x := .l l) hz hp ⟨xs,rfl,rs⟩) ?_
  unfold RV
  exact ⟨p,rfl,by show (b'.b++[p])[st.length]? = some p;rw [← hl];simp⟩
 |ex x st=>exact P
 |no=>exact P
theorem qIQ {f:FL} (h:VN X E e f):VE X E e (vMk f):=PE.imp h fun s H Q ⟨b,r,st,S,R,P⟩=>⟨b,r,st,S,R,PostN.bindE P⟩
end
end EV
end
section
namespace EX
open PySem PySem.Spec PyProof.Rows L2
end EX
namespace EV
open PySem PySem.Spec PyProof.Rows L2 EX
end EV
end
section
namespace EX
open PySem PySem.Spec PyProof.Rows L2
def byT (w:World):Bool:=w.params.followText "set-order"
def qC4:List Nat->List (List Nat)
 |[]=>[[]]
 |x::xs=>qC4 xs++(qC4 xs).map (x :: ·)
def ze (k:Nat):List (List Nat):=(qC4 (List.range 8)).filter fun l=>Nat.beq l.length k
def yj (place:Array Nat):SetTable:=⟨7,place,#[],0,true,0,true⟩
def qCq (pl:List Nat) (k:Nat) (h:Int):Bool:=match (yj pl.toArray).freeSlot h with
 |some (slot,false)=>decide ((SetTable.insertAt pl.toArray (SetTable.below pl.toArray slot) slot).toList∈ze (k + 1))
 |_=>false
structure TbOk (w:World) (t:SetTable) (k:Nat):Prop where
 mask:t.mask=7
 dum:t.dummies = #[]
 led:t.led = !byT w
 pl:t.plain=true
 ris:t.place.toList∈ze k
theorem ZJ {k:Nat} {l:List Nat} (h:l∈ze k):l.length=k:=by
 unfold ze at h
 exact Nat.eq_of_beq_eq_true (CC.mp h).2
theorem JU {t:SetTable} (hm:t.mask=7) (hd:t.dummies = #[]) (f:Nat->Int) (h:Int):∀ (n:Nat) (p:SetTable.Probe),SetTable.probe.go t f h n p=SetTable.probe.go (yj t.place) f h n p:=by
 intro n
 obtain ⟨m,pl,d,fi,le,mo,pn⟩:=t
 have hm:m=7:=hm
 have hd:d = #[]:=hd
 subst hm;subst hd
 induction n with
 |zero=>intro p;rfl
 |succ n ih =>
  intro p
  rw [SetTable.probe.go,SetTable.probe.go]
  simp only [ih]
  rfl
theorem yb {t:SetTable} (hm:t.mask=7) (hd:t.dummies = #[]) (h:Int):t.freeSlot h=(yj t.place).freeSlot h:=by
 have e0:(yj t.place).probeStart h=t.probeStart h:=by unfold SetTable.probeStart yj;rw [hm]
 unfold SetTable.freeSlot SetTable.probe
 rw [JU hm hd,e0,hm]
 rfl
section
variable {prog:Program} {w:World} {A:Around} {E:Value->Shared->Prop} {s:Shared}
theorem qHT {k n:Int} {tk:Tok}:(intKind prog w).is k (.int n tk)=decide (n=k):=by
 by_cases h:n=k
 ·subst h;rw [CN];exact (AS rfl).symm
 ·rw [Aa h]
  cases e:(intKind prog w).is k (.int n tk) with
  |false=>rfl
  |true=>exact absurd ((intKind prog w).inj _ _ _ (CN prog w n tk) e) h
theorem jW {a:Value} {Q:Value->Shared->Prop} (h:Q (.ref s.heap.objs.size) { s with heap:=s.heap.push { cls := .type "set",data := .set #[] 0 (SetTable.fresh 0 0 (!byT w)) } }) :
  codeAny (model prog w) A (.call (.builtin "set.__new__") ⟨[.type "set",a],[]⟩) (wants Q E) s:=by
 refine B0 F.plain_set_new F.entry_set_new (AZ (F.newCall_set_1 a) ?_)
 unfold Builtin.«set.__new__» Builtin.Frozenset.newClass
 dsimp only
 refine AA (AA (AZ (a:=true) rfl ?_))
 rw [AH (by decide)]
 refine AA (AZ sub_set_self ?_)
 rw [AH (by decide)]
 refine AD (AA ?_)
 unfold newSet setsByText
 refine AA (AA (B6 (AD ?_)))
 dsimp only
 unfold newObj
 dsimp only
 rw [AH (by decide)]
 unfold newObjAsIs
 refine AA (wpAny_alloc ?_)
 dsimp only
 exact AD (AD h)
end
theorem jE:entryFor table "set.__iter__" = some Builtin.«frozenset.__iter__» := entryFor_alias (id' := "frozenset.__iter__") (by kernel_rfl) (by kernel_rfl) (by kernel_rfl) (by kernel_rfl)
theorem ZK:entryFor table "set_iterator.__next__" = some Builtin.«set_iterator.__next__» := entryFor_of_fast (by kernel_rfl)
theorem slot_setit:Slot "set_iterator" (Str.ofString "__next__") "set_iterator.__next__" := @Slot.of "set_iterator" (Str.ofString "__next__") "set_iterator.__next__" "set_iterator" "__next__" (by rw [typeLookup_type,builtinLookup_eq_fast];rfl) (by decide) (by decide) (by decide) (Or.inl (by decide +kernel)) (by rw [isSubtype_type];rfl) (by decide +kernel)
theorem yS (a:Value):argsOk "set_iterator.__next__" { pos:=[a] }:=by
 unfold argsOk
 kernel_rfl
theorem qBO {α:Type}:∀ {l:List α} {i:Nat} (h:i < l.length),(l[i]::l.eraseIdx i).Perm l
 |x::l,0,_ => .refl _
 |x::l,i + 1,h=>(List.Perm.swap x _ _).trans ((qBO (l:=l) (i:=i) (by simpa using h)).cons x)
theorem qBQ {α:Type} (next:Nat->Nat):∀ (n k:Nat) (left:List α) (out:Array α),left.length=n->(pickOrder.go next n k left out).toList.Perm (out.toList++left)
 |0,k,left,out,h=>by
  have:left=[]:=Bj h
  subst this
  show out.toList.Perm _
  rw [A8]
 |n + 1,k,left,out,h=>by
  have hl:next k % left.length < left.length:=Nat.mod_lt _ (by omega)
  show (match left[next k % left.length]? with |some x=>pickOrder.go next n (k + 1) (left.eraseIdx (next k % left.length)) (out.push x) |none=>out).toList.Perm _
  rw [AI hl]
  dsimp only
  refine (qBQ next n (k + 1) _ _ (by rw [List.length_eraseIdx_of_lt hl];omega)).trans ?_
  rw [Array.toList_push,Aj]
  exact List.Perm.append_left _ (qBO hl)
def Q8 (w:World) (a:Addr) (ep:Nat) (es:Array (Int×Value)):Array (Int×Value):=if byT w=true then pickOrder (w.params.setOrder a ep) es else es
theorem j6 {w:World} {a:Addr} {ep:Nat} {es:Array (Int×Value)}:(Q8 w a ep es).toList.Perm es.toList:=by
 unfold Q8
 split
 ·exact qBQ _ _ _ _ _ (by simp)
 ·exact .refl _
theorem Wj {w:World} {a:Addr} {ep:Nat} {es:Array (Int×Value)}:(Q8 w a ep es).size=es.size:=by
 have:=(j6 (w:=w) (a:=a) (ep:=ep) (es:=es)).length_eq
 rwa [AR,AR] at this
theorem YX:entryFor table "list.extend.loop" = some Builtin.«list.extend.loop» := entryFor_of_fast (by kernel_rfl)
theorem WW:plainId "list.extend.loop" = true:=by decide +kernel
section
variable {prog:Program} {w:World} {A:Around} {E:Value->Shared->Prop} {R:Result->Shared->Prop} {a it:Addr} {es:Array (Int×Value)} {ep:Nat} {t:SetTable}
theorem hint_set {s:Shared} {Q:Bool->Shared->Prop} (hT:s.TypeIs (.ref a) "set") (h:Q false s):wpAny (model prog w) A (Builtin.List.listLengthHint (.ref a)) Q E s:=by
 unfold Builtin.List.listLengthHint
 refine AA (CW hT F.slot_set_len.lookup ?_)
 dsimp only
 rw [show splitId "set.__len__" = some ("set","__len__") by decide]
 dsimp only
 refine AA (A1 hT sub_set_self ?_)
 rw [AH (by decide),AG (by decide +kernel)]
 exact AA (Bq hT (AD h))
end
end EX
namespace EV
open PySem PySem.Spec PyProof.Rows L2 EX
section
variable {X:Cx} {E:XK} {e:Expr} {f:FE} {p p2 pos pos2:Pos}
theorem zM {K:W.Frag} {H:Hp} {b:Bz}:∀ (ns:List Int),RVs K H b (ns.map PV.int) (ns.map V.int)
 |[]=>RVs.nil
 |n::ns=>RVs.cons Q9 (zM ns)
end
end EV
end
section
namespace EX
open PySem PySem.Spec PyProof.Rows L2
inductive LexG (A:Around) (s:Shared) (r:Bool):List Value->List Value->Prop where
 |nn:r=false->LexG A s r [] []
 |nc {w ws}:r=true->LexG A s r [] (w::ws)
 |cn {v vs}:r=false->LexG A s r (v::vs) []
 |eq {v vs w ws}:SeqAt.EqAt A s v w true->LexG A s r vs ws->LexG A s r (v::vs) (w::ws)
 |ne {v vs w ws}:SeqAt.EqAt A s v w false->(∀ (prog:Program) (wd:World) (E:Value->Shared->Prop) (Q:Value->Shared->Prop),Q (.bool r) s->wpAny (model prog wd) A (richCompare .Lt v w) Q E s)->LexG A s r (v::vs) (w::ws)
section
open PySem.SeqAt
open PySem.AutoSeq1 (wpAny_loadPart')
open PySem.MeetsSeq PySem.MeetsSeq2 PySem.MeetsSeq3
theorem jF (l b:Addr) (items items2:Array Value) (n n2:Nat) (dd dd2:Option Addr) (sl sl2:Array (Option Value)) (r:Bool) :
  Meets (Builtin.«tuple.__lt__» ⟨[.ref l,.ref b],[]⟩)
   (fun A R s=>s.heap.get? l=some { cls := .type "tuple",dict:=dd,data := .seq items n,slots:=sl }∧s.heap.get? b=some { cls := .type "tuple",dict:=dd2,data := .seq items2 n2,slots:=sl2 }∧LexG A.in1 s r items.toList items2.toList ∧
    R (.ok (.ret (.bool r))) s) :=
 .of_wp fun prog w A R s h=>by
  obtain ⟨hp,g,d,tk,os⟩:=s;obtain ⟨hl,hb,hG,h⟩:=h
  have f2:=AutoSeq1.sub_tuple_tuple
  wp_walk using wpAny_loadPart' hl,wpAny_loadPart' hb,wpAny_forIn_list _ (fun rest b s'=>b.1=none∧s'=⟨hp,g,d,tk,os⟩ ∧ ∃ (vs ws:List Value),rest=vs.zip ws∧LexG A.in1 ⟨hp,g,d,tk,os⟩ r vs ws ∧
   vs.length + items2.size=ws.length + items.size) _
  case turn =>
   rintro ⟨y,x⟩ rest b s' ⟨hb',rfl,vs,ws,hz,hG',hlen⟩
   cases hG' with
   |nn _=>cases hz
   |nc _=>cases hz
   |cn _=>rw [List.zip_nil_right] at hz;cases hz
   |eq he hG2 =>
    rw [BJ] at hz
    injection hz with hyx hrest
    injection hyx with hy hx
    subst hy hx
    simp only [AT] at hlen
    refine AA (he prog w _ _ ?_)
    wp_walk
    exact ⟨rfl,rfl,_,_,hrest,hG2,by omega⟩
   |ne he hc =>
    rw [BJ] at hz
    injection hz with hyx hrest
    injection hyx with hy hx
    subst hy hx
    refine AA (he prog w _ _ ?_)
    have hri:=hc prog w
    wp_walk using hri
    exact ⟨_,rfl,by simpa using h⟩
  case fin =>
   rintro ⟨b1,b2⟩ s' ⟨hb',rfl,vs,ws,hz,hG',hlen⟩
   simp only at hb'
   subst hb'
   have hv:r=decide (items.size < items2.size):=by
    cases hG' with
    |nn hr =>
     simp only [Bv] at hlen
     rw [hr];exact (Aa (by omega)).symm
    |nc hr =>
     simp only [Bv,AT] at hlen
     rw [hr];exact (AS (by omega)).symm
    |cn hr =>
     simp only [Bv,AT] at hlen
     rw [hr];exact (Aa (by omega)).symm
    |eq he hG2=>rw [BJ] at hz;cases hz
    |ne he hc=>rw [BJ] at hz;cases hz
   rw [hv] at h
   wp_walk
   exact ⟨_,rfl,by simpa [Builtin.Tuple.tupleCompareSizes] using h⟩
  case h =>
   exact ⟨rfl,rfl,items.toList,items2.toList,rfl,hG,by simp;omega⟩
end
end EX
namespace EV
open PySem PySem.Spec PyProof.Rows L2 EX
mutual
def plt:PV->PV->Option Bool
 | .int i,.int j=>some (decide (i < j))
 | .tup l,.tup m=>plts l m
 |_,_=>none
def plts:List PV->List PV->Option Bool
 |[],[]=>some false
 |[],_::_=>some true
 |_::_,[]=>some false
 |p::ps,q::qs=>if peq p q=true then plts ps qs else plt p q
end
section
variable {X:Cx} {pins:List (Addr×Obj)} {σ:L2.St} {H:Hp} {s:Shared}
def qIZ (X:Cx) (H:Hp) (s:Shared) (A:Around) (p q:PV):Prop := ∀ {v u:V} {uv uu:Value} {r:Bool},RW X.K H p v->RW X.K H q u->RelV v uv->RelV u uu->plt p q=some r ->
  ∀ (prog:Program) (wd:World) (E:Value->Shared->Prop) (Q:Value->Shared->Prop),Q (.bool r) s->wpAny (model prog wd) A (richCompare .Lt uv uu) Q E s
theorem qGg (I:L2.Inv X pins σ H s) {n:Nat} {A:Around} {r:Bool} (hu:A.units + n < cLine) (ih:∀ p q,dep p≤n->qIZ X H s A p q):∀ {l m:List PV} {xs ys:List V} {its its2:List Value},deps l≤n->RWs X.K H l xs->RWs X.K H m ys->Vals xs its->Vals ys its2->plts l m=some r->LexG A s r its its2:=by
 intro l
 induction l with
 |nil =>
  intro m xs ys its its2 _ h1 h2 r1 r2 e
  unfold RWs at h1;subst h1;cases r1
  cases m with
  |nil=>unfold RWs at h2;subst h2;cases r2;unfold plts at e;cases e;exact .nn rfl
  |cons q qs=>unfold RWs at h2;obtain ⟨y,yr,rfl,_,_⟩:=h2;cases r2;unfold plts at e;cases e;exact .nc rfl
 |cons p ps ihl =>
  intro m xs ys its its2 hd h1 h2 r1 r2 e
  unfold RWs at h1
  obtain ⟨x,xr,rfl,hx,hxs⟩:=h1
  unfold deps at hd
  cases r1 with
  |cons rx rxs =>
   cases m with
   |nil=>unfold RWs at h2;subst h2;cases r2;unfold plts at e;cases e;exact .cn rfl
   |cons q qs =>
    unfold RWs at h2
    obtain ⟨y,yr,rfl,hy,hys⟩:=h2
    cases r2 with
    |cons ry rys =>
     have he:=qAx I n p q x y _ _ A (by omega) hu hx hy rx ry
     unfold plts at e
     cases hq:peq p q with
     |true =>
      rw [hq] at e he
      exact .eq he (ihl (by omega) hxs hys rxs rys e)
     |false =>
      rw [hq] at e he
      exact .ne he (ih p q (by omega) hx hy rx ry e)
theorem qII (I:L2.Inv X pins σ H s):∀ (n:Nat) (p q:PV) (A:Around),dep p≤n->A.units + n < cLine->qIZ X H s A p q:=by
 intro n
 induction n with
 |zero =>
  intro p q A hd hu v u uv uu r hp hq rv ru e prog wd E Q h
  cases p with
  |int i =>
   cases q with
   |int j =>
    unfold RW at hp hq
    subst hp;subst hq
    obtain ⟨t,rfl⟩:=rv
    obtain ⟨t',rfl⟩:=ru
    unfold plt at e
    cases e
    exact HT.rcLt_int A s i t j t' prog wd E Q h
   |_=>simp [plt] at e
  |tup l=>unfold dep at hd;omega
  |_=>cases q <;> simp [plt] at e
 |succ n ih =>
  intro p q A hd hu v u uv uu r hp hq rv ru e prog wd E Q h
  cases p with
  |int i =>
   cases q with
   |int j =>
    unfold RW at hp hq
    subst hp;subst hq
    obtain ⟨t,rfl⟩:=rv
    obtain ⟨t',rfl⟩:=ru
    unfold plt at e
    cases e
    exact HT.rcLt_int A s i t j t' prog wd E Q h
   |_=>simp [plt] at e
  |tup l =>
   cases q with
   |tup m =>
    unfold RW at hp hq
    obtain ⟨a,xs,rfl,h2,h3⟩:=hp
    obtain ⟨a',ys,rfl,k2,k3⟩:=hq
    cases rv;cases ru
    obtain ⟨its,r1,t1,_⟩:=I.tuple h2
    obtain ⟨its2,r2,t2,_⟩:=I.tuple k2
    unfold plt at e
    unfold dep at hd
    obtain ⟨⟨cls,dd,data,sl⟩,ho,hc,n1,hda⟩:=id t1
    obtain ⟨⟨cls2,dd2,data2,sl2⟩,ho2,hc2,n2,hda2⟩:=id t2
    simp only at hc hda hc2 hda2
    subst hc hda hc2 hda2
    have hu1:A.in1.units + n < cLine:=by show A.units + 1 + n < cLine;omega
    have G:=qGg I (n:=n) (A:=A.in1) hu1 (fun p q hd=>ih p q A.in1 hd hu1) (by omega) h3 k3 r1 r2 e
    exact richCompare_meets_room (op := .Lt) ⟨_,ho,rfl⟩ ⟨_,ho2,rfl⟩ PySem.F.slot_tuple_lt PySem.F.entry_tuple_lt (PySem.F.args_tuple_lt_2 _ _) (jF _ _ its.toArray its2.toArray n1 n2 dd dd2 sl sl2 r)
     ⟨ho,ho2,by simpa using G,show Value.bool r≠Value.notImplemented∧Q (.bool r) s from ⟨(fun x=>nomatch x),h⟩⟩ (by omega)
   |_=>simp [plt] at e
  |_=>cases q <;> simp [plt] at e
end
section
variable {X:Cx} {E:XK} {a c:Expr} {fa fb:FE} {pos:Pos}
def qH1 (K:W.Frag):R2:=fun u v H Q => ∃ p q r,RW K H p u∧RW K H q v∧dep p≤yq∧plt p q=some r∧Q (.bl r) H
theorem qGp (hr:X.A.units + 64 < cLine):OpR X (compareOp .Lt) (qH1 X.K):=by
 intro pins s σ H x y v u Q I rx ry h
 obtain ⟨p,q,r,hp,hq,hd,e,h⟩:=h
 exact qII I 60 p q X.A hd (by omega) hp hq rx ry e _ _ _ _ ⟨.bl _,H,I,rfl,h⟩
def qBs:PV->PV->qC->Rs PV:=fun p q st=>if zC (res st p) (res st q)=true then (match plt (res st p) (res st q) with |some r => .ok (.bl r) st |none => .no) else .no
theorem qHA:OpG X E (qH1 X.K) qBs:=by
 intro H b st p q u v Q S rp rq P
 unfold qBs at P
 split at P
 ·rename_i h
  obtain ⟨h1,h2,h3⟩:=ZD h
  split at P
  ·rename_i r hr
   exact ⟨_,_,r,zY S rp h1,zY S rq h2,h3,hr,PostE.here P S WM⟩
  ·exact P.elim
 ·exact P.elim
theorem qGi (hu:X.A.units + 64 < cLine) (ha:VE X E a fa) (hb:VE X E c fb):VE X E (.Compare a [.Lt] [c] pos) (qG qBs fa fb):=yf (qGp hu) qHA ha hb
end
end EV
end
section
namespace EV
open PySem PySem.Spec PyProof.Rows L2 EX
section
variable {X:Cx} {E:XK} {e:Expr} {te:TE} {f:FE} {p kp kpos pos:Pos} {j:Nat}
def qBL:=gI fun i j=>if 0 < j∧j < 2 ^ 64 then some (.int (i / j)) else none
theorem qDi:OpR X (binaryOp .FloorDiv) (rI (fun _ j=>0 < j∧j < 2 ^ 64) fun i j => .int (i / j)):=opI fun i j _ _ _ _ _ hc q=>by
 have h1:(0:Int) < j:=hc.1
 have h2:j < 2 ^ 64:=hc.2
 refine floordiv_int (by omega) (by rw [Int.fdiv_eq_ediv_of_nonneg i (by omega)];exact q) (.inl (PyProof.noPylong_of_log2 ?_))
 have h3:j.natAbs < 2 ^ 64:=by omega
 have h4:j.natAbs≠0:=by omega
 exact Nat.lt_trans ((Nat.log2_lt h4).mpr h3) (by decide)
theorem qE1 {a c:Expr} {fa fb:FE} (ha:VE X E a fa) (hb:VE X E c fb):VE X E (.BinOp a .FloorDiv c pos) (qG qBL fa fb):=Yl qDi (qE8 fun i j z e=>by
 split at e
 ·rename_i h;cases e;exact ⟨h,fun _ _=>Q9⟩
 ·cases e) ha hb
end
end EV
end
section
namespace ET
open PySem
def Rz (xs:Array Nat):Prop := ∀ i k,i < k->k < xs.size->xs.getD i 0 < xs.getD k 0
theorem qFa {xs:Array Nat} {i a b:Nat} (h:i < xs.size):xs.getD i a=xs.getD i b:=by
 rw [AN,AN,AQ h];rfl
theorem yH {xs:Array Nat} {j:Nat} (R:Rz xs):∀ (f lo hi:Nat),lo≤hi->hi≤xs.size->hi - lo≤f->(∀ i,i < lo->xs.getD i 0 < j)->(∀ i,hi≤i->i < xs.size->j≤xs.getD i 0) ->
  (∀ i,i < SetTable.below.go xs j f lo hi->xs.getD i 0 < j)∧(∀ i,SetTable.below.go xs j f lo hi≤i->i < xs.size->j≤xs.getD i 0)∧SetTable.below.go xs j f lo hi≤xs.size
 |0,lo,hi,h1,h2,h3,h4,h5=>by
  have:lo=hi:=by omega
  subst this
  exact ⟨h4,h5,h2⟩
 |f + 1,lo,hi,h1,h2,h3,h4,h5=>by
  unfold SetTable.below.go
  by_cases hl:lo < hi
  ·rw [AG hl]
   have hm1:lo≤(lo + hi) / 2:=by omega
   have hm2:(lo + hi) / 2 < hi:=by omega
   dsimp only
   rw [qFa (b:=0) (show (lo + hi) / 2 < xs.size by omega)]
   by_cases hq:xs.getD ((lo + hi) / 2) 0 < j
   ·rw [AG hq]
    refine yH R f _ _ (by omega) h2 (by omega) (fun i hi' => ?_) h5
    by_cases he:i=(lo + hi) / 2
    ·rw [he];exact hq
    ·exact Nat.lt_trans (R i _ (by omega) (by omega)) hq
   ·rw [AH hq]
    refine yH R f _ _ (by omega) (by omega) (by omega) h4 (fun i hi' hs => ?_)
    by_cases he:i=(lo + hi) / 2
    ·rw [he];omega
    ·have:=R _ i (show (lo + hi) / 2 < i by omega) hs
     omega
  ·rw [AH hl]
   have:lo=hi:=by omega
   subst this
   exact ⟨h4,h5,h2⟩
theorem wZ {xs:Array Nat} (R:Rz xs) (j:Nat):(∀ i,i < SetTable.below xs j->xs.getD i 0 < j)∧(∀ i,SetTable.below xs j≤i->i < xs.size->j≤xs.getD i 0)∧SetTable.below xs j≤xs.size :=
 yH R _ _ _ (A6 _) (AM _) (AM _) (fun i h=>absurd h (BG _)) (fun i h1 h2=>absurd h2 (by omega))
theorem qCp {xs:Array Nat} (R:Rz xs) {i:Nat} (h:i < xs.size):SetTable.below xs (xs.getD i 0)=i:=by
 obtain ⟨h1,h2,h3⟩:=wZ R (xs.getD i 0)
 by_cases hq:SetTable.below xs (xs.getD i 0)=i
 ·exact hq
 ·rcases Nat.lt_or_gt_of_ne hq with q |q
  ·have:=h2 _ (AM _) (by omega)
   have:=R _ _ q h
   omega
  ·have:=h1 i q;omega
theorem qAP {xs:Array Nat} (R:Rz xs) {i:Nat} (h:i < xs.size):SetTable.below xs (xs.getD i 0 + 1)=i + 1:=by
 obtain ⟨h1,h2,h3⟩:=wZ R (xs.getD i 0 + 1)
 by_cases hq:SetTable.below xs (xs.getD i 0 + 1)=i + 1
 ·exact hq
 ·rcases Nat.lt_or_gt_of_ne hq with q |q
  ·have:=h2 i (by omega) h
   omega
  ·have a:=h1 (i + 1) q
   have:=R i (i + 1) (by omega) (by omega)
   omega
theorem qAJ {xs:Array Nat} (R:Rz xs):SetTable.below xs 0=0:=by
 obtain ⟨h1,h2,h3⟩:=wZ R 0
 cases h:SetTable.below xs 0 with
 |zero=>rfl
 |succ n=>have:=h1 0 (by omega);omega
theorem mem_getD {xs:Array Nat} {j:Nat}:j∈xs.toList ↔ ∃ i,i < xs.size∧xs.getD i 0=j:=by
 constructor
 ·intro h
  obtain ⟨i,hi,e⟩:=List.getElem_of_mem h
  refine ⟨i,by simpa using hi,?_⟩
  rw [AN,AQ (by simpa using hi)]
  simpa using e
 ·rintro ⟨i,hi,rfl⟩
  rw [AN,AQ hi]
  exact Array.mem_toList_iff.mpr (Array.getElem_mem hi)
theorem qAv (j:Nat):SetTable.has #[] j=false:=by
 unfold SetTable.has
 simp
theorem Yw {t:SetTable} (R:Rz t.place) {i:Nat} (h:i < t.place.size):t.slot (t.place.getD i 0) = .live i:=by
 unfold SetTable.slot
 rw [qCp R h]
 dsimp only
 rw [AG]
 rw [AN,AQ h]
 simp
theorem qAH {t:SetTable} (hd:t.dummies = #[]) {j:Nat} (h:j ∉ t.place.toList):t.slot j = .empty:=by
 unfold SetTable.slot
 dsimp only
 rw [AH,hd,qAv]
 ·simp
 ·intro q
  refine h (mem_getD.mpr ⟨SetTable.below t.place j,?_⟩)
  have q:=eq_of_beq q
  obtain ⟨h1,h2⟩:=BV.mp q
  refine ⟨h1,?_⟩
  rw [AN,q];rfl
def qAF (mask:Nat) (p:SetTable.Probe):SetTable.Probe :=
 if p.more > 0 then { p with j:=p.j + 1,more:=p.more - 1 } else
 { p with j:=(SetTable.leap mask p.i p.perturb).1,more:=SetTable.runEnd mask (SetTable.leap mask p.i p.perturb).1 - (SetTable.leap mask p.i p.perturb).1,i:=(SetTable.leap mask p.i p.perturb).1,perturb:=(SetTable.leap mask p.i p.perturb).2 }
theorem qGP (t:SetTable) (p:SetTable.Probe):t.advance p=qAF t.mask p:=rfl
def sq (mask:Nat) (h:Int):Nat->SetTable.Probe
 |0=>⟨SetTable.bits h % (mask + 1),SetTable.runEnd mask (SetTable.bits h % (mask + 1)) - SetTable.bits h % (mask + 1),SetTable.bits h % (mask + 1),SetTable.bits h,none⟩
 |n + 1=>qAF mask (sq mask h n)
def lp (mask:Nat) (h:Int):Nat->Nat×Nat
 |0=>(SetTable.bits h % (mask + 1),SetTable.bits h)
 |n + 1=>SetTable.leap mask (lp mask h n).1 (lp mask h n).2
def rn (mask i:Nat):Nat:=SetTable.runEnd mask i - i
def lpN (mask:Nat) (h:Int):Nat->Nat
 |0=>0
 |n + 1=>lpN mask h n + rn mask (lp mask h n).1 + 1
theorem J7 {mask:Nat} {h:Int} {m n:Nat} (e:sq mask h n=⟨(lp mask h m).1,rn mask (lp mask h m).1,(lp mask h m).1,(lp mask h m).2,none⟩):∀ k,k≤rn mask (lp mask h m).1->sq mask h (n + k)=⟨(lp mask h m).1 + k,rn mask (lp mask h m).1 - k,(lp mask h m).1,(lp mask h m).2,none⟩
 |0,_=>e
 |k + 1,hk=>by
  rw [← Nat.add_assoc,sq,J7 e k (by omega)]
  unfold qAF
  rw [AG (show rn mask (lp mask h m).1 - k > 0 by omega)]
  show SetTable.Probe.mk _ _ _ _ _=_
  rw [show rn mask (lp mask h m).1 - k - 1=rn mask (lp mask h m).1 - (k + 1) by omega,Nat.add_assoc]
theorem qAl {mask:Nat} {h:Int}:∀ m,sq mask h (lpN mask h m)=⟨(lp mask h m).1,rn mask (lp mask h m).1,(lp mask h m).1,(lp mask h m).2,none⟩
 |0=>rfl
 |m + 1=>by
  rw [lpN,sq,J7 (qAl m) _ (AM _)]
  unfold qAF
  rw [AH (show ¬ rn mask (lp mask h m).1 - rn mask (lp mask h m).1 > 0 by omega)]
  rfl
theorem qF2 {mask:Nat} {h:Int} {m k:Nat} (hk:k≤rn mask (lp mask h m).1):(sq mask h (lpN mask h m + k)).j=(lp mask h m).1 + k:=by
 rw [J7 (qAl m) k hk]
theorem qHt (mask i:Nat):rn mask i≤9:=by
 unfold rn SetTable.runEnd
 split <;> omega
theorem qCJ {mask:Nat} {h:Int}:∀ m,lpN mask h m≤10 * m
 |0=>AM _
 |m + 1=>by
  have:=qCJ (mask:=mask) (h:=h) m
  have:=qHt mask (lp mask h m).1
  rw [lpN];omega
theorem qIC {mask:Nat} {h:Int}:∀ m,(lp mask h m).1≤mask
 |0=>CK (Nat.mod_lt _ (Ca _))
 |m + 1=>CK (Nat.mod_lt _ (Ca _))
theorem qAu {mask:Nat} {h:Int}:∀ m,(lp mask h m).2=SetTable.bits h / 32 ^ m
 |0=>by simp [lp]
 |m + 1=>by
  show (lp mask h m).2 / 32=_
  rw [qAu m,Nat.div_div_eq_div_mul,Nat.pow_succ]
theorem qEn (h:Int):SetTable.bits h < 2 ^ 64:=by
 unfold SetTable.bits
 have:=Int.emod_lt_of_pos h (show (0:Int) < 2 ^ 64 by decide)
 have:=Int.emod_nonneg h (show (2 ^ 64:Int)≠0 by decide)
 omega
theorem qGW {mask:Nat} {h:Int} (m:Nat) (hm:13≤m):(lp mask h m).2=0:=by
 rw [qAu]
 refine Nat.div_eq_of_lt (Au (qEn h) ?_)
 exact Am (show 2 ^ 64≤32 ^ 13 by decide) (Nat.pow_le_pow_right (by decide) hm)
def cy (mask:Nat) (a:Nat):Nat->Nat
 |0=>a
 |n + 1=>(cy mask a n * 5 + 1) % (mask + 1)
theorem yi {mask a:Nat} (m:Nat):∀ n,cy mask (cy mask a m) n=cy mask a (m + n)
 |0=>rfl
 |n + 1=>by rw [← Nat.add_assoc,cy,cy,yi m n]
def Cyc (mask:Nat):Prop := ∀ a,a≤mask -> ∀ e,e≤mask -> ∃ k,k≤mask∧cy mask a k=e
def cyl (mask:Nat):Nat->Nat->List Nat
 |0,_=>[]
 |n + 1,a=>a::cyl mask n ((a * 5 + 1) % (mask + 1))
theorem qBH {mask:Nat}:∀ (n a i:Nat),i < n->(cyl mask n a)[i]? = some (cy mask a i)
 |0,_,_,h=>absurd h (BG _)
 |n + 1,a,0,_=>rfl
 |n + 1,a,i + 1,h=>by
  rw [cyl,List.getElem?_cons_succ,qBH n _ i (by omega)]
  have:=yi (mask:=mask) (a:=a) 1 i
  rw [show i + 1=1 + i by omega,← this]
  rfl
theorem qA2 {mask:Nat}:∀ (n a:Nat),(cyl mask n a).length=n
 |0,_=>rfl
 |n + 1,a=>by rw [cyl,AT,qA2 n]
def qIe (mask:Nat):Bool:=Nat.beq (cy mask 0 (mask + 1)) 0&&(List.range (mask + 1)).all fun e=>(cyl mask (mask + 1) 0).any fun x=>Nat.beq x e
theorem jT {mask:Nat} (h:qIe mask=true):Cyc mask:=by
 unfold qIe at h
 rw [Ay,CP] at h
 obtain ⟨h0,hall⟩:=h
 have h0:=Nat.eq_of_beq_eq_true h0
 have hat:∀ e,e≤mask -> ∃ k,k≤mask∧cy mask 0 k=e:=fun e he=>by
  obtain ⟨x,hx,q⟩:=List.any_eq_true.mp (hall e (BE.mpr (by omega)))
  have q:=Nat.eq_of_beq_eq_true q
  obtain ⟨k,hk⟩:=BL hx
  have hl:=(AO.mp hk).1
  rw [qA2] at hl
  rw [qBH _ _ _ hl] at hk
  cases hk
  exact ⟨k,by omega,q⟩
 intro a ha e he
 obtain ⟨k1,h1,e1⟩:=hat a ha
 obtain ⟨k2,h2,e2⟩:=hat e he
 by_cases hq:k1≤k2
 ·refine ⟨k2 - k1,by omega,?_⟩
  rw [← e1,yi,show k1 + (k2 - k1)=k2 by omega,e2]
 ·refine ⟨k2 + (mask + 1) - k1,by omega,?_⟩
  rw [← e1,yi,show k1 + (k2 + (mask + 1) - k1)=(mask + 1) + k2 by omega,← yi,h0,e2]
theorem qJH:Cyc 7:=jT (by decide +kernel)
theorem qIV:Cyc 31:=jT (by decide +kernel)
theorem qGm:Cyc 127:=jT (by decide +kernel)
theorem qHO:Cyc 511:=jT (by decide +kernel)
theorem qFr {mask:Nat} {h:Int}:∀ n,(lp mask h (13 + n)).1=cy mask (lp mask h 13).1 n
 |0=>rfl
 |n + 1=>by
  show ((lp mask h (13 + n)).1 * 5 + 1 + (lp mask h (13 + n)).2 / 32) % (mask + 1)=_
  rw [qGW _ (by omega),qFr n]
  rfl
theorem qDJ {mask:Nat} {h:Int} (C:Cyc mask) {e:Nat} (he:e≤mask):∃ m,m≤mask + 13∧(lp mask h m).1=e:=by
 obtain ⟨k,hk,q⟩:=C _ (qIC (mask:=mask) (h:=h) 13) e he
 exact ⟨13 + k,by omega,by rw [qFr,q]⟩
theorem qGe {mask:Nat} {h:Int} (C:Cyc mask) {e:Nat} (he:e≤mask):∃ n,n < 10 * SetTable.turns mask∧(sq mask h n).j=e:=by
 obtain ⟨m,hm,q⟩:=qDJ (h:=h) C he
 refine ⟨lpN mask h m,?_,?_⟩
 ·have:=qCJ (mask:=mask) (h:=h) m
  unfold SetTable.turns;omega
 ·rw [qAl];exact q
structure TbG (t:SetTable) (n:Nat):Prop where
 dum:t.dummies = #[]
 sz:t.place.size=n
 ris:Rz t.place
 le:∀ j∈t.place.toList,j≤t.mask
 room:n≤t.mask
theorem qAW:∀ (n:Nat) (l:List Nat),l.length < n -> ∃ e,e < n∧e ∉ l
 |0,l,h=>absurd h (BG _)
 |n + 1,l,h=>by
  by_cases hn:n∈l
  ·obtain ⟨e,he,hq⟩:=qAW n (l.filter (· ≠ n)) (by
    have:(l.filter (· ≠ n)).length < l.length:=by
     apply List.length_filter_lt_length_iff_exists.mpr
     exact ⟨n,hn,by simp⟩
    omega)
   refine ⟨e,by omega,fun q=>hq (CC.mpr ⟨q,by simp;omega⟩)⟩
  ·exact ⟨n,by omega,hn⟩
theorem TbG.free {t:SetTable} {n:Nat} (T:TbG t n):∃ e,e≤t.mask∧e ∉ t.place.toList:=by
 obtain ⟨e,h1,h2⟩:=qAW (t.mask + 1) t.place.toList (by rw [AR,T.sz];have:=T.room;omega)
 exact ⟨e,by omega,h2⟩
theorem JC {P:Nat->Prop} (hd:∀ n,Decidable (P n)):∀ {n:Nat},P n -> ∃ k,k≤n∧P k ∧ ∀ m,m < k -> ¬ P m
 |0,h=>⟨0,AM _,h,fun m hm=>absurd hm (BG _)⟩
 |n + 1,h=>by
  by_cases hq:∃ m,m≤n∧P m
  ·obtain ⟨m,hm,hp⟩:=hq
   have:∀ (f:Nat) (m:Nat),m≤f->P m -> ∃ k,k≤m∧P k ∧ ∀ m',m' < k -> ¬ P m':=by
    intro f
    induction f with
    |zero =>
     intro m hm hp
     have:m=0:=by omega
     subst this
     exact ⟨0,AM _,hp,fun m hm=>absurd hm (BG _)⟩
    |succ f ih =>
     intro m hm hp
     by_cases hz:∃ m',m' < m∧P m'
     ·obtain ⟨m',h1,h2⟩:=hz
      obtain ⟨k,k1,k2,k3⟩:=ih m' (by omega) h2
      exact ⟨k,by omega,k2,k3⟩
     ·exact ⟨m,AM _,hp,fun m' h1 h2=>hz ⟨m',h1,h2⟩⟩
   obtain ⟨k,k1,k2,k3⟩:=this m m (AM _) hp
   exact ⟨k,by omega,k2,k3⟩
  ·exact ⟨n + 1,AM _,h,fun m hm hp=>hq ⟨m,by omega,hp⟩⟩
theorem TbG.first {t:SetTable} {n:Nat} (T:TbG t n) (C:Cyc t.mask) (h:Int):∃ k,k < 10 * SetTable.turns t.mask∧(sq t.mask h k).j ∉ t.place.toList ∧ ∀ m,m < k->(sq t.mask h m).j∈t.place.toList:=by
 obtain ⟨e,he,hq⟩:=T.free
 obtain ⟨k,hk,hj⟩:=qGe (h:=h) C he
 obtain ⟨k',k1,k2,k3⟩:=JC (P:=fun k=>(sq t.mask h k).j ∉ t.place.toList) (fun _=>inferInstance) (n:=k) (by rw [hj];exact hq)
 exact ⟨k',by omega,k2,fun m hm=>Decidable.not_not.mp (k3 m hm)⟩
theorem yM (mask:Nat) (h:Int):∀ n,(sq mask h n).dummy=none
 |0=>rfl
 |n + 1=>by
  rw [sq];unfold qAF
  split
  ·exact yM mask h n
  ·exact yM mask h n
theorem Je {t:SetTable} {n:Nat} (T:TbG t n) (f:Nat->Int) (h:Int) {k:Nat} (hk:(sq t.mask h k).j ∉ t.place.toList) (hb:∀ m,m < k->(sq t.mask h m).j∈t.place.toList):∀ (F m:Nat),m≤k->k - m < F ->
  ((∀ x,m≤x->x < k -> ∀ i,t.place.getD i 0=(sq t.mask h x).j->i < t.place.size->f i≠h)∧SetTable.probe.go t f h F (sq t.mask h m)=some (.empty (sq t.mask h k).j none)) ∨
  ∃ x i,m≤x∧x < k∧i < t.place.size∧t.place.getD i 0=(sq t.mask h x).j∧f i=h∧(∀ y,m≤y->y < x -> ∀ i,t.place.getD i 0=(sq t.mask h y).j->i < t.place.size->f i≠h)∧SetTable.probe.go t f h F (sq t.mask h m)=some (.candidate (sq t.mask h x).j i (sq t.mask h (x + 1)))
 |0,m,_,h2=>absurd h2 (BG _)
 |F + 1,m,h1,h2=>by
  rw [SetTable.probe.go]
  by_cases he:m=k
  ·subst he
   left
   refine ⟨fun x a b=>absurd b (by omega),?_⟩
   rw [qAH T.dum hk,yM]
  ·have hm:=hb m (by omega)
   obtain ⟨i,hi,e⟩:=mem_getD.mp hm
   have hsl:t.slot (sq t.mask h m).j = .live i:=by rw [← e];exact Yw T.ris hi
   rw [hsl]
   dsimp only
   have uniq:∀ i',t.place.getD i' 0=(sq t.mask h m).j->i' < t.place.size->i'=i:=fun i' e' h'=>by
    rcases Nat.lt_trichotomy i' i with q |q |q
    ·have:=T.ris _ _ q hi;omega
    ·exact q
    ·have:=T.ris _ _ q h';omega
   by_cases hf:f i=h
   ·rw [AG (by rw [hf];exact Aq h)]
    right
    exact ⟨m,i,AM _,by omega,hi,e,hf,fun y a b=>absurd b (by omega),rfl⟩
   ·rw [AH (by simpa using hf)]
    have:=Je T f h hk hb F (m + 1) (by omega) (by omega)
    rw [qGP]
    have hs:qAF t.mask (sq t.mask h m)=sq t.mask h (m + 1):=rfl
    rw [hs]
    rcases this with ⟨a,b⟩ |⟨x,i',a,b,c,d,e1,e2,e3⟩
    ·left
     refine ⟨fun x h1 h2 i' e' h' => ?_,b⟩
     by_cases hx:x=m
     ·subst hx;rw [uniq i' e' h'];exact hf
     ·exact a x (by omega) h2 i' e' h'
    ·right
     refine ⟨x,i',by omega,b,c,d,e1,fun y h1 h2 i'' e' h' => ?_,e3⟩
     by_cases hx:y=m
     ·subst hx;rw [uniq i'' e' h'];exact hf
     ·exact e2 y (by omega) h2 i'' e' h'
def Rch {α:Type} (t:SetTable) (es:List (Int×α)):Prop := ∀ q∈t.place.toList.zip es,∃ m,(sq t.mask q.2.1 m).j=q.1 ∧ ∀ m',m' < m->(sq t.mask q.2.1 m').j∈t.place.toList
theorem qEQ {α:Type} (xs:Array α) (p:Nat) (x:α):(SetTable.insertAt xs p x).toList=xs.toList.take p++x::xs.toList.drop p:=by
 unfold SetTable.insertAt
 simp [Array.toList_append,List.take_of_length_le]
theorem ris_list {xs:Array Nat}:Rz xs ↔ xs.toList.Pairwise (· < ·):=by
 rw [List.pairwise_iff_getElem]
 constructor
 ·intro R i j hi hj hij
  have:=R i j hij (by simpa using hj)
  rw [AN,AN,AQ (by simpa using hi),AQ (by simpa using hj)] at this
  simpa using this
 ·intro R i k hik hk
  have:=R i k (by simp;omega) (by simpa using hk) hik
  rw [AN,AN,AQ (by omega),AQ hk]
  simpa using this
theorem qFk {xs:Array Nat} (R:Rz xs) {j:Nat}:∀ x∈xs.toList.take (SetTable.below xs j),x < j:=by
 intro x hx
 obtain ⟨i,hi,e⟩:=List.getElem_of_mem hx
 rw [B4,AR] at hi
 have:=(wZ R j).1 i (by omega)
 rw [AN,AQ (by omega)] at this
 rw [List.getElem_take] at e
 simp at e this
 omega
theorem qBS {xs:Array Nat} (R:Rz xs) {j:Nat}:∀ x∈xs.toList.drop (SetTable.below xs j),j≤x:=by
 intro x hx
 obtain ⟨i,hi,e⟩:=List.getElem_of_mem hx
 rw [List.length_drop,AR] at hi
 have:=(wZ R j).2.1 (SetTable.below xs j + i) (by omega) (by omega)
 rw [AN,AQ (by omega)] at this
 rw [List.getElem_drop] at e
 simp at e this
 omega
theorem qFV {xs:Array Nat} (R:Rz xs) {j:Nat} (h:j ∉ xs.toList):Rz (SetTable.insertAt xs (SetTable.below xs j) j):=by
 rw [ris_list,qEQ]
 have P:=ris_list.mp R
 rw [List.pairwise_append]
 refine ⟨P.sublist (List.take_sublist _ _),?_,?_⟩
 ·rw [Bb]
  refine ⟨fun x hx => ?_,P.sublist (List.drop_sublist _ _)⟩
  have:=qBS R x hx
  have:x≠j:=fun q=>h (by rw [← q];exact List.mem_of_mem_drop hx)
  omega
 ·intro a ha b hb
  have h1:=qFk R a ha
  rcases AL.mp hb with q |q
  ·omega
  ·have:=qBS R b q;omega
theorem qFS {α β:Type} {xs:List α} {ys:List β} {p:Nat} {x:α} {y:β} (hl:xs.length=ys.length):(xs.take p++x::xs.drop p).zip (ys.take p++y::ys.drop p)=(xs.zip ys).take p++(x,y)::(xs.zip ys).drop p:=by
 rw [List.zip_append (by simp [hl]),BJ,List.zip_eq_zipWith,List.zip_eq_zipWith,List.zip_eq_zipWith,List.take_zipWith,List.drop_zipWith]
theorem jG {α:Type} {t:SetTable} {es:Array (Int×α)} {h:Int} {x:α} {k:Nat} (T:TbG t es.size) (hr:es.size + 1≤t.mask) (R:Rch t es.toList) (hjm:(sq t.mask h k).j≤t.mask) (hk:(sq t.mask h k).j ∉ t.place.toList) (hb:∀ m,m < k->(sq t.mask h m).j∈t.place.toList) :
  TbG (t.put (sq t.mask h k).j).1 (es.size + 1)∧Rch (t.put (sq t.mask h k).j).1 (SetTable.insertAt es (t.put (sq t.mask h k).j).2 (h,x)).toList∧(SetTable.insertAt es (t.put (sq t.mask h k).j).2 (h,x)).toList.Perm ((h,x)::es.toList):=by
 have hp:(t.put (sq t.mask h k).j).1.place.toList=t.place.toList.take (SetTable.below t.place (sq t.mask h k).j)++(sq t.mask h k).j::t.place.toList.drop (SetTable.below t.place (sq t.mask h k).j):=qEQ _ _ _
 have hmem:∀ j,j∈(t.put (sq t.mask h k).j).1.place.toList ↔ j=(sq t.mask h k).j∨j∈t.place.toList:=by
  intro j
  rw [hp,Ar,AL]
  constructor
  ·rintro (q |q |q)
   ·exact .inr (List.mem_of_mem_take q)
   ·exact .inl q
   ·exact .inr (List.mem_of_mem_drop q)
  ·rintro (q |q)
   ·exact .inr (.inl q)
   ·rw [← List.take_append_drop (SetTable.below t.place (sq t.mask h k).j) t.place.toList,Ar] at q
    rcases q with q |q
    ·exact .inl q
    ·exact .inr (.inr q)
 refine ⟨⟨?_,?_,qFV T.ris hk,?_,hr⟩,?_,?_⟩
 ·show (if SetTable.has t.dummies _=true then SetTable.eraseAt t.dummies _ else t.dummies) = #[]
  rw [T.dum,qAv];rfl
 ·rw [← AR,hp]
  have:=(wZ T.ris (sq t.mask h k).j).2.2
  rw [AY,B4,AT,List.length_drop,AR,T.sz] at *
  omega
 ·intro j hj
  rcases (hmem j).mp hj with q |q
  ·rw [q];exact hjm
  ·exact T.le j q
 ·intro q hq
  rw [hp,qEQ] at hq
  have hq:q∈(t.place.toList.take (SetTable.below t.place (sq t.mask h k).j)++(sq t.mask h k).j::t.place.toList.drop (SetTable.below t.place (sq t.mask h k).j)).zip (es.toList.take (SetTable.below t.place (sq t.mask h k).j)++(h,x)::es.toList.drop (SetTable.below t.place (sq t.mask h k).j)):=hq
  rw [qFS (by rw [AR,AR,T.sz]),Ar,AL] at hq
  have old:q∈t.place.toList.zip es.toList -> ∃ m,(sq t.mask q.2.1 m).j=q.1 ∧ ∀ m',m' < m->(sq t.mask q.2.1 m').j∈(t.put (sq t.mask h k).j).1.place.toList:=fun hq=>by
   obtain ⟨m,h1,h2⟩:=R q hq
   exact ⟨m,h1,fun m' hm=>(hmem _).mpr (.inr (h2 m' hm))⟩
  rcases hq with hq |hq |hq
  ·exact old (List.mem_of_mem_take hq)
  ·subst hq
   exact ⟨k,rfl,fun m' hm=>(hmem _).mpr (.inr (hb m' hm))⟩
  ·exact old (List.mem_of_mem_drop hq)
 ·rw [qEQ]
  refine List.perm_middle.trans ?_
  rw [List.take_append_drop]
structure Ow (mask:Nat) (owner:Array (Option Nat)) (hs:List Int) (js:List Nat):Prop where
 size:owner.size=mask + 1
 len:js.length=hs.length
 iff:∀ (j k:Nat),owner[j]? = some (some k) ↔ js[k]? = some j
 way:∀ (k:Nat) (h:Int) (j:Nat),hs[k]? = some h->js[k]? = some j -> ∃ m,(sq mask h m).j=j ∧ ∀ m',m' < m->(sq mask h m').j∈js
 le:∀ j∈js,j≤mask
theorem Jp {mask:Nat} {h:Int} {a:Nat}:∀ {b:Nat},a≤b->lpN mask h a≤lpN mask h b
 |0,q=>by
  have:a=0:=by omega
  subst this
  exact AM _
 |b + 1,q=>by
  by_cases e:a=b + 1
  ·subst e;exact AM _
  ·have:=Jp (mask:=mask) (h:=h) (a:=a) (b:=b) (by omega)
   rw [lpN];omega
theorem qGO {mask:Nat} {h:Int} {a b:Nat} (q:a < b):lpN mask h a < lpN mask h b:=by
 have:=Jp (mask:=mask) (h:=h) (show a + 1≤b by omega)
 rw [lpN] at this;omega
theorem qAr {mask:Nat} {owner:Array (Option Nat)} {hs:List Int} {js:List Nat} (O:Ow mask owner hs js) {h:Int} {k0:Nat} (hk:(sq mask h k0).j ∉ js) (hkm:(sq mask h k0).j≤mask) (hb:∀ m,m < k0->(sq mask h m).j∈js) :
  ∀ (F m:Nat),lpN mask h m≤k0->k0 < lpN mask h (m + F)->SetTable.layClean.free mask owner F (lp mask h m).1 (lp mask h m).2=some (sq mask h k0).j
 |0,m,h1,h2=>by rw [Nat.add_zero] at h2;omega
 |F + 1,m,h1,h2=>by
  rw [SetTable.layClean.free]
  have hrn:SetTable.runEnd mask (lp mask h m).1 + 1 - (lp mask h m).1=rn mask (lp mask h m).1 + 1:=by
   unfold rn SetTable.runEnd
   split <;> omega
  have occ:∀ k,k≤rn mask (lp mask h m).1->lpN mask h m + k < k0->(owner.getD ((lp mask h m).1 + k) (some 0)).isNone=false:=fun k a b=>by
   have:=hb _ b
   rw [qF2 a] at this
   obtain ⟨i,hi⟩:=BL this
   have:=(O.iff _ _).mpr hi
   rw [AN,this];rfl
  rw [hrn]
  by_cases hq:k0≤lpN mask h m + rn mask (lp mask h m).1
  ·have ej:(sq mask h k0).j=(lp mask h m).1 + (k0 - lpN mask h m):=by
    have:=qF2 (mask:=mask) (h:=h) (m:=m) (k:=k0 - lpN mask h m) (by omega)
    rw [show lpN mask h m + (k0 - lpN mask h m)=k0 by omega] at this
    exact this
   have hf:(List.range (rn mask (lp mask h m).1 + 1)).find? (fun k=>(owner.getD ((lp mask h m).1 + k) (some 0)).isNone)=some (k0 - lpN mask h m):=by
    rw [List.find?_range_eq_some]
    refine ⟨?_,BE.mpr (by omega),fun j hj => ?_⟩
    ·rw [← ej,AN,AQ (by rw [O.size];omega)]
     cases hx:owner[(sq mask h k0).j]'(by rw [O.size];omega) with
     |none=>rfl
     |some k' =>
      exfalso
      refine hk (As ((O.iff _ k').mp ?_))
      rw [AQ (by rw [O.size];omega),hx]
    ·rw [occ j (by omega) (by omega)];rfl
   rw [hf,ej]
  ·have hf:(List.range (rn mask (lp mask h m).1 + 1)).find? (fun k=>(owner.getD ((lp mask h m).1 + k) (some 0)).isNone)=none:=by
    rw [List.find?_eq_none]
    intro k hk'
    rw [occ k (by have:=BE.mp hk';omega) (by have:=BE.mp hk';omega)]
    simp
   rw [hf]
   exact qAr O hk hkm hb F (m + 1) (by rw [lpN];omega) (by rw [show m + 1 + F=m + (F + 1) by omega];exact h2)
theorem qGC {mask:Nat} {h:Int} (n:Nat):(sq mask h n).j≤mask:=by
 have:∀ n,(sq mask h n).j + (sq mask h n).more≤mask∧(sq mask h n).i≤mask:=by
  intro n
  have key:∀ i,i≤mask->i + (SetTable.runEnd mask i - i)≤mask:=fun i hi=>by
   unfold SetTable.runEnd
   split <;> omega
  induction n with
  |zero =>
   have hi:SetTable.bits h % (mask + 1)≤mask:=CK (Nat.mod_lt _ (Ca _))
   exact ⟨key _ hi,hi⟩
  |succ n ih =>
   rw [sq];unfold qAF
   split
   ·rename_i hm
    exact ⟨by show (sq mask h n).j + 1 + ((sq mask h n).more - 1)≤mask;omega,ih.2⟩
   ·have hi:(SetTable.leap mask (sq mask h n).i (sq mask h n).perturb).1≤mask:=CK (Nat.mod_lt _ (Ca _))
    exact ⟨key _ hi,hi⟩
 have:=(this n).1
 omega
theorem Ow.step {mask:Nat} {owner:Array (Option Nat)} {hs:List Int} {js:List Nat} (O:Ow mask owner hs js) (C:Cyc mask) (hl:hs.length≤mask) (h:Int):∃ j,SetTable.layClean.free mask owner (SetTable.turns mask) (SetTable.bits h % (mask + 1)) (SetTable.bits h)=some j∧Ow mask (owner.setIfInBounds j (some hs.length)) (hs++[h]) (js++[j]):=by
 obtain ⟨e,he,hq⟩:=qAW (mask + 1) js (by rw [O.len];omega)
 obtain ⟨m,hm,q⟩:=qDJ (h:=h) C (show e≤mask by omega)
 obtain ⟨k0,k1,k2,k3⟩:=JC (P:=fun k=>(sq mask h k).j ∉ js) (fun _=>inferInstance) (n:=lpN mask h m) (by rw [qAl,q];exact hq)
 have hb:∀ m,m < k0->(sq mask h m).j∈js:=fun m hm=>Decidable.not_not.mp (k3 m hm)
 have hj:=qGC (mask:=mask) (h:=h) k0
 refine ⟨_,qAr O k2 hj hb (SetTable.turns mask) 0 (A6 _) ?_,?_⟩
 ·rw [Nat.zero_add]
  refine CG k1 (qGO ?_)
  unfold SetTable.turns;omega
 ·have hmem:∀ x,x∈js++[(sq mask h k0).j] ↔ x∈js∨x=(sq mask h k0).j:=fun x=>by simp
  refine ⟨by simp [O.size],by simp [O.len],fun j k => ?_,fun k h' j h1 h2 => ?_,fun j hj' => ?_⟩
  ·rw [Array.getElem?_setIfInBounds]
   by_cases hjj:(sq mask h k0).j=j
   ·rw [AG hjj,AG (by rw [O.size];omega)]
    constructor
    ·intro z
     cases z
     rw [Ac (by rw [O.len];exact AM _),O.len,Br]
     simp [hjj]
    ·intro z
     by_cases hkl:k < js.length
     ·rw [Ab hkl] at z
      exact absurd (by rw [hjj];exact As z) k2
     ·rw [Ac (by omega)] at z
      have:k - js.length=0:=by
       have:=(AO.mp z).1
       simp at this;omega
      rw [show k=hs.length by have:=O.len;omega]
   ·rw [AH hjj,O.iff]
    constructor
    ·intro z
     rw [Ab (AO.mp z).1];exact z
    ·intro z
     by_cases hkl:k < js.length
     ·rwa [Ab hkl] at z
     ·rw [Ac (by omega)] at z
      have h0:=(AO.mp z).1
      have:k - js.length=0:=by simp at h0;omega
      rw [this] at z
      simp at z
      exact absurd z hjj
  ·by_cases hkl:k < js.length
   ·rw [Ab hkl] at h2
    rw [Ab (by rw [← O.len];exact hkl)] at h1
    obtain ⟨m,a,b⟩:=O.way k h' j h1 h2
    exact ⟨m,a,fun m' hm'=>(hmem _).mpr (.inl (b m' hm'))⟩
   ·rw [Ac (by omega)] at h2
    rw [Ac (by have:=O.len;omega)] at h1
    have h0:=(AO.mp h2).1
    have z:k - js.length=0:=by simp at h0;omega
    rw [← O.len,z] at h1
    rw [z] at h2
    simp at h1 h2
    subst h1;subst h2
    exact ⟨k0,rfl,fun m' hm'=>(hmem _).mpr (.inl (hb m' hm'))⟩
  ·rcases (hmem j).mp hj' with q |q
   ·exact O.le j q
   ·rw [q];exact hj
theorem JO {mask:Nat} (C:Cyc mask):∀ (r hs:List Int) (owner:Array (Option Nat)) (js:List Nat),Ow mask owner hs js->hs.length + r.length≤mask + 1 ->
  ∃ owner' js',r.foldl (fun acc h=>do
   let (owner,k) ← acc
   let j ← SetTable.layClean.free mask owner (SetTable.turns mask) (SetTable.bits h % (mask + 1)) (SetTable.bits h)
   pure (owner.setIfInBounds j (some k),k + 1)) (some (owner,hs.length))=some (owner',(hs++r).length)∧Ow mask owner' (hs++r) js'
 |[],hs,owner,js,O,_=>⟨owner,js,by simp,by simpa using O⟩
 |h::r,hs,owner,js,O,hl=>by
  rw [AT] at hl
  obtain ⟨j,e,O'⟩:=O.step C (by omega) h
  obtain ⟨ow,js',e2,O2⟩:=JO C r (hs++[h]) _ _ O' (by rw [AY,Bt];omega)
  refine ⟨ow,js',?_,by simpa using O2⟩
  rw [BF]
  have:(do
   let (owner,k) ← some (owner,hs.length)
   let j ← SetTable.layClean.free mask owner (SetTable.turns mask) (SetTable.bits h % (mask + 1)) (SetTable.bits h)
   pure (owner.setIfInBounds j (some k),k + 1))=some (owner.setIfInBounds j (some hs.length),hs.length + 1):=by
   show (do
    let j ← SetTable.layClean.free mask owner (SetTable.turns mask) (SetTable.bits h % (mask + 1)) (SetTable.bits h)
    pure (owner.setIfInBounds j (some hs.length),hs.length + 1))=_
   rw [e];rfl
  rw [this]
  simpa using e2
theorem qDK {mask:Nat} (C:Cyc mask) (hashes:Array Int) (hl:hashes.size≤mask + 1):∃ owner js,SetTable.layClean mask hashes=some owner∧Ow mask owner hashes.toList js:=by
 obtain ⟨owner,js,e,O⟩:=JO C hashes.toList [] (Array.replicate (mask + 1) none) [] ⟨by simp,rfl,fun j k=>by
  constructor
  ·intro z
   rw [Array.getElem?_replicate] at z
   split at z <;> simp at z
  ·intro z;simp at z,fun k h j h1 h2=>by simp at h1,fun j h=>by simp at h⟩ (by simpa using hl)
 refine ⟨owner,js,?_,by simpa using O⟩
 unfold SetTable.layClean
 rw [← Array.foldl_toList]
 have e':=e
 simp only [List.nil_append] at e'
 have h0:(some (Array.replicate (mask + 1) none,([]:List Int).length):Option (Array (Option Nat)×Nat))=some (Array.replicate (mask + 1) none,0):=rfl
 rw [h0] at e'
 rw [e']
 rfl
theorem perm_of_nodup {α:Type} [DecidableEq α]:∀ {l m:List α},l.Nodup->m.Nodup->(∀ x,x∈l ↔ x∈m)->l.Perm m
 |[],m,_,_,h=>by
  cases m with
  |nil=>exact .refl _
  |cons y m=>exact absurd ((h y).mpr AE) (by simp)
 |x::l,m,h1,h2,h=>by
  have hx:=(h x).mp AE
  refine List.Perm.trans ?_ (List.perm_cons_erase hx).symm
  refine List.Perm.cons x (perm_of_nodup (Bg.mp h1).2 (h2.erase x) fun y => ?_)
  rw [h2.mem_erase_iff]
  constructor
  ·intro hy
   exact ⟨fun z=>(Bg.mp h1).1 (by rw [← z];exact hy),(h y).mp (AB _ hy)⟩
  ·rintro ⟨a,b⟩
   rcases AL.mp ((h y).mpr b) with q |q
   ·exact absurd q a
   ·exact q
theorem qDZ {α:Type} (l:List α):(List.range l.length).filterMap (fun i=>l[i]?)=l:=by
 induction l with
 |nil=>rfl
 |cons x l ih =>
  rw [AT,CH,Bl]
  show x::((List.range l.length).map Nat.succ).filterMap _=_
  rw [List.filterMap_map]
  congr 1
theorem qCi {α β:Type} {f:α->Option β} {g:α->β}:∀ {l:List α},(∀ x∈l,f x=some (g x))->l.filterMap f=l.map g
 |[],_=>rfl
 |x::l,h=>by rw [Bl,h x AE,AU,qCi fun y hy=>h y (AB _ hy)]
theorem qFi {α:Type} [Inhabited α] {mask finger moves:Nat} {led plain:Bool} (C:Cyc mask) {es:Array (Int×α)} (hl:es.size≤mask):∃ t order,SetTable.laid mask finger moves led plain (es.map (·.1))=some (t,order)∧t.mask=mask∧t.led=led∧t.plain=plain ∧
  (order.filterMap (es[·]?)).toList.Perm es.toList∧TbG t es.size∧Rch t (order.filterMap (es[·]?)).toList:=by
 obtain ⟨owner,js,e,O⟩:=qDK C (es.map (·.1)) (by simp;omega)
 refine ⟨_,_,by unfold SetTable.laid;rw [e];rfl,rfl,rfl,rfl,?_⟩
 generalize hL:(List.range (mask + 1)).filterMap (fun j=>(owner.getD j none).map (j,·))=L
 have hmem:∀ q,q∈L ↔ js[q.2]? = some q.1:=by
  intro ⟨j,k⟩
  rw [← hL,List.mem_filterMap]
  constructor
  ·rintro ⟨a,ha,hb⟩
   have ha:=BE.mp ha
   rw [AN,AQ (by rw [O.size];omega)] at hb
   cases hx:owner[a]'(by rw [O.size];omega) with
   |none=>rw [hx] at hb;simp at hb
   |some k' =>
    rw [hx] at hb
    simp at hb
    obtain ⟨rfl,rfl⟩:=hb
    exact (O.iff _ _).mp (by rw [AQ (by rw [O.size];omega),hx])
  ·intro z
   have z':=(O.iff _ _).mpr z
   refine ⟨j,BE.mpr (by have:=O.le j (As z);omega),?_⟩
   rw [AN,z'];rfl
 have hlen:js.length=es.size:=by rw [O.len];simp
 have hinj:∀ a b j,js[a]? = some j->js[b]? = some j->a=b:=fun a b j h1 h2=>by
  have h1:=(O.iff j a).mpr h1
  have h2:=(O.iff j b).mpr h2
  rw [h1] at h2;cases h2;rfl
 have hpw:L.Pairwise (fun p q=>p.1 < q.1):=by
  rw [← hL,List.pairwise_filterMap]
  refine List.Pairwise.imp ?_ List.pairwise_lt_range
  intro a b hab x hx y hy
  simp only [Option.map_eq_some_iff] at hx hy
  obtain ⟨_,_,rfl⟩:=hx
  obtain ⟨_,_,rfl⟩:=hy
  exact hab
 have hnd:(L.map (·.2)).Nodup:=by
  rw [List.nodup_iff_pairwise_ne,BN]
  refine List.Pairwise.imp_of_mem (R:=fun p q=>p.1 < q.1) ?_ hpw
  intro a b ha hb hab z
  have h1:=(hmem a).mp ha
  have h2:=(hmem b).mp hb
  rw [z,h2] at h1
  have:=An h1
  omega
 have hperm:(L.map (·.2)).Perm (List.range es.size):=by
  refine perm_of_nodup hnd List.nodup_range fun k => ?_
  rw [BE,Ae]
  constructor
  ·rintro ⟨q,hq,rfl⟩
   have:=(AO.mp ((hmem q).mp hq)).1
   omega
  ·intro hk
   have:js[k]? = some (js[k]'(by omega)):=AI _
   exact ⟨(js[k]'(by omega),k),(hmem _).mpr this,rfl⟩
 have hLl:L.length=es.size:=by have:=hperm.length_eq;simpa using this
 have hfm:(((L.map (·.2)).toArray.filterMap (es[·]?)).toList)=L.map fun q=>es.toList.getD q.2 (0,default):=by
  rw [List.filterMap_toArray]
  show (L.map (·.2)).filterMap (fun i=>es[i]?)=_
  rw [List.filterMap_map]
  refine qCi fun q hq => ?_
  have:=(AO.mp ((hmem q).mp hq)).1
  show es[q.2]? = _
  rw [AQ (by omega),AJ,Aw,AQ (by omega)]
  rfl
 refine ⟨?_,⟨rfl,by simp [hLl],?_,?_,hl⟩,?_⟩
 ·have h1:((L.map (·.2)).toArray.filterMap (es[·]?)).toList=(L.map (·.2)).filterMap (fun i=>es.toList[i]?):=by
   rw [List.filterMap_toArray]
   simp
  rw [h1]
  refine (hperm.filterMap _).trans ?_
  have:=qDZ es.toList
  rw [AR] at this
  rw [this]
 ·rw [ris_list]
  show (L.map (·.1)).Pairwise _
  rw [BN];exact hpw
 ·intro j hj
  have hj:j∈L.map (·.1):=hj
  obtain ⟨q,hq,rfl⟩:=Ae.mp hj
  exact O.le _ (As ((hmem q).mp hq))
 ·intro q hq
  rw [hfm] at hq
  have hq:q∈(L.map (·.1)).zip (L.map fun q=>es.toList.getD q.2 (0,default)):=hq
  rw [List.zip_map,Ae] at hq
  obtain ⟨⟨u,v⟩,huv,rfl⟩:=hq
  have huv':u=v∧u∈L:=by
   have:∀ (l:List (Nat×Nat)) (p:(Nat×Nat)×(Nat×Nat)),p∈l.zip l->p.1=p.2∧p.1∈l:=by
    intro l
    induction l with
    |nil=>intro p hp;simp at hp
    |cons a l ih =>
     intro p hp
     rw [BJ] at hp
     rcases AL.mp hp with z |z
     ·subst z;exact ⟨rfl,AE⟩
     ·exact ⟨(ih p z).1,AB _ (ih p z).2⟩
   exact this L _ huv
  obtain ⟨rfl,hu⟩:=huv'
  have hj:=(hmem u).mp hu
  have hlt:=(AO.mp hj).1
  have hh:(es.map (·.1)).toList[u.2]? = some (es.toList.getD u.2 (0,default)).1:=by
   rw [AJ,Aw,Aw,Array.getElem?_map,AQ (show u.2 < es.size by omega)]
   rfl
  obtain ⟨m,h1,h2⟩:=O.way _ _ _ hh hj
  refine ⟨m,h1,fun m' hm' => ?_⟩
  have:=h2 m' hm'
  obtain ⟨i,hi⟩:=BL this
  show _∈L.map (·.1)
  exact Ae.mpr ⟨((sq mask (es.toList.getD u.2 (0,default)).1 m').j,i),(hmem _).mpr hi,rfl⟩
end ET
end
section
namespace ET
open PySem PySem.Spec PyProof.Rows L2 EX
section
variable {prog:Program} {w:World} {A:Around} {E:Value->Shared->Prop} {s:Shared}
abbrev TK (prog:Program) (w:World) (h:Heap) (ks:List Int) (b:Addr):Prop:=IsTupleKey (intKind prog w) h ks b
abbrev hsT (prog:Program) (w:World) (ks:List Int):Int:=tupleKeyHash (intKind prog w) ks
theorem zR {ks:List Int} {vs:List Value} (h:ItemsAre (intKind prog w) ks vs):∀ v∈vs,∃ n t,v=Value.int n t:=by
 induction h with
 |nil=>intro v hv;cases hv
 | @cons k v ks vs h1 _ ih =>
  intro u hu
  rcases AL.mp hu with q |q
  ·subst q
   cases u with
   |int n t=>exact ⟨n,t,rfl⟩
   |_=>exact Bool.noConfusion (show false=true from h1)
  ·exact ih u q
theorem TK.keep {h h':Heap} {ks:List Int} {b:Addr} (k:TK prog w h ks b) (e:∀ o,h.get? b=some o->h'.get? b=some o):TK prog w h' ks b:=by
 obtain ⟨o,its,n,h1,h2⟩:=k
 exact ⟨o,its,n,e o h1,h2⟩
theorem hbv {ks:List Int} {b:Addr} {Q:Bool->Shared->Prop} (k:TK prog w s.heap ks b) (h:Q true s):wpAny (model prog w) A (hashByValue 8 (.ref b)) Q E s:=by
 have hT:=k.typeIs
 obtain ⟨o,items,n,ho,_,hd,hi⟩:=k
 unfold hashByValue
 refine AA (CW hT F.slot_tuple_hash.lookup ?_)
 dsimp only
 refine AA (wpAny_seqItems ho hd ?_)
 show wpAny _ _ (forIn items _ _ >>= _) _ _ s
 refine AA ?_
 rw [← Array.forIn_toList]
 refine wpAny_forIn_list _ (fun rest r s'=>r.1=none∧s'=s ∧ ∀ v∈rest,∃ n t,v=Value.int n t) _ ?_ ?_ _ _ ⟨rfl,rfl,zR hi⟩
 ·rintro v rest r s' ⟨hr,rfl,hall⟩
  obtain ⟨n,t,rfl⟩:=hall v AE
  refine AA (AZ (a:=true) (by rw [hashByValue_scannable 7 (x := .int n t) rfl];rfl) ?_)
  simp only [Bool.not_true,A7,Bx]
  exact AD ⟨rfl,rfl,fun u hu'=>hall u (AB _ hu')⟩
 ·rintro ⟨r1,r2⟩ s' ⟨hr,rfl,_⟩
  simp only at hr
  subst hr
  exact AD h
theorem oac {ks:List Int} {b:Addr} {Q:Bool->Shared->Prop} (k:TK prog w s.heap ks b) (h:Q false s):wpAny (model prog w) A (ofAClassStatement 8 (.ref b)) Q E s:=by
 have hT:=k.typeIs
 obtain ⟨o,items,n,ho,_,hd,hi⟩:=k
 unfold ofAClassStatement
 refine AA (Bq hT ?_)
 dsimp only
 rw [AG (by decide)]
 refine AA (AD ?_)
 rw [AH (by decide)]
 refine AA (wpAny_seqItems ho hd ?_)
 dsimp only
 refine AA ?_
 rw [← Array.forIn_toList]
 refine wpAny_forIn_list _ (fun rest r s'=>r.1=none∧s'=s ∧ ∀ v∈rest,∃ n t,v=Value.int n t) _ ?_ ?_ _ _ ⟨rfl,rfl,zR hi⟩
 ·rintro v rest r s' ⟨hr,rfl,hall⟩
  obtain ⟨n,t,rfl⟩:=hall v AE
  refine AA (AZ (a:=false) (by unfold ofAClassStatement;rfl) ?_)
  rw [AH (by decide)]
  exact AD ⟨rfl,rfl,fun u hu'=>hall u (AB _ hu')⟩
 ·rintro ⟨r1,r2⟩ s' ⟨hr,rfl,_⟩
  simp only at hr
  subst hr
  exact AD h
theorem qI6 {ks:List Int} {b:Addr} {Q:Bool->Shared->Prop} (k:TK prog w s.heap ks b) (l:List Value) (hl:∀ v∈l,∃ c ks',v = .ref c∧TK prog w s.heap ks' c) (h:Q false s):wpAny (model prog w) A (searchCouldBeSeen (.ref b) l) Q E s:=by
 unfold searchCouldBeSeen
 refine AA ?_
 refine wpAny_forIn_list _ (fun rest r s'=>r.1=none∧s'=s ∧ ∀ v∈rest,∃ c ks',v = .ref c∧TK prog w s.heap ks' c) _ ?_ ?_ _ _ ⟨rfl,rfl,hl⟩
 ·rintro v rest r s' ⟨hr,rfl,hall⟩
  obtain ⟨c,ks',rfl,k'⟩:=hall v AE
  dsimp only
  by_cases hbc:(b==c || (carriedByValue (.ref b)&&carriedByValue (.ref c)))=true
  ·rw [AG hbc]
   exact AD ⟨rfl,rfl,fun u hu'=>hall u (AB _ hu')⟩
  ·rw [AH hbc]
   refine AA (wpAny_eqIsQuiet_tuple k ?_)
   rw [AH (by decide)]
   refine AA (wpAny_eqIsQuiet_tuple k' ?_)
   rw [AH (by decide)]
   refine AA (oac k ?_)
   rw [AH (by decide)]
   refine AA (oac k' ?_)
   rw [AH (by decide)]
   exact AD ⟨rfl,rfl,fun u hu'=>hall u (AB _ hu')⟩
 ·rintro ⟨r1,r2⟩ s' ⟨hr,rfl,_⟩
  simp only at hr
  subst hr
  exact AD h
inductive EsT (prog:Program) (w:World) (h:Heap):List (Int×Value)->List (List Int)->Prop
 |nil:EsT prog w h [] []
 |cons {ks:List Int} {b:Addr} {l:List (Int×Value)} {kss:List (List Int)}:TK prog w h ks b->EsT prog w h l kss->EsT prog w h ((hsT prog w ks,.ref b)::l) (ks::kss)
theorem EsT.len {h:Heap} {l:List (Int×Value)} {kss:List (List Int)} (e:EsT prog w h l kss):l.length=kss.length:=by
 induction e with
 |nil=>rfl
 |cons _ _ ih=>rw [AT,AT,ih]
theorem EsT.keep {h h':Heap} {l:List (Int×Value)} {kss:List (List Int)} (e:EsT prog w h l kss) (k:∀ b ks,TK prog w h ks b->TK prog w h' ks b):EsT prog w h' l kss:=by
 induction e with
 |nil=>exact .nil
 |cons a _ ih=>exact .cons (k _ _ a) ih
theorem EsT.get {h:Heap} {l:List (Int×Value)} {kss:List (List Int)} (e:EsT prog w h l kss):∀ {i:Nat} {x:Int×Value},l[i]? = some x -> ∃ ks b,kss[i]? = some ks∧x=(hsT prog w ks,.ref b)∧TK prog w h ks b:=by
 induction e with
 |nil=>intro i x hx;simp at hx
 | @cons ks b l kss a _ ih =>
  intro i x hx
  cases i with
  |zero=>simp at hx;exact ⟨ks,b,rfl,hx.symm,a⟩
  |succ i=>simp at hx;simpa using ih hx
theorem EsT.get' {h:Heap} {l:List (Int×Value)} {kss:List (List Int)} (e:EsT prog w h l kss):∀ {i:Nat} {ks:List Int},kss[i]? = some ks -> ∃ b,l[i]? = some (hsT prog w ks,.ref b)∧TK prog w h ks b:=by
 induction e with
 |nil=>intro i x hx;simp at hx
 | @cons ks b l kss a _ ih =>
  intro i x hx
  cases i with
  |zero=>simp at hx;subst hx;exact ⟨b,rfl,a⟩
  |succ i=>simp at hx;simpa using ih hx
theorem EsT.perm {h:Heap} {l l':List (Int×Value)} (p:l.Perm l'):∀ {kss:List (List Int)},EsT prog w h l kss -> ∃ kss',kss.Perm kss'∧EsT prog w h l' kss':=by
 induction p with
 |nil=>intro kss e;exact ⟨kss,.refl _,e⟩
 |cons x _ ih =>
  intro kss e
  cases e with
  |cons a e =>
   obtain ⟨k',q,r⟩:=ih e
   exact ⟨_,q.cons _,.cons a r⟩
 |swap x y l =>
  intro kss e
  cases e with
  |cons a e =>
   cases e with
   |cons b e=>exact ⟨_,.swap _ _ _,.cons b (.cons a e)⟩
 |trans _ _ ih1 ih2 =>
  intro kss e
  obtain ⟨k1,q1,r1⟩:=ih1 e
  obtain ⟨k2,q2,r2⟩:=ih2 r1
  exact ⟨k2,q1.trans q2,r2⟩
theorem EsT.mem {h:Heap} {l:List (Int×Value)} {kss:List (List Int)} (e:EsT prog w h l kss):∀ x∈l,∃ ks b,ks∈kss∧x=(hsT prog w ks,.ref b)∧TK prog w h ks b:=by
 intro x hx
 obtain ⟨i,hi⟩:=BL hx
 obtain ⟨ks,b,h1,h2,h3⟩:=e.get hi
 exact ⟨ks,b,As h1,h2,h3⟩
def Lv (mask n:Nat):Prop:=(mask=7∧n≤4)∨(mask=31∧n≤18)∨(mask=127∧n≤76)∨(mask=511∧n≤306)
theorem Lv.cyc {mask n:Nat} (h:Lv mask n):Cyc mask:=by
 rcases h with ⟨rfl,_⟩ |⟨rfl,_⟩ |⟨rfl,_⟩ |⟨rfl,_⟩
 ·exact qJH
 ·exact qIV
 ·exact qGm
 ·exact qHO
structure TbT (w:World) (t:SetTable) (es:Array (Int×Value)):Prop where
 g:TbG t es.size
 r:Rch t es.toList
 lv:Lv t.mask es.size
 led:t.led = !byT w
 pl:t.plain=true
structure SetT (prog:Program) (w:World) (h:Heap) (a:Addr) (es:Array (Int×Value)) (ep:Nat) (t:SetTable) (kss:List (List Int)):Prop where
 ex:∃ o,h.get? a=some o∧o.ExactSet∧o.data=Data.set es ep t
 el:EsT prog w h es.toList kss
 nd:kss.Nodup
 tb:TbT w t es
theorem jV {t:SetTable} {n:Nat} (T:TbG t n):t.fits n=true:=by
 unfold SetTable.fits
 rw [Ay]
 refine ⟨by rw [T.sz];exact Aq _,AS ?_⟩
 unfold SetTable.fill
 rw [T.dum,T.sz]
 exact T.room
theorem qDo {t:SetTable} {n:Nat} (h:Lv t.mask n):t.gaveWay=false:=by
 unfold SetTable.gaveWay
 rcases h with ⟨h,_⟩ |⟨h,_⟩ |⟨h,_⟩ |⟨h,_⟩ <;> rw [h] <;> rfl
theorem qEH {a:Addr} {es:Array (Int×Value)} {ep:Nat} {t:SetTable} {kss:List (List Int)} {ks:List Int} {b:Addr} {adding:Bool} {Q:SetFound->Shared->Prop} (hu:A.units < cLine) (S:SetT prog w s.heap a es ep t kss) (k:TK prog w s.heap ks b) {k0:Nat}
  (hk:(sq t.mask (hsT prog w ks) k0).j ∉ t.place.toList) (hb:∀ m,m < k0->(sq t.mask (hsT prog w ks) m).j∈t.place.toList) (hk0:k0 < 10 * SetTable.turns t.mask)
  (h1:ks∈kss -> ∀ oi,(adding=false->oi.isSome=true)->Q (.there oi) s) (h2:ks ∉ kss->Q (.free (sq t.mask (hsT prog w ks) k0).j false) s) :
  ∀ (f m:Nat) (st:Option SetTable.Probe),m≤k0->k0 - m < f->st.getD (t.probeStart (hsT prog w ks))=sq t.mask (hsT prog w ks) m->(∀ y,y < m -> ∀ i,t.place.getD i 0=(sq t.mask (hsT prog w ks) y).j->i < t.place.size->kss[i]? ≠ some ks) ->
   wpAny (model prog w) A (setSearchFrom a (.ref b) (hsT prog w ks) adding f st) Q E s
 |0,m,st,_,hf,_,_=>absurd hf (BG _)
 |f + 1,m,st,hm,hf,hst,hn=>by
  obtain ⟨o,ho,hx,hd⟩:=S.ex
  have hfit:=jV S.tb.g
  have hsz:t.place.size=es.size:=S.tb.g.sz
  have hkl:es.size=kss.length:=by rw [← S.el.len,AR]
  rw [setSearchFrom]
  refine AA (At ho hd hfit ?_)
  dsimp only
  rw [qDo S.tb.lv]
  simp only [A7,Bx]
  rw [hst]
  have hp:=Je S.tb.g (fun i=>(es[i]?.map (·.1)).getD 0) (hsT prog w ks) hk hb (10 * SetTable.turns t.mask) m hm (by omega)
  rcases hp with ⟨hall,e⟩ |⟨x,i,hx1,hx2,hi,hpl,hfi,hall,e⟩
  ·generalize hg:t.probe _ (hsT prog w ks) (sq t.mask (hsT prog w ks) m)=pr
   have e2:=hg.symm.trans e
   subst e2
   dsimp only
   refine AD (h2 fun hmem => ?_)
   obtain ⟨i,hi⟩:=BL hmem
   have hil:i < es.size:=by rw [hkl];exact (AO.mp hi).1
   obtain ⟨c,hc,_⟩:=S.el.get' hi
   have hz:(t.place.getD i 0,(hsT prog w ks,Value.ref c))∈t.place.toList.zip es.toList:=by
    refine As (i:=i) ?_
    rw [List.getElem?_zip_eq_some]
    refine ⟨?_,hc⟩
    rw [Aw,AQ (by omega),AN,AQ (by omega)]
    rfl
   obtain ⟨y,hy1,hy2⟩:=S.tb.r _ hz
   have hyk:y < k0:=by
    rcases Nat.lt_trichotomy y k0 with q |q |q
    ·exact q
    ·subst q;exact absurd (by rw [hy1];exact mem_getD.mpr ⟨i,by omega,rfl⟩) hk
    ·exact absurd (hy2 k0 q) hk
   by_cases hym:y < m
   ·exact hn y hym i hy1.symm (by omega) hi
   ·refine hall y (by omega) hyk i hy1.symm (by omega) ?_
    show (es[i]?.map (·.1)).getD 0=_
    rw [← Aw,hc];rfl
  ·generalize hg:t.probe _ (hsT prog w ks) (sq t.mask (hsT prog w ks) m)=pr
   have e2:=hg.symm.trans e
   subst e2
   dsimp only
   have hie:i < es.size:=by omega
   obtain ⟨ks',c,hks',hc,kc⟩:=S.el.get (i:=i) (x:=es[i]) (by rw [Aw,AQ hie])
   have hsl:t.slot (sq t.mask (hsT prog w ks) x).j = .live i:=by rw [← hpl];exact Yw S.tb.g.ris hi
   cases hled:t.led
   case' true=>simp only [Bool.not_true,A7,Bx]
   case' false =>
    simp only [Bool.not_false,if_true]
    refine AA (qI6 k _ (fun v hv=>(by
     obtain ⟨e',he',rfl⟩:=Ae.mp hv
     have he':e'∈es.toList:=Array.mem_toList_iff.mpr (Array.mem_filter.mp (Array.mem_toList_iff.mp he')).1
     obtain ⟨ks'',c',_,hh,kk⟩:=S.el.mem _ he'
     exact ⟨c',ks'',by rw [hh],kk⟩)) ?_)
    simp only [A7,Bx]
   all_goals
    rw [AQ hie,hc]
    dsimp only
    refine AA (Ao (wpAny_eqBool_tuple hu kc k ?_))
    refine AA (At ho hd hfit ?_)
    dsimp only
    by_cases hq:ks'=ks
    ·subst hq
     rw [AS rfl]
     have hmem:ks'∈kss:=As hks'
     cases adding with
     |true=>exact AD (h1 hmem none fun z=>by cases z)
     |false =>
      simp only [Bool.false_and,A7,Bx]
      rw [show t.sameMemory t.moves t.mask=some true by unfold SetTable.sameMemory;rw [AG (Aq _)]]
      dsimp only
      rw [AG rfl,hsl]
      dsimp only
      rw [AQ hie,hc]
      dsimp only
      refine AA (wpAny_isSame_ref_self (AA (AD ?_)))
      rw [AG rfl]
      dsimp only
      exact AD (h1 hmem (some i) fun _=>rfl)
    ·rw [Aa hq]
     rw [B2]
     simp only [A7,Bx]
     rw [show t.sameMemory t.moves t.mask=some true by unfold SetTable.sameMemory;rw [AG (Aq _)]]
     dsimp only
     rw [AG rfl,hsl]
     dsimp only
     rw [AQ hie,hc]
     dsimp only
     refine AA (wpAny_isSame_ref_self (AA (AD ?_)))
     rw [AG rfl]
     dsimp only
     refine qEH hu S k hk hb hk0 h1 h2 f (x + 1) _ (by omega) (by omega) rfl fun y hy j hj hjl => ?_
     by_cases hym:y < m
     ·exact hn y hym j hj hjl
     ·have uniq:t.place.getD j 0=t.place.getD i 0->j=i:=fun e'=>by
       rcases Nat.lt_trichotomy j i with q |q |q
       ·have:=S.tb.g.ris _ _ q hi;omega
       ·exact q
       ·have:=S.tb.g.ris _ _ q hjl;omega
      by_cases hyx:y=x
      ·subst hyx
       rw [uniq (hj.trans hpl.symm),hks']
       intro z;cases z;exact hq rfl
      ·intro z
       refine hall y (by omega) (by omega) j hj hjl ?_
       obtain ⟨c',hc',_⟩:=S.el.get' z
       show (es[j]?.map (·.1)).getD 0=_
       rw [← Aw,hc'];rfl
theorem SetT.first {h:Heap} {a:Addr} {es:Array (Int×Value)} {ep:Nat} {t:SetTable} {kss:List (List Int)} (S:SetT prog w h a es ep t kss) (hs:Int):∃ k,k < 10 * SetTable.turns t.mask∧(sq t.mask hs k).j ∉ t.place.toList ∧ ∀ m,m < k->(sq t.mask hs m).j∈t.place.toList:=S.tb.g.first S.tb.lv.cyc hs
theorem jv {mask n:Nat} (h:Lv mask n):10 * SetTable.turns mask < 100000:=by
 unfold SetTable.turns
 rcases h with ⟨h,_⟩ |⟨h,_⟩ |⟨h,_⟩ |⟨h,_⟩ <;> omega
theorem qFd {a:Addr} {es:Array (Int×Value)} {ep:Nat} {t:SetTable} {kss:List (List Int)} {ks:List Int} {b:Addr} {adding:Bool} {Q:SetFound->Shared->Prop} (hu:A.units < cLine) (S:SetT prog w s.heap a es ep t kss) (k:TK prog w s.heap ks b)
  (h1:ks∈kss -> ∀ oi,(adding=false->oi.isSome=true)->Q (.there oi) s)
  (h2:ks ∉ kss -> ∀ k0,(sq t.mask (hsT prog w ks) k0).j ∉ t.place.toList->(∀ m,m < k0->(sq t.mask (hsT prog w ks) m).j∈t.place.toList)->Q (.free (sq t.mask (hsT prog w ks) k0).j false) s) :
  wpAny (model prog w) A (setSearch a (.ref b) (hsT prog w ks) adding) Q E s:=by
 obtain ⟨k0,hk0,hk,hb⟩:=S.first (hsT prog w ks)
 have:=jv S.tb.lv
 exact qEH hu S k hk hb hk0 h1 (fun q=>h2 q k0 hk hb) 100000 0 none (A6 _) (by omega) rfl fun y hy=>absurd hy (BG _)
theorem qE6 {mask n:Nat} (h:Lv mask n) (hn:n + 1≤300) (hf:¬ (n + 1) * 5 ≥ mask * 3):Lv mask (n + 1):=by
 rcases h with ⟨rfl,h⟩ |⟨rfl,h⟩ |⟨rfl,h⟩ |⟨rfl,h⟩
 ·exact .inl ⟨rfl,by omega⟩
 ·exact .inr (.inl ⟨rfl,by omega⟩)
 ·exact .inr (.inr (.inl ⟨rfl,by omega⟩))
 ·exact .inr (.inr (.inr ⟨rfl,by omega⟩))
theorem qFB {mask n:Nat} (h:Lv mask n) (hn:n + 1≤300) (hf:(n + 1) * 5 ≥ mask * 3):Lv (SetTable.sizeAbove (SetTable.grown (n + 1)) - 1) (n + 1)∧SetTable.sizeAbove (SetTable.grown (n + 1))≤512:=by
 rcases h with ⟨rfl,h⟩ |⟨rfl,h⟩ |⟨rfl,h⟩ |⟨rfl,h⟩
 ·have:n=4:=by omega
  subst this
  exact ⟨.inr (.inl ⟨by decide,by omega⟩),by decide⟩
 ·have:n=18:=by omega
  subst this
  exact ⟨.inr (.inr (.inl ⟨by decide,by omega⟩)),by decide⟩
 ·have:n=76:=by omega
  subst this
  exact ⟨.inr (.inr (.inr ⟨by decide,by omega⟩)),by decide⟩
 ·omega
theorem qA1 {mask n:Nat} (h:Lv mask n):n + 1≤mask:=by
 rcases h with ⟨rfl,h⟩ |⟨rfl,h⟩ |⟨rfl,h⟩ |⟨rfl,h⟩ <;> omega
theorem qIJ {a:Addr} {es:Array (Int×Value)} {ep:Nat} {t:SetTable} {kss:List (List Int)} {ks:List Int} {b:Addr} {Q:Bool->Shared->Prop} (hu:A.units < cLine) (S:SetT prog w s.heap a es ep t kss) (k:TK prog w s.heap ks b) (hn:kss.length + 1≤300)
  (h:∀ (h':Heap) (es':Array (Int×Value)) (ep':Nat) (t':SetTable) (kss':List (List Int)),Heap.SameBut a s.heap h'->SetT prog w h' a es' ep' t' kss'->kss'.Perm (if ks∈kss then kss else kss++[ks])->(∀ e∈es'.toList,e∈es.toList∨e.2 = .ref b)->Q (decide (ks ∉ kss)) { s with heap:=h' }) :
  wpAny (model prog w) A (setAddHashed a (.ref b) (hsT prog w ks)) Q E s:=by
 obtain ⟨o,ho,hx,hd⟩:=S.ex
 have hfit:=jV S.tb.g
 have hlen:es.size=kss.length:=by rw [← S.el.len,AR]
 unfold setAddHashed
 refine Ao ?_
 rw [setAddHashedIn.eq_def]
 refine AA (At ho hd hfit ?_)
 dsimp only
 rw [AH (by unfold byScan;exact fun q=>Bool.noConfusion (show false=true from q))]
 refine AA (qFd (adding:=true) hu S k (fun q oi _ => ?_) fun q k0 hk hb => ?_)
 ·dsimp only
  refine AD ?_
  have:=h s.heap es ep t kss ⟨rfl,fun _ _=>rfl⟩ S (by rw [AG q]) (fun e he => .inl he)
  rw [Aa (not_not_intro q)] at this
  exact this
 ·dsimp only
  refine AA (At ho hd hfit ?_)
  dsimp only
  have hne:∀ ks' c,TK prog w s.heap ks' c->c≠a:=fun ks' c kc z=>by
   subst z
   obtain ⟨o',_,_,g1,g2,g3,_⟩:=kc
   rw [ho] at g1;cases g1
   rw [hd] at g3;cases g3
  obtain ⟨T1,R1,P1⟩:=jG (x:=Value.ref b) S.tb.g (qA1 S.tb.lv) S.tb.r (qGC k0) hk hb
  generalize ht:t.put (sq t.mask (hsT prog w ks) k0).j=tp at T1 R1 P1 ⊢
  obtain ⟨t1,p1⟩:=tp
  dsimp only at T1 R1 P1 ⊢
  have hm1:t1.mask=t.mask:=by have:=B3 (fun x=>x.1.mask) ht;exact this.symm
  have hl1:t1.led=t.led:=by have:=B3 (fun x=>x.1.led) ht;exact this.symm
  have hp1:t1.plain=t.plain:=by have:=B3 (fun x=>x.1.plain) ht;exact this.symm
  rw [AG (hp1.trans S.tb.pl)]
  refine AA (hbv k ?_)
  rw [AG rfl]
  have hsz1:(SetTable.insertAt es p1 (hsT prog w ks,Value.ref b)).size=es.size + 1:=by
   have:=P1.length_eq
   simpa using this
  refine AA (wpAny_storeSet_of ho hd ?_ (by rw [hsz1];exact Am (show es.size + 1≤300 by omega) (by decide)))
  obtain ⟨oc,od,odt,osl⟩:=o
  have hd:odt=Data.set es ep t:=hd
  subst hd
  have hu1:(s.heap.update a (Obj.putSet (SetTable.insertAt es p1 (hsT prog w ks,.ref b)) t1)).get? a=some ⟨oc,od,Data.set (SetTable.insertAt es p1 (hsT prog w ks,.ref b)) (ep + 1) t1,osl⟩:=by
   rw [Av _ ho rfl]
   rfl
  have hsb:Heap.SameBut a s.heap (s.heap.update a (Obj.putSet (SetTable.insertAt es p1 (hsT prog w ks,.ref b)) t1)):=⟨BY ..,fun c hc=>CU _ _ _ _ hc⟩
  generalize s.heap.update a (Obj.putSet (SetTable.insertAt es p1 (hsT prog w ks,.ref b)) t1)=h1 at hu1 hsb ⊢
  have keep:∀ c ks',TK prog w s.heap ks' c->TK prog w h1 ks' c:=fun c ks' kc=>kc.keep fun o' ho'=>(hsb.2 c (hne ks' c kc)).trans ho'
  have E1:EsT prog w h1 ((hsT prog w ks,Value.ref b)::es.toList) (ks::kss) := .cons (keep _ _ k) (S.el.keep keep)
  obtain ⟨kss1,q1,E2⟩:=E1.perm P1.symm
  have nd1:kss1.Nodup:=q1.nodup_iff.mp (Bg.mpr ⟨q,S.nd⟩)
  have qp:kss1.Perm (if ks∈kss then kss else kss++[ks]):=by
   rw [AH q]
   exact q1.symm.trans (List.perm_append_comm (l₁:=[ks]) (l₂:=kss))
  have hfull:t1.tooFull=decide ((es.size + 1) * 5 ≥ t.mask * 3):=by
   unfold SetTable.tooFull SetTable.fill
   rw [T1.dum,T1.sz,hm1]
   rfl
  rw [hfull]
  have fresh1:∀ e∈(SetTable.insertAt es p1 (hsT prog w ks,Value.ref b)).toList,e∈es.toList∨e.2 = .ref b:=fun e he=>by
   rcases AL.mp (P1.mem_iff.mp he) with z |z
   ·exact .inr (by rw [z])
   ·exact .inl z
  have fin:∀ (h2:Heap),(∀ es' ep' t' kss',Heap.SameBut a s.heap h2->SetT prog w h2 a es' ep' t' kss'->kss'.Perm (if ks∈kss then kss else kss++[ks])->(∀ e∈es'.toList,e∈es.toList∨e.2 = .ref b)->Q true { s with heap:=h2 }):=fun h2 es' ep' t' kss' a1 a2 a3 a4=>by
   have:=h h2 es' ep' t' kss' a1 a2 a3 a4
   rw [AS q] at this
   exact this
  by_cases hf:(es.size + 1) * 5 ≥ t.mask * 3
  ·rw [AS hf]
   simp only [Bool.not_false,Bool.and_self,if_true]
   obtain ⟨L1,L2⟩:=qFB S.tb.lv (by omega) hf
   unfold setRelay
   refine AA ?_
   refine AA (At (s:={ s with heap:=h1 }) hu1 rfl (by rw [hsz1];exact jV T1) ?_)
   dsimp only
   rw [AH (by rw [Bo];omega)]
   obtain ⟨t2,order,e2,m2,l2,p2,P2,T2,R2⟩:=qFi (finger:=t1.finger) (moves:=t1.movedTo (SetTable.sizeAbove (SetTable.grown (es.size + 1)) - 1)) (led:=t1.led) (plain:=t1.plain) L1.cyc (es:=SetTable.insertAt es p1 (hsT prog w ks,Value.ref b)) (by rw [hsz1];have:=qA1 L1;omega)
   have e2:t1.relaid ((SetTable.insertAt es p1 (hsT prog w ks,Value.ref b)).map (·.1)) (SetTable.grown (es.size + 1))=some (t2,order):=e2
   rw [e2]
   have hsz2:(order.filterMap ((SetTable.insertAt es p1 (hsT prog w ks,Value.ref b))[·]?)).size=es.size + 1:=by
    have:=P2.length_eq
    rw [AR,AR,hsz1] at this
    exact this
   refine AA (AZ (a:=(order.filterMap ((SetTable.insertAt es p1 (hsT prog w ks,Value.ref b))[·]?),t2)) ?_ ?_)
   ·show (if ((order.filterMap ((SetTable.insertAt es p1 (hsT prog w ks,Value.ref b))[·]?)).size != (SetTable.insertAt es p1 (hsT prog w ks,Value.ref b)).size)=true then _ else pure _)=pure _
    rw [AH (by rw [hsz2,hsz1];simp)]
   ·dsimp only
    refine wpAny_storeSet_of (s:={ s with heap:=h1 }) hu1 rfl ?_ (by rw [hsz2];exact Am (show es.size + 1≤300 by omega) (by decide))
    have hu2:(h1.update a (Obj.putSet (order.filterMap ((SetTable.insertAt es p1 (hsT prog w ks,Value.ref b))[·]?)) t2)).get? a=some ⟨oc,od,Data.set (order.filterMap ((SetTable.insertAt es p1 (hsT prog w ks,Value.ref b))[·]?)) (ep + 1 + 1) t2,osl⟩:=by
     rw [Av _ hu1 rfl]
     rfl
    have hsb2:Heap.SameBut a h1 (h1.update a (Obj.putSet (order.filterMap ((SetTable.insertAt es p1 (hsT prog w ks,Value.ref b))[·]?)) t2)):=⟨BY ..,fun c hc=>CU _ _ _ _ hc⟩
    refine AD ?_
    generalize h1.update a (Obj.putSet (order.filterMap ((SetTable.insertAt es p1 (hsT prog w ks,Value.ref b))[·]?)) t2)=h2 at hu2 hsb2 ⊢
    obtain ⟨kss2,q2,E3⟩:=E2.perm P2.symm
    have E4:EsT prog w h2 (order.filterMap ((SetTable.insertAt es p1 (hsT prog w ks,Value.ref b))[·]?)).toList kss2:=E3.keep fun c ks' kc=>kc.keep fun o' ho'=>(hsb2.2 c (fun z=>by
     subst z
     obtain ⟨o',_,_,g1,g2,g3,_⟩:=kc
     rw [hu1] at g1;cases g1
     cases g3)).trans ho'
    refine fin h2 _ _ _ kss2 ⟨hsb2.1.trans hsb.1,fun c hc=>(hsb2.2 c hc).trans (hsb.2 c hc)⟩ ⟨⟨_,hu2,hx,rfl⟩,E4,q2.nodup_iff.mp nd1,⟨?_,R2,?_,?_,?_⟩⟩ (q2.symm.trans qp) (fun e he=>fresh1 e (P2.mem_iff.mp he))
    ·rw [hsz2,← hsz1];exact T2
    ·rw [hsz2,m2];exact L1
    ·rw [l2,hl1];exact S.tb.led
    ·rw [p2,hp1];exact S.tb.pl
  ·rw [Aa hf]
   simp only [Bool.not_false,B2,A7,Bx]
   refine AD (fin h1 _ _ _ kss1 hsb ⟨⟨_,hu1,hx,rfl⟩,E2,nd1,⟨?_,R1,?_,?_,?_⟩⟩ qp fresh1)
   ·rw [hsz1];exact T1
   ·rw [hsz1,hm1];exact qE6 S.tb.lv (by omega) hf
   ·rw [hl1];exact S.tb.led
   ·rw [hp1];exact S.tb.pl
end
end ET
end
section
namespace ET
open PySem PySem.Spec PyProof.Rows L2 EX PySem.W
section
variable {O:KeyOrd} {key:Nat->O.α} {n:Nat}
def kOk (key:Nat->O.α) (n:Nat) {α:Type}:KasT α->(α->Prop)->Prop
 | .ret a,P=>P a
 | .ask i j k,P=>i < n∧j < n∧kOk key n (k (O.blt (key i) (key j))) P
theorem Wk {α β:Type} {f:α->KasT β} {P:β->Prop}:∀ {t:KasT α},kOk key n t (fun a=>kOk key n (f a) P)->kOk key n (t.bind f) P
 | .ret a,h=>h
 | .ask i j k,h=>⟨h.1,h.2.1,Wk h.2.2⟩
theorem jx {α:Type} {cmp:Nat->Nat->(Bool->Shared->Prop)->Shared->Prop} {s:Shared} (hc:∀ i j C,i < n->j < n->C (O.blt (key i) (key j)) s->cmp i j C s) {P:α->Prop} {Q:α->Shared->Prop} (hq:∀ a,P a->Q a s):∀ (t:KasT α),kOk key n t P->t.kasWp cmp Q s
 | .ret a,h=>hq a h
 | .ask i j k,h=>hc i j _ h.1 h.2.1 (jx hc hq _ h.2.2)
structure PB (n:Nat) (p:Array Nat):Prop where
 perm:p.Perm (List.range n).toArray
theorem PB.size {p:Array Nat} (h:PB n p):p.size=n:=by
 have:=h.perm.size_eq;simpa using this
theorem PB.lt {p:Array Nat} (h:PB n p) {k:Nat} (hk:k < n):p.getD k 0 < n:=by
 have hs:=h.size
 rw [AN,AQ (by omega)]
 have:p[k]∈(List.range n).toArray.toList:=(Array.perm_iff_toList_perm.mp h.perm).mem_iff.mp (by simp)
 simpa using this
def kq (key:Nat->O.α) (p:Array Nat) (k:Nat):O.α:=key (p.getD k 0)
def Srt (key:Nat->O.α) (p:Array Nat) (k:Nat):Prop := ∀ i j,i≤j->j < k->O.kle (kq key p i) (kq key p j)
def Nin (key:Nat->O.α) (p:Array Nat) (k:Nat):Prop := ∀ i j,i≤j->j < k->O.kle (kq key p j) (kq key p i)
theorem ZW {p:Array Nat} {i j:Nat} (hj:j≤p.size) (k:Nat):kq key (kas_rev p i j) k=if i≤k∧k < j then kq key p (i + j - 1 - k) else kq key p k:=by
 have e:=getElem?_mirror_all (i:=i) hj k
 unfold kq kas_rev
 rw [AN,e]
 split
 ·rw [AN]
 ·rw [AN]
theorem wS {p:Array Nat} {i j:Nat} (hj:j≤p.size) (heq:∀ k,i≤k->k < j->kq key p k=kq key p (j - 1)) (k:Nat):kq key (kas_rev p i j) k=kq key p k:=by
 rw [ZW hj]
 split
 ·rw [heq _ (by omega) (by omega),heq k (by omega) (by omega)]
 ·rfl
theorem Yo {p:Array Nat} {src d:Nat} (hs:src < p.size) (hd:d≤src) (k:Nat):kq key (bubble p src d) k=if k=src - d then kq key p src else if src - d < k∧k≤src then kq key p (k - 1) else kq key p k:=by
 have e:=getElem?_bubble hs d hd k
 unfold kq
 rw [AN,AN,AN,AN,e]
 split
 ·rfl
 ·split <;> rfl
theorem PB.rev {p:Array Nat} (h:PB n p) (i j:Nat):PB n (kas_rev p i j):=⟨(mirror_perm _ _ _ _).trans h.perm⟩
theorem qAZ {p:Array Nat} (B:PB n p) {nrem:Nat} (hn:nrem≤n) {P:Nat->Prop} (h:∀ m,1≤m->m≤nrem->Srt key p m->(m=nrem∨O.klt (kq key p m) (kq key p (m - 1)))->P m):∀ (f a:Nat),1≤a->a + f=nrem->Srt key p a->kOk key n (kas_asc p f a) P
 |0,a,h1,h2,hs=>h a h1 (by omega) hs (.inl (by omega))
 |f + 1,a,h1,h2,hs=>by
  refine ⟨B.lt (by omega),B.lt (by omega),?_⟩
  show kOk key n (if O.blt (kq key p a) (kq key p (a - 1))=true then .ret a else kas_asc p f (a + 1)) P
  cases hl:O.blt (kq key p a) (kq key p (a - 1)) with
  |true=>rw [AG rfl];exact h a h1 (by omega) hs (.inr hl)
  |false =>
   rw [AH (by simp)]
   refine qAZ B hn h f (a + 1) (by omega) (by omega) fun i j hij hj => ?_
   by_cases hja:j < a
   ·exact hs i j hij hja
   ·have:j=a:=by omega
    subst this
    by_cases hi':i=j
    ·subst hi';exact BS _
    ·exact CQ (hs i (j - 1) (by omega) (by omega)) hl
theorem Jf {p:Array Nat} (B:PB n p) {nrem m:Nat} (hn:nrem≤n) (h1:1≤m) (hm:m≤nrem) (hs:Nin key p m) {P:Nat×Array Nat->Prop} (h:∀ m' p',PB n p'->1≤m'->m'≤nrem->Srt key p' m'->P (m',p')):kOk key n (kas_tail3 m nrem p) P:=by
 unfold kas_tail3
 have hsz:m≤p.size:=by rw [B.size];omega
 refine Wk (qAZ (B.rev 0 m) hn (fun m' a b c _=>h m' _ (B.rev 0 m) a b c) _ _ h1 (by omega) fun i j hij hj => ?_)
 rw [ZW hsz,ZW hsz,AG (by omega),AG (by omega)]
 exact hs _ _ (by omega) (by omega)
theorem Z2 {nrem:Nat} (hn:nrem≤n) {P:Array Nat×Nat×Nat->Prop}
  (h:∀ m neq p',PB n p'->1≤m->m≤nrem->Nin key p' m->neq + 1≤m->(∀ i,m - (neq + 1)≤i->i < m->kq key p' i=kq key p' (m - 1))->P (p',m,neq)) :
  ∀ (f:Nat) (p:Array Nat) (x neq:Nat),PB n p->1≤x->x + f=nrem->Nin key p x->neq + 1≤x->(∀ i,x - (neq + 1)≤i->i < x->kq key p i=kq key p (x - 1))->kOk key n (kas_desc f p x neq) P
 |0,p,x,neq,B,h1,h2,hs,hq,he=>h x neq p B h1 (by omega) hs hq he
 |f + 1,p,x,neq,B,h1,h2,hs,hq,he=>by
  have hsz:x≤p.size:=by rw [B.size];omega
  refine ⟨B.lt (by omega),B.lt (by omega),?_⟩
  show kOk key n (if O.blt (kq key p x) (kq key p (x - 1))=true then (if neq > 0 then kas_desc f (kas_rev p (x - (neq + 1)) x) (x + 1) 0 else kas_desc f p (x + 1) 0) else .ask (p.getD (x - 1) 0) (p.getD x 0) fun d=>if d=true then .ret (p,x,neq) else kas_desc f p (x + 1) (neq + 1)) P
  cases hl:O.blt (kq key p x) (kq key p (x - 1)) with
  |true =>
   rw [AG rfl]
   have step1:∀ p':Array Nat,(∀ k,kq key p' k=kq key p k)->Nin key p' (x + 1):=by
    intro p' hk i j hij hj
    rw [hk,hk]
    by_cases hjx:j < x
    ·exact hs i j hij hjx
    ·have hj':j=x:=by omega
     subst hj'
     by_cases hi':i=j
     ·subst hi';exact BS _
     ·exact CQ (CL hl) (hs i (j - 1) (by omega) (by omega))
   by_cases hneq:neq > 0
   ·rw [AG hneq]
    exact Z2 hn h f _ _ _ (B.rev _ _) (by omega) (by omega) (step1 _ (wS hsz he)) (by omega) fun i h1 h2=>by congr 1;omega
   ·rw [AH hneq]
    exact Z2 hn h f _ _ _ B (by omega) (by omega) (step1 _ fun _=>rfl) (by omega) fun i h1 h2=>by congr 1;omega
  |false =>
   rw [AH (by simp)]
   refine ⟨B.lt (by omega),B.lt (by omega),?_⟩
   show kOk key n (if O.blt (kq key p (x - 1)) (kq key p x)=true then .ret (p,x,neq) else kas_desc f p (x + 1) (neq + 1)) P
   cases hg:O.blt (kq key p (x - 1)) (kq key p x) with
   |true=>rw [AG rfl];exact h x neq p B h1 (by omega) hs hq he
   |false =>
    rw [AH (by simp)]
    have heqx:kq key p x=kq key p (x - 1):=KeyOrd.kle_antisymm hg hl
    refine Z2 hn h f _ _ _ B (by omega) (by omega) (fun i j hij hj => ?_) (by omega) fun i h1 h2 => ?_
    ·by_cases hjx:j < x
     ·exact hs i j hij hjx
     ·have hj':j=x:=by omega
      subst hj'
      by_cases hi':i=j
      ·subst hi';exact BS _
      ·rw [heqx];exact hs i (j - 1) (by omega) (by omega)
    ·rw [show x + 1 - 1=x by omega]
     by_cases hix:i=x
     ·subst hix;rfl
     ·rw [heqx];exact he i (by omega) (by omega)
theorem Zg {p:Array Nat} (B:PB n p) {nrem m:Nat} (hn:nrem≤n) (hm:m + 1≤nrem) (hs:Nin key p (m + 1)) {P:Nat×Array Nat->Prop} (h:∀ m' p',PB n p'->1≤m'->m'≤nrem->Srt key p' m'->P (m',p')):kOk key n (kas_descPart m nrem p) P:=by
 unfold kas_descPart
 refine Wk (Z2 hn (fun m' neq p' B' a1 a2 hs' hq he => ?_) _ _ _ _ B (by omega) (by omega) hs (by omega) fun i h1 h2=>by congr 1;omega)
 dsimp only
 have hsz:m'≤p'.size:=by rw [B'.size];omega
 by_cases hneq:neq > 0
 ·rw [AG hneq]
  refine Jf (B'.rev _ _) hn a1 a2 (fun i j hij hj => ?_) h
  rw [wS hsz he,wS hsz he]
  exact hs' i j hij hj
 ·rw [AH hneq]
  exact Jf B' hn a1 a2 hs' h
theorem qC7 {p:Array Nat} (B:PB n p) (h1:1≤n) {P:Nat×Array Nat->Prop} (h:∀ m' p',PB n p'->1≤m'->m'≤n->Srt key p' m'->P (m',p')):kOk key n (kas_count n p) P:=by
 unfold kas_count
 refine Wk (qAZ B (AM n) (fun m hm1 hm2 hsn hor => ?_) _ _ (AM 1) (by omega) fun i j hij hj=>by have:i=j:=(by omega);subst this;exact BS _)
 by_cases hnn:m=n
 ·rw [AG (by simpa using hnn)]
  exact h m p B hm1 hm2 hsn
 ·rw [AH (by simpa using hnn)]
  have hlt:O.klt (kq key p m) (kq key p (m - 1)):=hor.resolve_left hnn
  have hsz:m≤p.size:=by rw [B.size];omega
  by_cases hgt:m > 1
  ·rw [AG hgt]
   refine ⟨B.lt (by omega),B.lt (by omega),?_⟩
   show kOk key n (if O.blt (kq key p 0) (kq key p (m - 1))=true then .ret (m,p) else kas_descPart m n (kas_rev p 0 m)) P
   cases hrose:O.blt (kq key p 0) (kq key p (m - 1)) with
   |true=>rw [AG rfl];exact h m p B hm1 hm2 hsn
   |false =>
    rw [AH (by simp)]
    have hall:∀ k,0≤k->k < m->kq key p k=kq key p (m - 1):=by
     intro k _ hk
     have a1:=hsn 0 k (by omega) hk
     have a2:=hsn k (m - 1) (by omega) (by omega)
     exact KeyOrd.kle_antisymm a2 (CQ hrose a1)
    refine Zg (B.rev _ _) (AM n) (by omega) (fun i j hij hj => ?_) h
    rw [wS hsz hall,wS hsz hall]
    by_cases hjn:j < m
    ·rw [hall i (by omega) (by omega),hall j (by omega) hjn];exact BS _
    ·have hj':j=m:=by omega
     subst hj'
     by_cases hi':i=j
     ·subst hi';exact BS _
     ·rw [hall i (by omega) (by omega)];exact CL hlt
  ·rw [AH hgt]
   have hn1':m=1:=by omega
   subst hn1'
   refine Zg B (AM n) (by omega) (fun i j hij hj => ?_) h
   by_cases hi':i=j
   ·subst hi';exact BS _
   ·have hi0:i=0:=by omega
    have hj1:j=1:=by omega
    subst hi0;subst hj1
    exact CL hlt
theorem yP {p:Array Nat} (B:PB n p) {k:Nat} (hk:k < n) (hs:Srt key p k) {P:Nat->Prop} (h:∀ l,l≤k->(∀ i,i < l->O.kle (kq key p i) (kq key p k))->(∀ i,l≤i->i < k->O.klt (kq key p k) (kq key p i))->P l) :
  ∀ (f l r:Nat),l≤r->r≤k->r - l≤f->(∀ i,i < l->O.kle (kq key p i) (kq key p k))->(∀ i,r≤i->i < k->O.klt (kq key p k) (kq key p i))->kOk key n (kas_place p k f l r) P
 |0,l,r,h1,h2,h3,h4,h5=>by
  have:l=r:=by omega
  subst this
  exact h l h2 h4 h5
 |f + 1,l,r,h1,h2,h3,h4,h5=>by
  unfold kas_place
  by_cases hge:l ≥ r
  ·rw [AG hge]
   have:l=r:=by omega
   subst this
   exact h l h2 h4 h5
  ·rw [AH hge]
   refine ⟨B.lt hk,B.lt (by omega),?_⟩
   show kOk key n (if O.blt (kq key p k) (kq key p ((l + r) / 2))=true then kas_place p k f l ((l + r) / 2) else kas_place p k f ((l + r) / 2 + 1) r) P
   cases hless:O.blt (kq key p k) (kq key p ((l + r) / 2)) with
   |true =>
    rw [AG rfl]
    exact yP B hk hs h f _ _ (by omega) (by omega) (by omega) h4 fun i a b=>KeyOrd.klt_of_klt_of_kle hless (hs _ _ a b)
   |false =>
    rw [AH (by simp)]
    exact yP B hk hs h f _ _ (by omega) (by omega) (by omega) (fun i a=>CQ (hs i ((l + r) / 2) (by omega) (by omega)) (show O.kle _ _ from hless)) h5
theorem QL {P:Array Nat->Prop} (h:∀ p,PB n p->Srt key p n->P p):∀ (f:Nat) (p:Array Nat) (k:Nat),PB n p->k + f=n->Srt key p k->kOk key n (kas_bin f p k) P
 |0,p,k,B,h1,hs=>h p B (by
  have:k=n:=by omega
  subst this;exact hs)
 |f + 1,p,k,B,h1,hs=>by
  unfold kas_bin
  refine Wk (yP B (by omega) hs (fun l hlk hlo hhi => ?_) k 0 k (by omega) (AM _) (by omega) (fun i hi=>absurd hi (BG _)) fun i a b=>absurd b (by omega))
  refine QL h f _ (k + 1) ⟨(bubble_perm _ _ _).trans B.perm⟩ (by omega) fun i j hij hj => ?_
  have hks:k < p.size:=by rw [B.size];omega
  rw [Yo hks (by omega),Yo hks (by omega),show k - (k - l)=l by omega]
  repeat' split
  all_goals first
   |(exfalso;omega)
   |exact BS _
   |exact hlo _ (by omega)
   |exact CL (hhi _ (by omega) (by omega))
   |exact hs _ _ (by omega) (by omega)
theorem qFD (h1:1≤n):kOk key n (kas_sort n) fun p=>PB n p∧Srt key p n:=by
 unfold kas_sort
 refine Wk (qC7 ⟨Array.Perm.refl _⟩ h1 fun m p B a b hs => ?_)
 dsimp only
 by_cases hlt:m < n
 ·rw [AG hlt,show max m 1=m by omega]
  exact QL (fun p B hs=>⟨B,hs⟩) _ _ _ B (by omega) hs
 ·rw [AH hlt]
  have:m=n:=by omega
  subst this
  exact ⟨B,hs⟩
end
section
variable {prog:Program} {w:World} {A:Around} {E:Value->Shared->Prop} {s:Shared} {O:KeyOrd}
theorem qBc {vs:List Value} (hsz:vs.toArray.size=vs.length) (h2:vs.toArray.size < 2):List.toArray ((List.range vs.length).toArray.toList.map fun i=>vs.getD i Value.none)=(vs.toArray.zip vs.toArray).map (·.2):=by
 match vs,hsz,h2 with
 |[],_,_=>simp
 |[v],_,_=>simp
 |v₁::v₂::rest,hsz,h2=>rw [hsz,AT,AT] at h2;omega
theorem qAt {a:Addr} {vs:List Value} {n:Nat} {P:PySem.Fin->Shared->Prop} {key:Nat->O.α} {κ:SortKind} (ho:s.heap.get? a=some (seqObj "list" vs.toArray n)) (h64:vs.length < 64)
  (hk:2≤vs.length -> ∀ (h6:Heap) (Q:SortKind->Shared->Prop),(∀ b o,b≠a->s.heap.get? b=some o->h6.get? b=some o)->Q κ { s with heap:=h6 }->wpAny (model prog w) A (keyKind' vs.toArray) Q E { s with heap:=h6 })
  (hc:∀ (h6:Heap) (i j:Nat) (C:Bool->Shared->Prop),(∀ b o,b≠a->s.heap.get? b=some o->h6.get? b=some o)->i < vs.length->j < vs.length->C (O.blt (key i) (key j)) { s with heap:=h6 }->wpAny (model prog w) A (keyLt' κ (vs.getD i Value.none) (vs.getD j Value.none)) C (fun _ _=>False) { s with heap:=h6 })
  (h:∀ p:Array Nat,PB vs.length p->Srt key p vs.length->P (.done (.ret .none)) { s with heap:=sortedHeap s.heap a vs (List.toArray (p.toList.map fun i=>vs.getD i Value.none)) }) :
  wpAny (model prog w) A (Builtin.«list.sort» ⟨[.ref a],[]⟩) P E s:=by
 rw [list_sort_plain]
 have ha:a < s.heap.objs.size:=AK ho
 refine AA (listItems_at ho rfl ?_)
 refine AA (listUpdate_at ho rfl ?_)
 obtain ⟨e1,ho1⟩:∃ e1,(s.heap.update a (Obj.mapSeq fun _ => #[])).get? a=some (seqObj "list" #[] e1):=⟨_,get?_update_seq ho (fun _ => #[])⟩
 refine AA (seqEpoch_at ho1 rfl ?_)
 refine AA (wpAny_newTuple ?_)
 refine AA (CT ?_)
 refine Ao ?_
 have ho6:(((s.heap.update a (Obj.mapSeq fun _ => #[])).push (seqObj "tuple" vs.toArray 0)).push (seqObj "list" #[] 0)).get? a=some (seqObj "list" #[] e1):=by
  rw [Heap.get?_push_ne _ _ _ (by rw [size_push',BY];exact AX (A2 ha)),Heap.get?_push_ne _ _ _ (by rw [BY];exact AX ha)]
  exact ho1
 have keep:∀ b o,b≠a->s.heap.get? b=some o->(((s.heap.update a (Obj.mapSeq fun _ => #[])).push (seqObj "tuple" vs.toArray 0)).push (seqObj "list" #[] 0)).get? b=some o:=fun b o hb q =>
  AF _ (AF _ ((Ah _ _ (Ne.symm hb)).trans q))
 show wpAny (model prog w) A _ P E { s with heap:=((s.heap.update a (Obj.mapSeq fun _ => #[])).push (seqObj "tuple" vs.toArray 0)).push (seqObj "list" #[] 0) }
 dsimp only
 have hsz:vs.toArray.size=vs.length:=by simp
 by_cases h2:vs.toArray.size < 2
 ·rw [AG h2,AG h2]
  refine AA (AD ?_)
  rw [StateT.run_pure]
  refine AA (AD ?_)
  dsimp only
  refine AA (seqEpoch_at ho6 rfl ?_)
  refine AA (listUpdate_at ho6 rfl ?_ (hsz2:=by rw [Array.size_map];show (pairsOf vs).size≤_;rw [pairsOf_size,Bo];omega))
  simp only [bne_self_eq_false,A7,Bx]
  refine AD ?_
  have:=h (List.range vs.length).toArray ⟨Array.Perm.refl _⟩ fun i j hij hj=>by
   have:i=j:=by omega
   subst this;exact BS _
  have e:List.toArray ((List.range vs.length).toArray.toList.map fun i=>vs.getD i Value.none)=(arrOf (SortSt.mk' general' (vs.toArray.zip vs.toArray) #[] 7 none)).map (·.2):=qBc hsz h2
  rw [e] at this
  exact this
 ·rw [AH h2,AH h2]
  have h2':2≤vs.length:=by omega
  refine AA (hk h2' _ _ keep ?_)
  have hw:(kas_sort vs.length).kasWp (kas_ask prog w A κ vs) (fun p s'=>s'={ s with heap:=((s.heap.update a (Obj.mapSeq fun _ => #[])).push (seqObj "tuple" vs.toArray 0)).push (seqObj "list" #[] 0) }∧PB vs.length p∧Srt key p vs.length) { s with heap:=((s.heap.update a (Obj.mapSeq fun _ => #[])).push (seqObj "tuple" vs.toArray 0)).push (seqObj "list" #[] 0) } :=
   jx (O:=O) (key:=key) (n:=vs.length) (fun i j C hi hj hC=>hc _ i j C keep hi hj hC) (P:=fun p=>PB vs.length p∧Srt key p vs.length) (fun p hp=>⟨rfl,hp⟩) _ (qFD (by omega))
  refine AA (Be (kat_run (Q:=fun st' s' => ∃ p:Array Nat,p.size=vs.length∧arrOf st'=p.map (kas_item (vs.toArray.zip vs.toArray))∧failedOf st'=none∧s'={ s with heap:=((s.heap.update a (Obj.mapSeq fun _ => #[])).push (seqObj "tuple" vs.toArray 0)).push (seqObj "list" #[] 0) }∧PB vs.length p∧Srt key p vs.length)
   rfl h2' h64 (fun p' st' s' a1 a2 a3 a4=>⟨p',a1,a2,a3,a4⟩) hw) ?_ fun _ _ e=>e)
  rintro ⟨⟨⟩,st'⟩ s' ⟨p,hp,har,hf,rfl,B,S⟩
  dsimp only
  have hout:=kat_snds rfl har
  refine AA (seqEpoch_at ho6 rfl ?_)
  refine AA (listUpdate_at ho6 rfl ?_ (hsz2:=by rw [hout,AV,AC,AR,hp,Bo];omega))
  rw [hf]
  simp only [bne_self_eq_false,A7,Bx]
  rw [hout]
  exact AD (h p B S)
theorem qBq {l:Addr} {vs:List Value} {Q:Value->Shared->Prop} {key:Nat->O.α} {κ:SortKind} (hl:s.heap.IsList l vs.toArray) (h64:vs.length < 64)
  (hk:2≤vs.length -> ∀ (A':Around) (E':Value->Shared->Prop) (h6:Heap) (Q:SortKind->Shared->Prop),(∀ b o,s.heap.get? b=some o->h6.get? b=some o)->Q κ { s with heap:=h6 }->wpAny (model prog w) A' (keyKind' vs.toArray) Q E' { s with heap:=h6 })
  (hc:∀ (h6:Heap) (i j:Nat) (C:Bool->Shared->Prop),(∀ b o,s.heap.get? b=some o->h6.get? b=some o)->i < vs.length->j < vs.length->C (O.blt (key i) (key j)) { s with heap:=h6 }->wpAny (model prog w) A.in1.in1 (keyLt' κ (vs.getD i Value.none) (vs.getD j Value.none)) C (fun _ _=>False) { s with heap:=h6 })
  (h:∀ p:Array Nat,PB vs.length p->Srt key p vs.length->Q (.ref (s.heap.objs.size + 1)) { s with heap:=sortedAll s.heap vs (List.toArray (p.toList.map fun i=>vs.getD i Value.none)) }) :
  wpAny (model prog w) A (call (.builtin "sorted") [.ref l]) Q E s:=by
 refine Calls.call_function_entry kind_sorted plain_sorted entry_sorted (args_sorted1 _) ?_
 unfold Builtin.«sorted»
 refine AA (m:=checkCount "sorted" 1 1 _) (AD ?_)
 refine AA (collect_list hl ?_ (by rw [Bo];omega))
 refine AA (CT ?_ (by rw [Bo];omega))
 have hsz:((s.heap.push (seqObj "list" #[] 0)).update s.heap.objs.size (Obj.mapSeq (· ++ vs.toArray))).objs.size=s.heap.objs.size + 1:=by
  rw [BY,size_push']
 have hoL:(((s.heap.push (seqObj "list" #[] 0)).update s.heap.objs.size (Obj.mapSeq (· ++ vs.toArray))).push (seqObj "list" vs.toArray 0)).get? (s.heap.objs.size + 1)=some (seqObj "list" vs.toArray 0):=by
  rw [← hsz];exact AW _ rfl
 have keep:∀ b o,s.heap.get? b=some o->(((s.heap.push (seqObj "list" #[] 0)).update s.heap.objs.size (Obj.mapSeq (· ++ vs.toArray))).push (seqObj "list" vs.toArray 0)).get? b=some o:=fun b o q=>by
  have hlt:b < s.heap.objs.size:=AK q
  rw [Heap.get?_push_ne _ _ _ (by rw [hsz];exact AX (A2 hlt)),CU _ _ _ _ (AX hlt),Heap.get?_push_ne _ _ _ (AX hlt)]
  exact q
 show wpAny _ _ _ _ _ { s with heap:=((s.heap.push (seqObj "list" #[] 0)).update s.heap.objs.size (Obj.mapSeq (· ++ vs.toArray))).push (seqObj "list" vs.toArray 0) }
 rw [hsz]
 have hne:∀ b o,s.heap.get? b=some o->b≠s.heap.objs.size + 1:=fun b o q=>AX (A2 (AK q))
 refine AA (Ao (BW slot_list_sort ⟨_,hoL,rfl⟩ entry_list_sort (qAt (O:=O) (key:=key) (κ:=κ) hoL h64 (fun h2 h6 Q' k q=>hk h2 _ _ h6 Q' (fun b o hb=>k b o (hne b o hb) (keep b o hb)) q) (fun h6 i j C k hi hj q=>hc h6 i j C (fun b o hb=>k b o (hne b o hb) (keep b o hb)) hi hj q) fun p a1 a2=>⟨_,rfl,?_⟩) (args_list_sort _)))
 exact AD ⟨_,rfl,h p a1 a2⟩
end
def lxb:List Int->List Int->Bool
 |_,[]=>false
 |[],_::_=>true
 |a::l,b::m=>if a < b then true else if b < a then false else lxb l m
theorem Z4:∀ l,lxb l l=false
 |[]=>rfl
 |a::l=>by rw [lxb,AH (Int.lt_irrefl a),AH (Int.lt_irrefl a)];exact Z4 l
theorem qAY:∀ a b c,lxb a b=true->lxb b c=true->lxb a c=true
 |_,_,[],_,h=>by
  cases ‹List Int› <;> simp [lxb] at h
 |_,[],_::_,h,_=>by simp [lxb] at h
 |[],_::_,_::_,_,_=>rfl
 |x::l,y::m,z::n,h1,h2=>by
  unfold lxb at h1 h2 ⊢
  by_cases hxy:x < y
  ·by_cases hyz:y < z
   ·rw [AG (by omega)]
   ·rw [AH hyz] at h2
    by_cases hzy:z < y
    ·rw [AG hzy] at h2;cases h2
    ·rw [AG (by omega)]
  ·rw [AH hxy] at h1
   by_cases hyx:y < x
   ·rw [AG hyx] at h1;cases h1
   ·rw [AH hyx] at h1
    by_cases hyz:y < z
    ·rw [AG (by omega)]
    ·rw [AH hyz] at h2
     by_cases hzy:z < y
     ·rw [AG hzy] at h2;cases h2
     ·rw [AH hzy] at h2
      rw [AH (by omega),AH (by omega)]
      exact qAY l m n h1 h2
theorem yC:∀ a b,lxb a b=false->lxb b a=false->a=b
 |[],[],_,_=>rfl
 |[],_::_,h,_=>by cases h
 |_::_,[],_,h=>by cases h
 |x::l,y::m,h1,h2=>by
  unfold lxb at h1 h2
  by_cases hxy:x < y
  ·rw [AG hxy] at h1;cases h1
  ·by_cases hyx:y < x
   ·rw [AG hyx] at h2;cases h2
   ·rw [AH hxy,AH hyx] at h1
    rw [AH hyx,AH hxy] at h2
    have:x=y:=by omega
    rw [this,yC l m h1 h2]
def lxO:KeyOrd where
 α:=List Int
 blt:=lxb
 irrefl:=Z4
 trans:=qAY
 total:=yC
 negTrans:=fun a b c h=>by
  cases h1:lxb a b with
  |true=>exact .inl rfl
  |false =>
   right
   cases h2:lxb b a with
   |true=>exact qAY b a c h2 h
   |false=>rw [← yC a b h1 h2];exact h
section
variable {prog:Program} {w:World} {A:Around} {E:Value->Shared->Prop} {s:Shared}
theorem qEP (b:Bool) {x y:Int} {t u:Tok} {Q:Bool->Shared->Prop} (h:Q (decide (x < y)) s):wpAny (model prog w) A (oneLt' b (.int x t) (.int y u)) Q E s:=by
 cases b with
 |true=>exact oneLt_int h
 |false=>exact kat_one _ _ (wpAny_lt_int h)
theorem qGR {b fin:Bool} {Q:Bool->Shared->Prop} {ks:List Int} {vs:List Value} (hx:ItemsAre (intKind prog w) ks vs):∀ {ks':List Int} {us:List Value} (i:Nat),ItemsAre (intKind prog w) ks' us->decide (vs.length < us.length)=fin->Q (lxb ks ks') s->KatLex prog w A b fin Q (vs.zip us) i s:=by
 induction hx with
 |nil =>
  intro ks' us i hy hf h
  refine kat_nil ?_
  cases hy with
  |nil=>rw [← hf];exact h
  |cons _ _=>rw [← hf,Bv,AT,AS (Ca _)];exact h
 | @cons k v ks vs h1 h2 ih =>
  intro ks' us i hy hf h
  cases hy with
  |nil=>refine kat_nil ?_;rw [← hf];exact h
  | @cons k' u ks' us g1 g2 =>
   rw [BJ]
   refine kat_cons ((intKind prog w).eqBool h1 g1 ?_)
   obtain ⟨n1,t1,rfl⟩:=zR (.cons h1 h2) v AE
   obtain ⟨n2,t2,rfl⟩:=zR (.cons g1 g2) u AE
   have e1:n1=k:=(intKind prog w).inj _ _ _ (CN prog w n1 t1) h1
   have e2:n2=k':=(intKind prog w).inj _ _ _ (CN prog w n2 t2) g1
   subst e1;subst e2
   unfold lxb at h
   by_cases hq:n1=n2
   ·rw [AS hq]
    rw [AH (by omega),AH (by omega)] at h
    exact kat_yes (ih (i + 1) g2 (by simpa using hf) h)
   ·rw [Aa hq]
    refine kat_no (qEP _ ?_)
    by_cases hl:n1 < n2
    ·rw [AG hl] at h;rw [AS hl];exact h
    ·rw [AH hl,AG (by omega)] at h;rw [Aa hl];exact h
theorem qFq {b:Bool} {ks ks':List Int} {x y:Addr} {Q:Bool->Shared->Prop} (hx:TK prog w s.heap ks x) (hy:TK prog w s.heap ks' y) (h:Q (lxb ks ks') s):wpAny (model prog w) A (keyLt' (tuples' b) (.ref x) (.ref y)) Q E s:=by
 obtain ⟨ox,xs,n,h1,_,h3,h4⟩:=hx
 obtain ⟨oy,ys,m,g1,_,g3,g4⟩:=hy
 exact kat_lt h1 h3 g1 g3 (qGR h4 0 g4 (by simp) h)
inductive TsV (prog:Program) (w:World) (h:Heap):List Value->List (List Int)->Prop
 |nil:TsV prog w h [] []
 |cons {ks:List Int} {b:Addr} {vs:List Value} {kss:List (List Int)}:TK prog w h ks b->ks≠[]->TsV prog w h vs kss->TsV prog w h (.ref b::vs) (ks::kss)
theorem TsV.len {h:Heap} {vs:List Value} {kss:List (List Int)} (e:TsV prog w h vs kss):vs.length=kss.length:=by
 induction e with
 |nil=>rfl
 |cons _ _ _ ih=>rw [AT,AT,ih]
theorem TsV.keep {h h':Heap} {vs:List Value} {kss:List (List Int)} (e:TsV prog w h vs kss) (k:∀ b o,(∃ ks,TK prog w h ks b)->h.get? b=some o->h'.get? b=some o):TsV prog w h' vs kss:=by
 induction e with
 |nil=>exact .nil
 |cons a ne _ ih=>exact .cons (a.keep fun o=>k _ o ⟨_,a⟩) ne ih
theorem TsV.get {h:Heap} {vs:List Value} {kss:List (List Int)} (e:TsV prog w h vs kss):∀ {i:Nat},i < vs.length -> ∃ b,vs.getD i Value.none = .ref b∧TK prog w h (kss.getD i []) b:=by
 induction e with
 |nil=>intro i hi;exact absurd hi (BG _)
 | @cons ks b vs kss a _ _ ih =>
  intro i hi
  cases i with
  |zero=>exact ⟨b,rfl,a⟩
  |succ i=>simpa using ih (i:=i) (by simpa using hi)
theorem TsV.kat {h:Heap} {vs:List Value} {kss:List (List Int)} (e:TsV prog w h vs kss):∃ fs:List Value,KatTups h vs fs∧fs.length=vs.length ∧ ∀ v∈fs,∃ n t,v=Value.int n t:=by
 induction e with
 |nil=>exact ⟨[],KatTups.nil,rfl,fun v hv=>(Al hv).elim⟩
 | @cons ks b vs kss a ne _ ih =>
  obtain ⟨fs,h1,h2,h3⟩:=ih
  obtain ⟨o,its,n,g1,g2,g3,g4⟩:=a
  have hv:=zR g4
  cases hq:its.toList with
  |nil =>
   rw [hq] at g4
   cases g4
   exact absurd rfl ne
  |cons f r =>
   have hf:its[0]? = some f:=by rw [← Aw,hq];rfl
   refine ⟨f::fs,KatTups.cons g1 g2 g3 hf h1,by rw [AT,AT,h2],fun v hv' => ?_⟩
   rcases AL.mp hv' with q |q
   ·rw [q];exact hv f (by rw [hq];exact AE)
   ·exact h3 v q
theorem qEC {vs:List Value} {kss:List (List Int)} {Q:SortKind->Shared->Prop} (e:TsV prog w s.heap vs kss) (h2:2≤vs.length) (h:Q (tuples' true) s):wpAny (model prog w) A (keyKind' vs.toArray) Q E s:=by
 obtain ⟨fs,h1,h3,h4⟩:=e.kat
 refine kat_kind (T := .type "int") h1 (by omega) (fun v hv => ?_) (by decide) ?_
 ·obtain ⟨n,t,rfl⟩:=h4 v hv
  exact .now
 ·rw [show (Value.type "int" != Value.type "tuple")=true by decide];exact h
def srt (kss:List (List Int)):List (List Int):=kss.mergeSort fun a b => !lxb b a
theorem srt_perm (kss:List (List Int)):(srt kss).Perm kss:=List.mergeSort_perm _ _
theorem ZQ (kss:List (List Int)):(srt kss).Pairwise fun a b=>lxb b a=false:=by
 have:=List.pairwise_mergeSort (le:=fun a b:List Int => !lxb b a) (fun a b c h1 h2=>by
  simp only [Bool.not_eq_eq_eq_not,Bool.not_true] at h1 h2 ⊢
  exact CQ (O:=lxO) h1 h2) (fun a b=>by
  cases h:lxb b a with
  |false=>simp
  |true =>
   have:lxb a b=false:=CL (O:=lxO) (a:=b) (b:=a) h
   simp [this]) kss
 exact this.imp fun h=>by simpa using h
theorem qAg:∀ {l m:List (List Int)},l.Pairwise (fun a b=>lxb b a=false)->m.Pairwise (fun a b=>lxb b a=false)->l.Perm m->l=m
 |[],m,_,_,p=>(List.Perm.eq_nil p.symm).symm
 |x::l,[],_,_,p=>by have:=p.length_eq;simp at this
 |x::l,y::m,hl,hm,p=>by
  have hx:x∈y::m:=p.mem_iff.mp AE
  have hy:y∈x::l:=p.mem_iff.mpr AE
  have e:x=y:=by
   have h1:lxb y x=false:=by
    rcases AL.mp hy with q |q
    ·rw [q];exact Z4 _
    ·exact (Bb.mp hl).1 y q
   have h2:lxb x y=false:=by
    rcases AL.mp hx with q |q
    ·rw [q];exact Z4 _
    ·exact (Bb.mp hm).1 x q
   exact yC _ _ h2 h1
  subst e
  rw [qAg (Bb.mp hl).2 (Bb.mp hm).2 (List.Perm.cons_inv p)]
theorem qFy {h:Heap} {vs:List Value} {kss:List (List Int)} (e:TsV prog w h vs kss) {p:Array Nat} (B:PB vs.length p) (S:Srt (O:=lxO) (fun i=>kss.getD i []) p vs.length):p.toList.map (fun i=>kss.getD i [])=srt kss:=by
 have hsz:=B.size
 refine qAg ?_ (ZQ kss) ?_
 ·rw [BN,List.pairwise_iff_getElem]
  intro i j hi hj hij
  have:=S i j (by omega) (by rw [AR] at hj;omega)
  unfold kq at this
  rw [AN,AN,AQ (by simpa using hi),AQ (by simpa using hj)] at this
  exact this
 ·refine ((Array.perm_iff_toList_perm.mp B.perm).map _).trans (.trans ?_ (srt_perm kss).symm)
  have:(List.range vs.length).map (fun i=>kss.getD i [])=kss:=by
   rw [e.len]
   refine List.ext_getElem (by simp) fun i h1 h2 => ?_
   simp [AJ,AI h2]
  show ((List.range vs.length).map fun i=>kss.getD i []).Perm kss
  rw [this]
end
end ET
end
section
namespace ET
open PySem PySem.Spec PyProof.Rows L2
open EX
structure SetW (w:World) (h:Heap) (a:Addr) (es:Array (Int×Value)) (ep:Nat) (t:SetTable):Prop where
 ex:∃ o,h.get? a=some o∧o.ExactSet∧o.data=Data.set es ep t
 T:TbT w t es
 n:es.size≤300
def ItW (w:World) (h:Heap) (it a:Addr) (es:Array (Int×Value)) (ep:Nat) (t:SetTable) (i:Nat):Prop := ∃ (o:Obj) (slot:Nat),h.get? it=some o∧o.cls = .type "set_iterator" ∧ o.data = .fields #[.int slot 0,.int i 0,.ref a,.int es.size 0,.int ep 0]∧(byT w=false->SetTable.below t.place slot=i)
section
variable {prog:Program} {w:World} {A:Around} {E:Value->Shared->Prop} {s:Shared} {a it:Addr} {es:Array (Int×Value)} {ep i:Nat} {t:SetTable}
theorem SetW.fits (L:SetW w s.heap a es ep t):t.fits es.size=true:=jV L.T.g
theorem SetW.typeIs (L:SetW w s.heap a es ep t):s.TypeIs (.ref a) "set" := let ⟨o,h,c,_⟩:=L.ex;⟨o,h,c.1⟩
theorem ItW.typeIs (I:ItW w s.heap it a es ep t i):s.TypeIs (.ref it) "set_iterator" := let ⟨o,_,h,c,_⟩:=I;⟨o,h,c⟩
theorem qBu {Q:Value->Shared->Prop} (L:SetW w s.heap a es ep t)
  (hQ:Q (.ref s.heap.objs.size) { s with heap:=s.heap.push { cls := .type "set_iterator",data := .fields #[.int 0 0,.int 0 0,.ref a,.int es.size 0,.int ep 0] } }):wpAny (model prog w) A (pyIter (.ref a)) Q E s:=by
 obtain ⟨o,ho,hx,hd⟩:=L.ex
 refine wpAny_pyIter_slot L.typeIs F.slot_set_iter (BW F.slot_set_iter L.typeIs jE ?_ (F.args_set_iter_1 _))
 unfold Builtin.«frozenset.__iter__» Builtin.Frozenset.slot0 Builtin.Frozenset.sizeOf setEntries
 refine AA (AZ (a:=a) rfl ?_)
 refine AA (AA (AA (At ho hd L.fits (AD (AD ?_)))))
 unfold setDrawn setsByText
 refine AA (AA (At ho hd L.fits ?_))
 dsimp only
 refine AA (AA (B6 (AD (AD ?_))))
 rw [AH (by
  rw [Ay]
  intro q
  have q2:(!t.plain&&decide (es.size > 1))=true:=q.2
  rw [L.T.pl] at q2
  cases q2)]
 refine AA (AD ?_)
 unfold setEpoch newFields
 refine AA (AA (At ho hd L.fits (AD ?_)))
 exact AA (CI (AD ⟨_,rfl,"set_iterator",_,⟨_,AW _ rfl,rfl⟩,slot_setit.lookup,by simpa [rawInt] using hQ⟩))
theorem Y0 {R:Option (Value×Nat)->Shared->Prop} {slot:Nat} (L:SetW w s.heap a es ep t) (hb:byT w=false->SetTable.below t.place slot=i)
  (h1:∀ e nx,(Q8 w a ep es)[i]? = some e->(byT w=false->SetTable.below t.place nx=i + 1)->R (some (e.2,nx)) s) (h2:(Q8 w a ep es)[i]? = none->R none s):wpAny (model prog w) A (setNext a ((slot:Int)).toNat ((i:Int)).toNat ((ep:Int)).toNat) R E s:=by
 obtain ⟨o,ho,hxs,hd⟩:=L.ex
 have hf:=L.fits
 unfold setNext
 refine AA (At ho hd hf ?_)
 unfold setsByText
 dsimp only
 refine AA (AA (B6 (AD ?_)))
 rw [A5,A5,A5]
 by_cases hby:byT w=true
 ·rw [AG (by exact hby),AH (by simp)]
  unfold setWalk setsByText
  refine AA (AA (At ho hd hf ?_))
  dsimp only
  refine AA (AA (B6 (AD ?_)))
  rw [AG (by exact hby)]
  refine AA (B6 (AD (AD ?_)))
  have eo:Q8 w a ep es=pickOrder (w.params.setOrder a ep) es:=by unfold Q8;rw [AG hby]
  rw [eo] at h1 h2
  show R (((pickOrder (w.params.setOrder a ep) es)[i]?).map fun e=>(e.2,slot)) s
  cases hx:(pickOrder (w.params.setOrder a ep) es)[i]? with
  |none=>exact h2 hx
  |some e=>exact h1 e slot hx fun q=>by rw [q] at hby;cases hby
 ·have hby':byT w=false:=by cases h:byT w with |true=>exact absurd h hby |false=>rfl
  rw [AH (by exact hby),AH (by
   intro q
   have q2:(!t.plain&&decide (es.size > 1))=true:=q
   rw [L.T.pl] at q2
   cases q2)]
  have eo:Q8 w a ep es=es:=by unfold Q8;rw [AH hby]
  rw [eo] at h1 h2
  have hled:t.led=true:=by rw [L.T.led,hby'];rfl
  refine AA (AZ (a:=()) ?_ (AD ?_))
  ·show (if (!t.led && !es.isEmpty)=true then unsupported "set:maker-not-led" else pure ())=pure ()
   rw [hled]
   rfl
  ·rw [hb hby']
   have hps:t.place.size=es.size:=L.T.g.sz
   cases hx:es[i]? with
   |none=>exact h2 hx
   |some e =>
    have hi:i < es.size:=(BV.mp hx).1
    have hp:t.place[i]? = some (t.place.getD i 0):=by
     rw [AN,AQ (by omega)];rfl
    rw [hp]
    exact h1 e _ hx fun _=>qAP L.T.g.ris (by omega)
theorem qB8 {Q:Option Value->Shared->Prop} (L:SetW w s.heap a es ep t) (I:ItW w s.heap it a es ep t i) {e:Int×Value} (hx:(Q8 w a ep es)[i]? = some e)
  (hQ:∀ h',ItW w h' it a es ep t (i + 1)->Heap.SameBut it s.heap h'->Q (some e.2) { s with heap:=h' }):wpAny (model prog w) A (pyNext (.ref it)) Q E s:=by
 obtain ⟨o,ho,hxs,hd⟩:=L.ex
 obtain ⟨oi,slot,hoi,hci,hdi,hb⟩:=id I
 unfold pyNext
 refine AA (CA (Bk (name:=Str.ofString "__next__") I.typeIs slot_setit (BW slot_setit I.typeIs ZK ?_ (yS _))))
 unfold Builtin.«set_iterator.__next__»
 refine AA (AZ (a:=(.ref it,[])) rfl ?_)
 dsimp only
 refine AA (wpAny_fieldsOf hoi hdi ?_)
 dsimp only
 unfold setEntries
 refine AA (AA (At ho hd L.fits (AD ?_)))
 rw [AH (by simp)]
 refine AA (Y0 L hb (fun e' nx he hn => ?_) fun he => ?_)
 ·rw [hx] at he;cases he
  dsimp only
  refine AA (BZ hoi hdi (by simp) ?_)
  have ho1:=Av (Obj.mapFields fun x=>x.setIfInBounds 0 (rawInt (nx:Int))) hoi (Bs (BA hdi _))
  refine AA (BZ ho1 (BA hdi _) (by simp) ?_)
  have ho2:=Av (Obj.mapFields fun x=>x.setIfInBounds 1 (rawInt ((i:Int) + 1))) ho1 (Bs (BA (BA hdi _) _))
  refine AD ⟨_,rfl,AD (hQ _ ⟨_,nx,ho2,?_,?_,hn⟩ ⟨?_,fun b hb' => ?_⟩)⟩
  ·rw [Obj.cls_mapFields,Obj.cls_mapFields];exact hci
  ·rw [BA (BA hdi _)];simp [rawInt]
  ·rw [BY,BY]
  ·exact (Ah _ _ (Ne.symm hb')).trans (Ah _ _ (Ne.symm hb'))
 ·rw [hx] at he;cases he
theorem qDy {Q:Option Value->Shared->Prop} (hh:A.handled=none) (L:SetW w s.heap a es ep t) (I:ItW w s.heap it a es ep t i) (hx:(Q8 w a ep es)[i]? = none)
  (hQ:∀ h',(∀ b o,b≠it->s.heap.get? b=some o->h'.get? b=some o)->Q none { s with heap:=h' }):wpAny (model prog w) A (pyNext (.ref it)) Q E s:=by
 obtain ⟨o,ho,hxs,hd⟩:=L.ex
 obtain ⟨oi,slot,hoi,hci,hdi,hb⟩:=id I
 unfold pyNext
 refine AA (CA (Bk (name:=Str.ofString "__next__") I.typeIs slot_setit (BW slot_setit I.typeIs ZK ?_ (yS _))))
 unfold Builtin.«set_iterator.__next__»
 refine AA (AZ (a:=(.ref it,[])) rfl ?_)
 dsimp only
 refine AA (wpAny_fieldsOf hoi hdi ?_)
 dsimp only
 unfold setEntries
 refine AA (AA (At ho hd L.fits (AD ?_)))
 rw [AH (by simp)]
 refine AA (Y0 L hb (fun e' nx he hn=>by rw [hx] at he;cases he) fun he => ?_)
 dsimp only
 refine AA (BZ hoi hdi (by simp) ?_)
 refine Wx (A:=A.in1) (fun v hv=>by rw [show A.in1.handled=A.handled from rfl,hh] at hv;cases hv) fun h' e k ht => ?_
 refine AA (A1 (T := "StopIteration") (b:=true) ht isSubtype_stop ?_)
 exact AD (hQ _ fun b o' hb' q=>k b o' ((Ah _ _ (Ne.symm hb')).trans q))
end
section
variable {prog:Program} {w:World} {A:Around} {E:Value->Shared->Prop} {R:Result->Shared->Prop} {a it:Addr} {es:Array (Int×Value)} {ep:Nat} {t:SetTable}
theorem SetW.same {h h':Heap} (L:SetW w h a es ep t) (e:∀ o,h.get? a=some o->h'.get? a=some o):SetW w h' a es ep t:=by
 obtain ⟨⟨o,h1,h2⟩,T,n⟩:=L
 exact ⟨⟨o,e o h1,h2⟩,T,n⟩
theorem ItW.same {h h':Heap} {i:Nat} (L:ItW w h it a es ep t i) (e:∀ o,h.get? it=some o->h'.get? it=some o):ItW w h' it a es ep t i:=by
 obtain ⟨o,sl,h1,h2⟩:=L
 exact ⟨o,sl,e o h1,h2⟩
theorem qE3 {D:Addr} (hh:A.handled=none) (hDa:a≠D) (hDi:it≠D) (hai:a≠it):∀ (k i:Nat) (s:Shared) (n:Nat),es.size - i=k->i≤es.size->SetW w s.heap a es ep t->ItW w s.heap it a es ep t i->s.heap.get? D=some (seqObj "list" (((Q8 w a ep es).toList.take i).map (·.2)).toArray n) ->
  (∀ (h':Heap) (n':Nat),(∀ b o,b≠D->b≠it->s.heap.get? b=some o->h'.get? b=some o)->h'.get? D=some (seqObj "list" ((Q8 w a ep es).toList.map (·.2)).toArray n')->R (.ok (.ret (.ref D))) { s with heap:=h' }) ->
  codeAny (model prog w) A (.builtin "list.extend.loop" ⟨[.ref D,.ref it,.ref D],[]⟩) R s:=by
 intro k
 induction k with
 |zero =>
  intro i s n hk hi L I hD h
  have hi':i=es.size:=by omega
  refine A9 YX ?_
  rw [BM WW]
  unfold Builtin.«list.extend.loop»
  refine AA (qDy hh L I (by rw [Array.getElem?_eq_none];rw [Wj];omega) fun h' hk' => ?_)
  dsimp only
  refine AD (h h' n (fun b o h1 h2=>hk' b o h2) ?_)
  rw [hk' D _ (Ne.symm hDi) hD,List.take_of_length_le (by rw [AR,Wj];omega)]
 |succ k ih =>
  intro i s n hk hi L I hD h
  have hi':i < (Q8 w a ep es).size:=by rw [Wj];omega
  refine A9 YX ?_
  rw [BM WW]
  unfold Builtin.«list.extend.loop»
  refine AA (qB8 L I (AQ hi') fun h' I' sb => ?_)
  dsimp only
  unfold Builtin.List.listUpdate
  dsimp only
  have hD':h'.get? D=some (seqObj "list" (((Q8 w a ep es).toList.take i).map (·.2)).toArray n):=(sb.2 D (Ne.symm hDi)).trans hD
  have hlen:(((Q8 w a ep es).toList.take i).map (·.2)).length≤300:=by
   rw [AC,B4,AR,Wj]
   have:=L.n
   omega
  have hsz:(((Q8 w a ep es).toList.take i).map (·.2)).toArray.size≤300:=by rw [AV];exact hlen
  refine AA (wpAny_updateSeq hD' rfl ?_ (Am hsz (by decide)) (by rw [Array.size_push];exact Am (BX hsz) (by decide)))
  have e1:((((Q8 w a ep es).toList.take i).map (·.2)).toArray.push (Q8 w a ep es)[i].2)=((((Q8 w a ep es).toList.take (i + 1)).map (·.2)).toArray):=by
   have hl:i < (Q8 w a ep es).toList.length:=by rw [AR];exact hi'
   rw [B5 hl,Bi,List.push_toArray]
   rfl
  have hu:∃ n2,(h'.update D (Obj.mapSeq fun x=>x.push (Q8 w a ep es)[i].2)).get? D=some (seqObj "list" (((Q8 w a ep es).toList.take (i + 1)).map (·.2)).toArray n2):=by
   rw [Av _ hD' rfl,← e1]
   exact ⟨_,rfl⟩
  obtain ⟨n2,hu⟩:=hu
  refine AD ⟨Ce WW _,?_⟩
  refine ih (i + 1) _ n2 (by omega) (by rw [Wj] at hi';omega) (L.same fun o ho => ?_) (I'.same fun o ho => ?_) hu fun h2 n3 hb2 hD2=>h h2 n3 (fun b o h3 h4 ho=>hb2 b o h3 h4 ?_) hD2
  ·exact (Ah _ _ (Ne.symm hDa)).trans ((sb.2 a hai).trans ho)
  ·exact (Ah _ _ (Ne.symm hDi)).trans ho
  ·exact (Ah _ _ (Ne.symm h3)).trans ((sb.2 b h4).trans ho)
theorem qD6 {s:Shared} {Q:List Value->Shared->Prop} (hh:A.handled=none) (L:SetW w s.heap a es ep t)
  (hQ:∀ h',(∀ b o,s.heap.get? b=some o->h'.get? b=some o)->s.heap.objs.size≤h'.objs.size->Q ((Q8 w a ep es).toList.map (·.2)) { s with heap:=h' }):wpAny (model prog w) A (collect (.ref a)) Q E s:=by
 have hlt:a < s.heap.objs.size:=by obtain ⟨o,ho,_⟩:=L.ex;exact AK ho
 unfold collect
 refine AA (Cb (A9 F.entry_proto_collect ?_))
 rw [BM F.plain_proto_collect]
 unfold Builtin.«proto.collect»
 dsimp only
 refine AA (CT ?_)
 refine AD ⟨Ce F.plain_list_iadd _,A9 F.entry_list_iadd ?_⟩
 rw [BM F.plain_list_iadd]
 unfold Builtin.«list.__iadd__»
 refine AA (AZ (a:=(.ref s.heap.objs.size,[.ref a])) rfl ?_)
 dsimp only
 unfold Builtin.List.listExtendWith
 have L1:SetW w (s.heap.push { cls := .type "list",data := .seq ([]:List Value).toArray }) a es ep t:=L.same fun o ho=>AF _ ho
 refine AA (Bq (T := "set") L1.typeIs ?_)
 have hne:(s.heap.objs.size==a)=false:=BB.mpr (Nat.ne_of_gt hlt)
 rw [AH (by
  show ¬ ((s.heap.objs.size==a || _ || _)=true)
  rw [hne]
  decide)]
 refine AA (qBu L1 ?_)
 have L2:SetW w ((s.heap.push { cls := .type "list",data := .seq ([]:List Value).toArray }).push { cls := .type "set_iterator",data := .fields #[.int 0 0,.int 0 0,.ref a,.int es.size 0,.int ep 0] }) a es ep t:=L1.same fun o ho=>AF _ ho
 refine AA (Ao (EX.hint_set L2.typeIs ?_))
 dsimp only
 rw [AG (by decide +kernel)]
 have hz:(s.heap.push { cls := .type "list",data := .seq ([]:List Value).toArray }).objs.size=s.heap.objs.size + 1:=BO ..
 have hD0:((s.heap.push { cls := .type "list",data := .seq ([]:List Value).toArray }).push { cls := .type "set_iterator",data := .fields #[.int 0 0,.int 0 0,.ref a,.int es.size 0,.int ep 0] }).get? s.heap.objs.size=some (seqObj "list" #[] 0):=AF _ (AW _ rfl)
 refine AA (Cc (AA ?_))
 unfold Builtin.List.listTouch Builtin.List.listUpdate
 dsimp only
 refine AA (wpAny_updateSeq hD0 rfl ?_ (by decide) (by decide))
 have hD1:=Av (Obj.mapSeq fun x=>x.push Value.none) hD0 rfl
 refine wpAny_updateSeq hD1 rfl ?_ (by decide) (by decide)
 have hD2:∃ n,((((s.heap.push { cls := .type "list",data := .seq ([]:List Value).toArray }).push { cls := .type "set_iterator",data := .fields #[.int 0 0,.int 0 0,.ref a,.int es.size 0,.int ep 0] }).update s.heap.objs.size (Obj.mapSeq fun x=>x.push Value.none)).update s.heap.objs.size (Obj.mapSeq fun x=>x.pop)).get? s.heap.objs.size=some (seqObj "list" #[] n):=by
  rw [Av _ hD1 rfl];exact ⟨_,rfl⟩
 obtain ⟨n2,hD2⟩:=hD2
 have hkeep:∀ b o,b≠s.heap.objs.size->((s.heap.push { cls := .type "list",data := .seq ([]:List Value).toArray }).push { cls := .type "set_iterator",data := .fields #[.int 0 0,.int 0 0,.ref a,.int es.size 0,.int ep 0] }).get? b=some o->((((s.heap.push { cls := .type "list",data := .seq ([]:List Value).toArray }).push { cls := .type "set_iterator",data := .fields #[.int 0 0,.int 0 0,.ref a,.int es.size 0,.int ep 0] }).update s.heap.objs.size (Obj.mapSeq fun x=>x.push Value.none)).update s.heap.objs.size (Obj.mapSeq fun x=>x.pop)).get? b=some o:=fun b o hb ho=>(Ah _ _ (Ne.symm hb)).trans ((Ah _ _ (Ne.symm hb)).trans ho)
 have hi1:(s.heap.push { cls := .type "list",data := .seq ([]:List Value).toArray }).objs.size≠s.heap.objs.size:=by rw [hz];exact Nat.ne_of_gt (Nat.lt_succ_self _)
 refine AD ⟨Ce WW _,?_⟩
 refine qE3 (w:=w) (t:=t) (ep:=ep) (es:=es) (a:=a) hh (AX hlt) hi1 (by rw [hz];exact AX (A2 hlt)) _ 0 _ n2 rfl (A6 _) (L2.same fun o ho=>hkeep a o (AX hlt) ho) ⟨_,0,hkeep _ _ hi1 (AW _ rfl),rfl,rfl,fun _=>qAJ L.T.g.ris⟩ hD2 fun h' n' hk hD => ?_
 dsimp only
 refine AA (wpAny_load' hD ?_)
 refine AD ?_
 have:=hQ h' (fun b o ho=>hk b o (AX (AK ho)) (by rw [hz];exact AX (A2 (AK ho))) (hkeep b o (AX (AK ho)) (AF _ (AF _ ho)))) (CZ (AK hD))
 simpa using this
end
open EX
def ddTS (acc:List (List Int)) (k:List Int):List (List Int):=if k∈acc then acc else acc++[k]
def ddT (kss:List (List Int)):List (List Int):=kss.foldl ddTS []
theorem qDb {kss:List (List Int)} {i:Nat} (h:i < kss.length):ddT (kss.take (i + 1))=ddTS (ddT (kss.take i)) (kss.getD i []):=by
 unfold ddT
 rw [B5 h,List.foldl_append,AJ,AI h]
 rfl
theorem qBt {a b:List (List Int)} {k:List Int} (h:a.Perm b):(if k∈a then a else a++[k]).Perm (ddTS b k):=by
 unfold ddTS
 by_cases q:k∈a
 ·rw [AG q,AG (h.mem_iff.mp q)];exact h
 ·rw [AH q,AH (fun z=>q (h.mem_iff.mpr z))];exact h.append_right _
theorem je:∀ (kss acc:List (List Int)),(kss.foldl ddTS acc).length≤acc.length + kss.length
 |[],acc=>AM _
 |k::vs,acc=>by
  rw [BF,AT]
  have h:=je vs (ddTS acc k)
  have:(ddTS acc k).length≤acc.length + 1:=by
   unfold ddTS
   split
   ·omega
   ·rw [AY];exact AM _
  omega
section
variable {prog:Program} {w:World} {A:Around} {E:Value->Shared->Prop} {R:Result->Shared->Prop}
theorem SetT.same {h h':Heap} {a:Addr} {es:Array (Int×Value)} {ep:Nat} {t:SetTable} {kss:List (List Int)} (S:SetT prog w h a es ep t kss) (e:∀ b o,(b=a ∨ ∃ ks,TK prog w h ks b)->h.get? b=some o->h'.get? b=some o):SetT prog w h' a es ep t kss:=by
 obtain ⟨⟨o,h1,h2⟩,el,nd,tb⟩:=S
 exact ⟨⟨o,e a o (.inl rfl) h1,h2⟩,el.keep fun b ks k=>k.keep fun o' ho'=>e b o' (.inr ⟨ks,k⟩) ho',nd,tb⟩
theorem Ze {h:Heap} {b:Addr} {o:Obj} (ho:h.get? b=some o) (hc:o.cls ≠ .type "tuple"):∀ ks,¬ TK prog w h ks b:=fun ks ⟨o',_,_,h1,h2,_⟩=>by
 rw [ho] at h1;cases h1;exact hc h2
theorem SetT.not {h:Heap} {a:Addr} {es:Array (Int×Value)} {ep:Nat} {t:SetTable} {kss:List (List Int)} (S:SetT prog w h a es ep t kss) (ks:List Int):¬ TK prog w h ks a:=by
 obtain ⟨o,ho,hx,_⟩:=S.ex
 exact Ze ho (by rw [hx.1];decide) ks
theorem Jr {I:Addr} {fp wr:List Addr} {n:Nat} {P:Nat->Value->Prop} {St:Nat->Heap->Prop} (W:Walks prog w A.in1 I fp wr n P St) (hwr:∀ i h,St i h -> ∀ b∈wr,∀ ks,¬ TK prog w h ks b) (hu:A.in1.units < cLine) {Sa:Addr} (hS:Sa ∉ fp) {its:List Value} {kss:List (List Int)} (hn:its.length=n) (h3:n≤299) (hv:∀ i v,P i v->its[i]? = some v) :
  ∀ (k i:Nat) (s:Shared) (es:Array (Int×Value)) (ep:Nat) (t:SetTable) (ks1:List (List Int)),n - i=k->i≤n->St i s.heap->TsV prog w s.heap its kss->SetT prog w s.heap Sa es ep t ks1->(∀ e∈es.toList,e.2∈its)->ks1.Perm (ddT (kss.take i)) ->
   (∀ (h':Heap) (tk:Nat) (es':Array (Int×Value)) (ep':Nat) (t':SetTable) (ks':List (List Int)),(∀ b o,b ∉ Sa::wr->s.heap.get? b=some o->h'.get? b=some o)->SetT prog w h' Sa es' ep' t' ks'->ks'.Perm (ddT kss)->(∀ e∈es'.toList,e.2∈its)->R (.ok (.ret .none)) { s with heap:=h',toks:=tk }) ->
   codeAny (model prog w) A (.builtin "set.update.loop" ⟨[.ref Sa,.ref I],[]⟩) R s:=by
 intro k
 induction k with
 |zero =>
  intro i s es ep t ks1 hk hi hSt V S hE hp h
  have:i=n:=by omega
  subst this
  refine A9 B9 ?_
  rw [BM BP]
  unfold Builtin.«set.update.loop»
  refine AA (W.done _ _ _ hSt fun h' tk hk' => ?_)
  dsimp only
  refine AD ?_
  refine h h' tk es ep t ks1 (fun b o hb'=>hk' b o fun q=>hb' (AB _ q)) (S.same fun b o hb=>hk' b o fun q=>hb.elim (fun z=>hS (W.sub _ (by rw [← z];exact q))) fun ⟨ks,z⟩=>hwr _ _ hSt b q ks z) ?_ ?_
  ·rw [← hn,V.len,List.take_length] at hp
   exact hp
  ·exact hE
 |succ k ih =>
  intro i s es ep t ks1 hk hi hSt V S hE hp h
  have hi':i < n:=by omega
  refine A9 B9 ?_
  rw [BM BP]
  unfold Builtin.«set.update.loop»
  refine AA (W.item i _ _ _ hi' hSt fun v h' tk hP hSt' hk' => ?_)
  obtain ⟨b,hb,kb⟩:=V.get (i:=i) (by omega)
  have hvi:=hv i v hP
  have evb:v = .ref b:=by rw [AJ,hvi] at hb;exact hb
  subst evb
  have low:∀ c o,(∃ ks,TK prog w s.heap ks c)->s.heap.get? c=some o->h'.get? c=some o:=fun c o ⟨ks,z⟩=>hk' c o fun q=>hwr _ _ hSt c q ks z
  have kb':TK prog w h' (kss.getD i []) b:=kb.keep fun o=>low b o ⟨_,kb⟩
  have S':SetT prog w h' Sa es ep t ks1:=S.same fun c o hc=>hc.elim (fun z=>hk' c o fun q=>hS (W.sub _ (by rw [← z];exact q))) fun z=>low c o z
  have V':TsV prog w h' its kss:=V.keep low
  dsimp only
  refine AA (Ao ?_)
  unfold setAdd
  refine Ao (AA (wpAny_pyHash_tuple (s:={ s with heap:=h',toks:=tk }) hu kb' ?_))
  have hl:ks1.length + 1≤300:=by
   have:=je (kss.take i) []
   have e:(ddT (kss.take i)).length≤i:=by
    have q:=List.length_take_le i kss
    unfold ddT
    have z:([]:List (List Int)).length=0:=rfl
    omega
   rw [hp.length_eq];omega
  refine qIJ (s:={ s with heap:=h',toks:=tk + ((kss.getD i []).length + 1) }) hu S' kb' hl fun h2 es2 ep2 t2 ks2 hs2 S2 hp2 he2 => ?_
  refine AD ⟨Ce BP _,?_⟩
  refine ih (i + 1) _ es2 ep2 t2 ks2 (by omega) (by omega) (W.frame _ _ _ hSt' fun b hbf o ho=>by
   rw [hs2.2 b (fun z=>hS (by rw [← z];exact hbf))];exact ho) ?_ S2 (fun e he=>(he2 e he).elim (hE e) fun z=>by rw [z];exact As hvi) ?_ fun h3 tk3 es3 ep3 t3 ks3 hh S3 hp3 hE3 => ?_
  ·exact V'.keep fun c o ⟨ks,z⟩ ho=>(hs2.2 c (fun e=>S'.not ks (by rw [← e];exact z))).trans ho
  ·rw [qDb (by rw [← V.len];omega)]
   exact hp2.trans (qBt hp)
  ·exact h h3 tk3 es3 ep3 t3 ks3 (fun b o hbn ho=>hh b o hbn (by
    have:b≠Sa:=fun z=>hbn (by rw [z];exact AE)
    rw [hs2.2 b this]
    exact hk' b o (fun q=>hbn (AB _ q)) ho)) S3 hp3 hE3
theorem qBI {h:Heap} {led:Bool} (hl:led = !byT w):SetT prog w (h.push { cls := .type "set",data := .set #[] 0 (SetTable.fresh 0 0 led) }) h.objs.size #[] 0 (SetTable.fresh 0 0 led) [] :=
 ⟨⟨_,AW _ rfl,⟨rfl,rfl,rfl⟩,rfl⟩,.nil,List.nodup_nil,⟨⟨rfl,rfl,fun i k _ hk=>absurd hk (BG _),fun j hj=>(Al hj).elim,A6 _⟩,fun q hq=>(Al hq).elim,.inl ⟨rfl,A6 _⟩,hl,rfl⟩⟩
theorem qAR {s:Shared} {l:Addr} {items:Array Value} {kss:List (List Int)} {Q:Value->Shared->Prop} (hh:A.handled=none) (hu:A.units + 8 < cLine) (hl:s.heap.IsList l items) (V:TsV prog w s.heap items.toList kss) (h3:kss.length≤299)
  (h:∀ (h':Heap) (tk:Nat) (es':Array (Int×Value)) (ep':Nat) (t':SetTable) (ks':List (List Int)),SetT prog w h' s.heap.objs.size es' ep' t' ks'->ks'.Perm (ddT kss)->(∀ e∈es'.toList,e.2∈items.toList)->(∀ b o,b < s.heap.objs.size->s.heap.get? b=some o->h'.get? b=some o)->Q (.ref s.heap.objs.size) { s with heap:=h',toks:=tk }) :
  wpAny (model prog w) A (call (.type "set") [.ref l]) Q E s:=by
 refine Bf (codeAny_of_tree (AZ (a:=Fin.again (.builtin "type.__call__" ⟨[.type "set",.ref l],[]⟩)) rfl ⟨Code.quiet_builtin _ (by decide +kernel),?_⟩))
 refine A9 F.entry_type_call ?_
 rw [Around.under_plain (weight_type_call_type _ _ _) rfl]
 unfold Builtin.«type.__call__»
 dsimp only
 rw [AH (by rw [F.called_set.notType];decide),AH (by rw [F.called_set.canCreate];decide)]
 refine AA (AZ (F.typeCall_set_1 _) ?_)
 obtain ⟨c,tl,hm⟩:=F.called_set.mro
 refine AA (AZ hm ?_)
 rw [AH (by simp)]
 refine AA (AZ F.called_set.made ?_)
 dsimp only
 refine AA (AD (AA (Ao (Bf (jW ?_)))))
 have hT:({ s with heap:=s.heap.push { cls := .type "set",data := .set #[] 0 (SetTable.fresh 0 0 (!byT w)) } }:Shared).TypeIs (.ref s.heap.objs.size) "set" := ⟨_,AW _ rfl,rfl⟩
 refine AA (A1 hT sub_set_self ?_)
 rw [AH (by decide)]
 refine AA (Ao ?_)
 unfold callSpecial?
 refine AA (CW hT F.called_set.init.lookup ?_)
 dsimp only
 refine Ao (AA (AZ (F.called_set.init.bind _) ?_))
 dsimp only
 refine AA (Bf (B0 F.called_set.init.plain F.entry_set_init (check_set_init_1 hT ?_)))
 unfold Builtin.«set.__init__»
 refine AA (AZ (a:=()) rfl ?_)
 show wpAny _ _ (do
  let n ← typeNameOfCut 200 (.ref s.heap.objs.size)
  checkCount n 0 1 1
  let a ← Builtin.Frozenset.addrOf (.ref s.heap.objs.size)
  let u ← setUsed a
  if u=true then do
   Builtin.Frozenset.clearAll a
   Builtin.Frozenset.updateFrom "set.__init__" a (.ref l)
   ret Value.none
  else do
   Builtin.Frozenset.updateFrom "set.__init__" a (.ref l)
   ret Value.none) _ _ _
 unfold typeNameOfCut shownTypeOf
 refine AA (AA (AA (Bq hT ?_)))
 rw [AH (by decide)]
 refine AD (AZ (a := "set") (by rfl) ?_)
 refine AA (AZ (a:=()) rfl ?_)
 refine AA (AZ (a:=s.heap.objs.size) rfl ?_)
 unfold setUsed
 have hg:(s.heap.push { cls := .type "set",data := .set #[] 0 (SetTable.fresh 0 0 (!byT w)) }).get? s.heap.objs.size=some { cls := .type "set",data := .set #[] 0 (SetTable.fresh 0 0 (!byT w)) }:=AW _ rfl
 refine AA (AA (At hg rfl rfl (AD ?_)))
 rw [AH (by intro q;exact Bool.noConfusion (show false=true from q))]
 refine AA ?_
 unfold Builtin.Frozenset.updateFrom Builtin.Frozenset.isAnySet
 have hl':(s.heap.push { cls := .type "set",data := .set #[] 0 (SetTable.fresh 0 0 (!byT w)) }).IsList l items:=hl.push _
 refine AA (AA (A1 (T := "list") hl'.typeIs F.sub_list_set ?_))
 show wpAny _ _ (isInstance (.ref l) (.type "frozenset")) _ _ _
 refine A1 (T := "list") hl'.typeIs F.sub_list_frozenset ?_
 rw [AH (by decide)]
 refine AA (Bq (T := "list") hl'.typeIs ?_)
 rw [AH (by decide)]
 refine AA (wpAny_pyIter_list hl' (AA (Cb ?_)))
 have hlt:l < s.heap.objs.size:=by obtain ⟨o,ho,_⟩:=hl;exact AK ho
 have hS:=qBI (prog:=prog) (w:=w) (h:=s.heap) (led := !byT w) rfl
 have hsz:(s.heap.push { cls := .type "set",data := .set #[] 0 (SetTable.fresh 0 0 (!byT w)) }).objs.size=s.heap.objs.size + 1:=BO ..
 have hlen:items.size=kss.length:=by rw [← V.len,AR]
 refine Jr (A:=A.in1.in1) (Walks.list (A:=A.in1.in1.in1) hh (s.heap.push { cls := .type "set",data := .set #[] 0 (SetTable.fresh 0 0 (!byT w)) }).objs.size l (by rw [hsz];exact AX (A2 hlt)) items) (fun i h' hst b hb ks=>by
  rw [Ai.mp hb]
  obtain ⟨o,ho,hc,_⟩:=hst.1
  exact Ze ho (by rw [hc];decide) ks) (by show A.units + 3 < cLine;omega) (Sa:=s.heap.objs.size) (by
  rw [hsz];intro q
  rcases AL.mp q with q |q
  ·exact absurd q (by show ¬ s.heap.objs.size=s.heap.objs.size + 1;omega)
  ·have:=Ai.mp q;exact absurd hlt (by rw [← this];exact BD _)) (its:=items.toList) (kss:=kss) (by rw [AR]) (by omega) (fun i v hi=>by rw [Aw];exact hi) _ 0 _ #[] 0 _ [] rfl (A6 _) ⟨⟨_,AW _ rfl,rfl,rfl⟩,hl'.push _⟩ (V.keep fun b o _ ho=>AF _ (AF _ ho)) (hS.same fun b o _ ho=>AF _ ho) (fun e he=>(Al he).elim) (by rw [List.take_zero];exact .refl _) fun h' tk es' ep' t' ks' hk S' hp hE' => ?_
 refine AD (AD ?_)
 refine AD ?_
 dsimp only
 rw [AH (by decide)]
 refine AD ?_
 refine h h' tk es' ep' t' ks' S' hp hE' fun b o hb' ho=>hk b o (fun q => ?_) (AF _ (AF _ ho))
 rw [hsz] at q
 rcases AL.mp q with q |q
 ·exact absurd hb' (by rw [q];exact BD _)
 ·have:=Ai.mp q;exact absurd hb' (by rw [this];exact Nat.not_lt_of_le (Cd _))
theorem qAG {s:Shared} {l:Addr} {items:Array Value} {kss:List (List Int)} {Q:Value->Shared->Prop} (hh:A.handled=none) (hu:A.units + 8 < cLine) (hl:s.heap.IsTuple l items) (V:TsV prog w s.heap items.toList kss) (h3:kss.length≤299)
  (h:∀ (h':Heap) (tk:Nat) (es':Array (Int×Value)) (ep':Nat) (t':SetTable) (ks':List (List Int)),SetT prog w h' s.heap.objs.size es' ep' t' ks'->ks'.Perm (ddT kss)->(∀ e∈es'.toList,e.2∈items.toList)->(∀ b o,b < s.heap.objs.size->s.heap.get? b=some o->h'.get? b=some o)->Q (.ref s.heap.objs.size) { s with heap:=h',toks:=tk }) :
  wpAny (model prog w) A (call (.type "set") [.ref l]) Q E s:=by
 refine Bf (codeAny_of_tree (AZ (a:=Fin.again (.builtin "type.__call__" ⟨[.type "set",.ref l],[]⟩)) rfl ⟨Code.quiet_builtin _ (by decide +kernel),?_⟩))
 refine A9 F.entry_type_call ?_
 rw [Around.under_plain (weight_type_call_type _ _ _) rfl]
 unfold Builtin.«type.__call__»
 dsimp only
 rw [AH (by rw [F.called_set.notType];decide),AH (by rw [F.called_set.canCreate];decide)]
 refine AA (AZ (F.typeCall_set_1 _) ?_)
 obtain ⟨c,tl,hm⟩:=F.called_set.mro
 refine AA (AZ hm ?_)
 rw [AH (by simp)]
 refine AA (AZ F.called_set.made ?_)
 dsimp only
 refine AA (AD (AA (Ao (Bf (jW ?_)))))
 have hT:({ s with heap:=s.heap.push { cls := .type "set",data := .set #[] 0 (SetTable.fresh 0 0 (!byT w)) } }:Shared).TypeIs (.ref s.heap.objs.size) "set" := ⟨_,AW _ rfl,rfl⟩
 refine AA (A1 hT sub_set_self ?_)
 rw [AH (by decide)]
 refine AA (Ao ?_)
 unfold callSpecial?
 refine AA (CW hT F.called_set.init.lookup ?_)
 dsimp only
 refine Ao (AA (AZ (F.called_set.init.bind _) ?_))
 dsimp only
 refine AA (Bf (B0 F.called_set.init.plain F.entry_set_init (check_set_init_1 hT ?_)))
 unfold Builtin.«set.__init__»
 refine AA (AZ (a:=()) rfl ?_)
 show wpAny _ _ (do
  let n ← typeNameOfCut 200 (.ref s.heap.objs.size)
  checkCount n 0 1 1
  let a ← Builtin.Frozenset.addrOf (.ref s.heap.objs.size)
  let u ← setUsed a
  if u=true then do
   Builtin.Frozenset.clearAll a
   Builtin.Frozenset.updateFrom "set.__init__" a (.ref l)
   ret Value.none
  else do
   Builtin.Frozenset.updateFrom "set.__init__" a (.ref l)
   ret Value.none) _ _ _
 unfold typeNameOfCut shownTypeOf
 refine AA (AA (AA (Bq hT ?_)))
 rw [AH (by decide)]
 refine AD (AZ (a := "set") (by rfl) ?_)
 refine AA (AZ (a:=()) rfl ?_)
 refine AA (AZ (a:=s.heap.objs.size) rfl ?_)
 unfold setUsed
 have hg:(s.heap.push { cls := .type "set",data := .set #[] 0 (SetTable.fresh 0 0 (!byT w)) }).get? s.heap.objs.size=some { cls := .type "set",data := .set #[] 0 (SetTable.fresh 0 0 (!byT w)) }:=AW _ rfl
 refine AA (AA (At hg rfl rfl (AD ?_)))
 rw [AH (by intro q;exact Bool.noConfusion (show false=true from q))]
 refine AA ?_
 unfold Builtin.Frozenset.updateFrom Builtin.Frozenset.isAnySet
 have hl':(s.heap.push { cls := .type "set",data := .set #[] 0 (SetTable.fresh 0 0 (!byT w)) }).IsTuple l items:=hl.push _
 refine AA (AA (A1 (T := "tuple") hl'.typeIs F.sub_tuple_set ?_))
 show wpAny _ _ (isInstance (.ref l) (.type "frozenset")) _ _ _
 refine A1 (T := "tuple") hl'.typeIs F.sub_tuple_frozenset ?_
 rw [AH (by decide)]
 refine AA (Bq (T := "tuple") hl'.typeIs ?_)
 rw [AH (by decide)]
 refine AA (wpAny_pyIter_tuple hl' (AA (Cb ?_)))
 have hlt:l < s.heap.objs.size:=by obtain ⟨o,ho,_⟩:=hl;exact AK ho
 have hS:=qBI (prog:=prog) (w:=w) (h:=s.heap) (led := !byT w) rfl
 have hsz:(s.heap.push { cls := .type "set",data := .set #[] 0 (SetTable.fresh 0 0 (!byT w)) }).objs.size=s.heap.objs.size + 1:=BO ..
 have hlen:items.size=kss.length:=by rw [← V.len,AR]
 refine Jr (A:=A.in1.in1) (Walks.tuple (A:=A.in1.in1.in1) hh (s.heap.push { cls := .type "set",data := .set #[] 0 (SetTable.fresh 0 0 (!byT w)) }).objs.size l (by rw [hsz];exact AX (A2 hlt)) items) (fun i h' hst b hb ks=>by
  rw [Ai.mp hb]
  obtain ⟨o,ho,hc,_⟩:=hst.1
  exact Ze ho (by rw [hc];decide) ks) (by show A.units + 3 < cLine;omega) (Sa:=s.heap.objs.size) (by
  rw [hsz];intro q
  rcases AL.mp q with q |q
  ·exact absurd q (by show ¬ s.heap.objs.size=s.heap.objs.size + 1;omega)
  ·have:=Ai.mp q;exact absurd hlt (by rw [← this];exact BD _)) (its:=items.toList) (kss:=kss) (by rw [AR]) (by omega) (fun i v hi=>by rw [Aw];exact hi) _ 0 _ #[] 0 _ [] rfl (A6 _) ⟨⟨_,AW _ rfl,rfl,rfl⟩,hl'.push _⟩ (V.keep fun b o _ ho=>AF _ (AF _ ho)) (hS.same fun b o _ ho=>AF _ ho) (fun e he=>(Al he).elim) (by rw [List.take_zero];exact .refl _) fun h' tk es' ep' t' ks' hk S' hp hE' => ?_
 refine AD (AD ?_)
 refine AD ?_
 dsimp only
 rw [AH (by decide)]
 refine AD ?_
 refine h h' tk es' ep' t' ks' S' hp hE' fun b o hb' ho=>hk b o (fun q => ?_) (AF _ (AF _ ho))
 rw [hsz] at q
 rcases AL.mp q with q |q
 ·exact absurd hb' (by rw [q];exact BD _)
 ·have:=Ai.mp q;exact absurd hb' (by rw [this];exact Nat.not_lt_of_le (Cd _))
end
end ET
end
section
namespace ET
open PySem PySem.Spec PyProof.Rows L2 PySem.W
open EX
section
variable {prog:Program} {w:World} {A:Around} {E:Value->Shared->Prop} {s:Shared}
theorem TsV.pick {h:Heap} {vs:List Value} {kss:List (List Int)} (e:TsV prog w h vs kss) (hne:∀ ks∈kss,ks≠[]):∀ (l:List Nat),(∀ i∈l,i < vs.length)->TsV prog w h (l.map fun i=>vs.getD i Value.none) (l.map fun i=>kss.getD i [])
 |[],_ => .nil
 |i::l,hl=>by
  have hi:=hl i AE
  obtain ⟨b,h1,h2⟩:=e.get hi
  rw [AU,AU,h1]
  refine .cons h2 ?_ (e.pick hne l fun j hj=>hl j (AB _ hj))
  have hk:i < kss.length:=by rw [← e.len];exact hi
  refine hne _ ?_
  rw [AJ,AI hk]
  exact B7 hk
theorem TsV.ne {h:Heap} {vs:List Value} {kss:List (List Int)} (e:TsV prog w h vs kss):∀ ks∈kss,ks≠[]:=by
 induction e with
 |nil=>intro ks hk;cases hk
 |cons _ ne _ ih =>
  intro ks hk
  rcases AL.mp hk with q |q
  ·rw [q];exact ne
  ·exact ih ks q
theorem PB.mem {n:Nat} {p:Array Nat} (B:PB n p):∀ i∈p.toList,i < n:=fun i hi=>by
 have:=(Array.perm_iff_toList_perm.mp B.perm).mem_iff.mp hi
 simpa using this
theorem qG7 {a:Addr} {vs:List Value} {kss:List (List Int)} {n:Nat} {P:PySem.Fin->Shared->Prop} (hu:A.units < cLine) (ho:s.heap.get? a=some (seqObj "list" vs.toArray n)) (V:TsV prog w s.heap vs kss) (h64:vs.length < 64)
  (h:∀ out:List Value,(∀ v∈out,v∈vs)->out.length=vs.length->TsV prog w s.heap out (srt kss)->P (.done (.ret .none)) { s with heap:=sortedHeap s.heap a vs out.toArray }) :
  wpAny (model prog w) A (Builtin.«list.sort» ⟨[.ref a],[]⟩) P E s:=by
 have hna:∀ b,(∃ ks,TK prog w s.heap ks b)->b≠a:=fun b ⟨ks,k⟩ z=>Ze ho (show Value.type "list" ≠ Value.type "tuple" by decide) ks (by rw [← z];exact k)
 refine qAt (O:=lxO) (key:=fun i=>kss.getD i []) (κ:=tuples' true) ho h64 (fun h2 h6 Q k q => ?_) (fun h6 i j C k hi hj q => ?_) fun p B S => ?_
 ·exact qEC (s:={ s with heap:=h6 }) (V.keep fun b o z ho=>k b o (hna b z) ho) h2 q
 ·obtain ⟨b,e1,k1⟩:=V.get hi
  obtain ⟨c,e2,k2⟩:=V.get hj
  rw [e1,e2]
  exact qFq (s:={ s with heap:=h6 }) (k1.keep fun o=>k b o (hna b ⟨_,k1⟩)) (k2.keep fun o=>k c o (hna c ⟨_,k2⟩)) q
 ·have:=V.pick V.ne p.toList B.mem
  rw [qFy V B S] at this
  refine h _ (fun v hv => ?_) (by rw [AC,AR,B.size]) this
  obtain ⟨i,hi,rfl⟩:=Ae.mp hv
  have hi:=B.mem i hi
  rw [AJ,AI hi]
  exact B7 hi
theorem jp {a:Addr} {es:Array (Int×Value)} {ep:Nat} {t:SetTable} {kss:List (List Int)} {its:List Value} {Q:Value->Shared->Prop} (hh:A.handled=none) (hu:A.units + 8 < cLine) (S:SetT prog w s.heap a es ep t kss) (hn:kss.length < 64) (hne:∀ ks∈kss,ks≠[]) (hE:∀ e∈es.toList,e.2∈its)
  (h:∀ (h':Heap) (D:Addr) (out:List Value) (e:Nat),s.heap.objs.size≤D->h'.get? D=some (seqObj "list" out.toArray e)->TsV prog w h' out (srt kss)->out.length=kss.length->(∀ v∈out,v∈its)->(∀ b o,s.heap.get? b=some o->h'.get? b=some o)->Q (.ref D) { s with heap:=h' }) :
  wpAny (model prog w) A (call (.builtin "sorted") [.ref a]) Q E s:=by
 have hsz:es.size=kss.length:=by rw [← S.el.len,AR]
 have L:SetW w s.heap a es ep t:=⟨S.ex,S.tb,by omega⟩
 refine Calls.call_function_entry kind_sorted plain_sorted entry_sorted (args_sorted1 _) ?_
 unfold Builtin.sorted
 refine AA (AZ (a:=()) rfl ?_)
 refine AA (qD6 (A:=A.in1) hh L fun h1 hk1 hs1 => ?_)
 have hperm:=j6 (w:=w) (a:=a) (ep:=ep) (es:=es)
 have hlen:((Q8 w a ep es).toList.map (·.2)).length=kss.length:=by rw [AC,AR,Wj,hsz]
 obtain ⟨kss2,q2,E2⟩:=S.el.perm hperm.symm
 have V1:TsV prog w h1 ((Q8 w a ep es).toList.map (·.2)) kss2:=by
  have hne2:∀ ks∈kss2,ks≠[]:=fun ks hk=>hne ks (q2.mem_iff.mpr hk)
  have:∀ {l:List (Int×Value)} {k:List (List Int)},EsT prog w s.heap l k->(∀ ks∈k,ks≠[])->TsV prog w h1 (l.map (·.2)) k:=by
   intro l k e
   induction e with
   |nil=>intro _;exact .nil
   |cons a _ ih =>
    intro hn
    exact .cons (a.keep fun o=>hk1 _ o) (hn _ AE) (ih fun ks hk=>hn ks (AB _ hk))
  exact this E2 hne2
 refine AA (CT ?_ (Am (Nat.le_of_eq hlen) (by rw [Bo];omega)))
 have hD:(h1.push { cls := .type "list",data := .seq ((Q8 w a ep es).toList.map (·.2)).toArray }).get? h1.objs.size=some (seqObj "list" ((Q8 w a ep es).toList.map (·.2)).toArray 0):=AW _ rfl
 refine AA (Ao (BW slot_list_sort ⟨_,hD,rfl⟩ entry_list_sort ?_ (args_list_sort _)))
 refine qG7 (s:={ s with heap:=h1.push { cls := .type "list",data := .seq ((Q8 w a ep es).toList.map (·.2)).toArray } }) (by show A.units + 2 < cLine;omega) hD (V1.keep fun b o _ ho=>AF _ ho) (by omega) fun out hin hol V2=>⟨_,rfl,?_⟩
 refine AD ⟨_,rfl,?_⟩
 obtain ⟨e,he⟩:=sortedHeap_at (vs:=(Q8 w a ep es).toList.map (·.2)) (out:=out.toArray) hD
 have hkeep:∀ b o,b≠h1.objs.size->(h1.push { cls := .type "list",data := .seq ((Q8 w a ep es).toList.map (·.2)).toArray }).get? b=some o->b < h1.objs.size->(sortedHeap (h1.push { cls := .type "list",data := .seq ((Q8 w a ep es).toList.map (·.2)).toArray }) h1.objs.size ((Q8 w a ep es).toList.map (·.2)) out.toArray).get? b=some o:=fun b o hb ho hlt=>by
  rw [sortedHeap_old hb (by rw [BO];exact A2 hlt)]
  exact ho
 have es':srt kss2=srt kss:=qAg (ZQ _) (ZQ _) (((srt_perm kss2).trans q2.symm).trans (srt_perm kss).symm)
 refine h _ _ out e hs1 he ?_ (by omega) (fun v hv => ?_) fun b o' hb => ?_
 ·rw [← es']
  refine V2.keep fun b o ⟨ks,k⟩ ho=>hkeep b o (fun z=>Ze hD (show Value.type "list" ≠ Value.type "tuple" by decide) ks (by rw [← z];exact k)) ho ?_
  have hlt:=AK ho
  have hnb:b≠h1.objs.size:=fun z=>Ze hD (show Value.type "list" ≠ Value.type "tuple" by decide) ks (by rw [← z];exact k)
  rw [BO] at hlt
  have hlt:b < h1.objs.size + 1:=hlt
  exact Nat.lt_of_le_of_ne (CK hlt) hnb
 ·obtain ⟨e',he',rfl⟩:=Ae.mp (hin v hv)
  exact hE e' (hperm.mem_iff.mp he')
 ·have hb1:=hk1 b o' hb
  exact hkeep b o' (AX (AK hb1)) (AF _ hb1) (AK hb1)
end
inductive TsL (K:W.Frag) (H:Hp):List V->List (List Int)->Prop
 |nil:TsL K H [] []
 |cons {a:Addr} {ks:List Int} {xs:List V} {kss:List (List Int)}:SqT K H a (ks.map V.int)->ks≠[]->TsL K H xs kss->TsL K H (.ref a::xs) (ks::kss)
section
variable {X:Cx} {pins:List (Addr×Obj)} {σ:L2.St} {H:Hp} {s:Shared}
theorem JS {prog:Program} {w:World}:∀ {ks:List Int} {its:List Value},Vals (ks.map V.int) its->ItemsAre (intKind prog w) ks its
 |[],its,h=>by
  cases its with
  |nil=>exact .nil
  |cons u us=>cases h
 |k::ks,its,h=>by
  rw [AU] at h
  cases h with
  |cons r t =>
   obtain ⟨tk,rfl⟩:=(show ∃ t,_=Value.int k t from r)
   exact .cons (CN prog w k tk) (JS t)
theorem qFl (I:L2.Inv X pins σ H s) {a:Addr} {ks:List Int} (h:SqT X.K H a (ks.map V.int)):TK X.prog X.w s.heap ks a:=by
 obtain ⟨its,rv,⟨o,h1,h2,n,h3⟩,hz⟩:=I.tuple h
 exact ⟨o,its.toArray,n,h1,h2,h3,JS rv⟩
theorem ji (I:L2.Inv X pins σ H s) {xs:List V} {kss:List (List Int)} (h:TsL X.K H xs kss):∀ {its:List Value},Vals xs its->TsV X.prog X.w s.heap its kss:=by
 induction h with
 |nil=>intro its hv;cases hv;exact .nil
 | @cons a ks xs kss h1 ne _ ih =>
  intro its hv
  cases hv with
  |cons r t =>
   obtain rfl:=(show _=Value.ref a from r)
   exact .cons (qFl I h1) ne (ih t)
theorem TsL.mem {xs:List V} {kss:List (List Int)} (h:TsL X.K H xs kss):∀ x∈xs,∃ a ks,x = .ref a∧SqT X.K H a (ks.map V.int)∧ks≠[]:=by
 induction h with
 |nil=>intro x hx;cases hx
 |cons h1 ne _ ih =>
  intro x hx
  rcases AL.mp hx with q |q
  ·exact ⟨_,_,q,h1,ne⟩
  ·exact ih x q
theorem qCF {xs:List V} {its:List Value} (h:Vals xs its):∀ b,Value.ref b∈its->(∀ x∈xs,∃ a,x=V.ref a)->V.ref b∈xs:=by
 induction h with
 |nil=>intro b hb;cases hb
 | @cons x u xs us r t ih =>
  intro b hb hx
  obtain ⟨a,rfl⟩:=hx _ AE
  obtain rfl:=(show u=Value.ref a from r)
  rcases AL.mp hb with q |q
  ·cases q;exact AE
  ·exact AB _ (ih b q fun y hy=>hx y (AB _ hy))
theorem TsL.zip {xs:List V} {kss:List (List Int)} (h:TsL X.K H xs kss):∀ a,V.ref a∈xs -> ∃ ks,(V.ref a,ks)∈xs.zip kss∧SqT X.K H a (ks.map V.int):=by
 induction h with
 |nil=>intro a hx;cases hx
 | @cons b ks xs kss h1 ne _ ih =>
  intro a hx
  rw [BJ]
  rcases AL.mp hx with q |q
  ·cases q;exact ⟨ks,AE,h1⟩
  ·obtain ⟨ks,i1,i2⟩:=ih a q
   exact ⟨ks,AB _ i1,i2⟩
theorem qEO (I:L2.Inv X pins σ H s) {xs:List V} {kss0:List (List Int)} (T:TsL X.K H xs kss0) {its:List Value} (rv:Vals xs its) {h':Heap} (hk:∀ b o,s.heap.get? b=some o->h'.get? b=some o) :
  ∀ {out:List Value} {kss:List (List Int)},TsV X.prog X.w h' out kss->(∀ v∈out,v∈its) -> ∃ L:List (V×List Int),L.map (·.2)=kss∧Vals (L.map (·.1)) out ∧ ∀ q∈L,q∈xs.zip kss0:=by
 intro out kss V
 induction V with
 |nil=>intro _;exact ⟨[],rfl,.nil,fun y hy=>(Al hy).elim⟩
 | @cons ks b vs kss k ne _ ih =>
  intro hin
  obtain ⟨L,h1,h2,h3⟩:=ih fun v hv=>hin v (AB _ hv)
  have hm:=qCF rv b (hin _ AE) fun x hx=>by obtain ⟨a,_,e,_⟩:=T.mem x hx;exact ⟨a,e⟩
  obtain ⟨ks2,hz,hs⟩:=T.zip b hm
  have k2:TK X.prog X.w h' ks2 b:=(qFl I hs).keep fun o=>hk b o
  have:=k.inj k2
  subst this
  exact ⟨(.ref b,ks)::L,by rw [AU,h1],.cons rfl h2,fun y hy=>(AL.mp hy).elim (fun z=>by rw [z];exact hz) (h3 y)⟩
end
section
variable {X:Cx} {e:Expr} {te:TE} {p p2 pos pos2:Pos}
theorem qBD:∀ {kss acc:List (List Int)},∀ x∈kss.foldl ddTS acc,x∈acc∨x∈kss
 |[],acc,x,h => .inl h
 |k::kss,acc,x,h=>by
  rw [BF] at h
  rcases qBD x h with q |q
  ·unfold ddTS at q
   split at q
   ·exact .inl q
   ·rcases Ar.mp q with q |q
    ·exact .inl q
    ·exact .inr (by rw [Ai.mp q];exact AE)
  ·exact .inr (AB _ q)
def qHh (K:W.Frag) (te:TE):TE:=fun σ H Q=>te σ H fun x H1 => ∃ a xs kss,x = .ref a∧(SqL K H1 a xs∨SqT K H1 a xs)∧TsL K H1 xs kss∧kss.length≤299∧(ddT kss).length < 64 ∧ ∀ p (L:List (V×List Int)),H1 p=none->(∀ q∈L,q∈xs.zip kss)->L.map (·.2)=srt (ddT kss)->Q (.ref p) (upd H1 p (.lst (L.map (·.1))))
theorem qC1 {A:Around} {E:Value->Shared->Prop} {pins:List (Addr×Obj)} {σ:L2.St} {H:Hp} {s:Shared} {Q:Value->Shared->Prop} {a:Addr} {xs:List V} {kss:List (List Int)} (I:L2.Inv X pins σ H s) (hh:A.handled=none) (hu:A.units + 8 < cLine) (hq:SqL X.K H a xs∨SqT X.K H a xs) (T:TsL X.K H xs kss) (h3:kss.length≤299)
  (h:∀ (its:List Value) (h':Heap) (tk:Nat) (es':Array (Int×Value)) (ep':Nat) (t':SetTable) (ks':List (List Int)),Vals xs its->SetT X.prog X.w h' s.heap.objs.size es' ep' t' ks'->ks'.Perm (ddT kss)->(∀ e∈es'.toList,e.2∈its)->(∀ b o,b < s.heap.objs.size->s.heap.get? b=some o->h'.get? b=some o)->Q (.ref s.heap.objs.size) { s with heap:=h',toks:=tk }) :
  wpAny (model X.prog X.w) A (call (.type "set") [.ref a]) Q E s:=by
 rcases hq with hq |hq
 ·obtain ⟨its,rv,ht,hz⟩:=I.list hq
  exact qAR hh hu ht.isList (by simpa using ji I T rv) h3 fun h' tk es' ep' t' ks' S hp hE hk=>h its h' tk es' ep' t' ks' rv S hp (by simpa using hE) hk
 ·obtain ⟨its,rv,ht,hz⟩:=I.tuple hq
  exact qAG hh hu ht (by simpa using ji I T rv) h3 fun h' tk es' ep' t' ks' S hp hE hk=>h its h' tk es' ep' t' ks' rv S hp (by simpa using hE) hk
theorem qDY (hc:X.calm=true) (hu:X.A.units + 64 < cLine) (hg:Gl X "sorted") (hm:X.mg "sorted" = none) (hg2:Gl X "set") (hm2:X.mg "set" = none) (he:PE X e te)
  (h1:starEach [.Call (.Name "set" p2) [e] [] pos2] X.env=(false,eval (.Call (.Name "set" p2) [e] [] pos2) X.env)::starEach [] X.env:=by rfl) (h2:starEach [e] X.env=(false,eval e X.env)::starEach [] X.env:=by rfl) :
  PE X (.Call (.Name "sorted" p) [.Call (.Name "set" p2) [e] [] pos2] [] pos) (qHh X.K te):=by
 intro pins s σ H Q I h
 refine BI (WC I hg hm PyProof.Rows.boot_sorted ?_ (by decide) (by decide))
 refine Bh ?_ h1 rfl
 rw [h1]
 show wpAny _ _ (spliced ((false,eval (.Call (.Name "set" p2) [e] [] pos2) X.env)::[])) _ _ s
 refine Bp ?_
 refine BI (WC I hg2 hm2 PyProof.Rows.Boot.«set» ?_ (by decide) (by decide))
 refine BH ?_ h2 rfl
 rw [h2]
 show wpAny _ _ (spliced ((false,eval e X.env)::[])) _ _ s
 refine Bp (thn (he pins s σ H _ I h) fun u s1 ⟨x,H1,I1,r1,q1⟩=>By ?_)
 obtain ⟨a,xs,kss,rfl,hq,T,h3,h64,q⟩:=q1
 cases r1
 have hh:X.A.handled=none:=I.ok.hd hc
 refine qC1 I1 hh (by omega) hq T h3 fun its h' tk es' ep' t' ks' rv S hp hE hk=>By ?_
 have hne:∀ ks∈ks',ks≠[]:=fun ks hks=>by
  rcases qBD ks (hp.mem_iff.mp hks) with z |z
  ·cases z
  ·exact (ji I1 T rv).ne ks z
 refine jp (s:={ s1 with heap:=h',toks:=tk }) hh (by omega) S (by rw [hp.length_eq];exact h64) hne hE fun h3 D out e' hD hg3 V hol hin hk3 => ?_
 have es:srt ks'=srt (ddT kss):=qAg (ZQ _) (ZQ _) (((srt_perm ks').trans hp).trans (srt_perm _).symm)
 rw [es] at V
 have hSz:s1.heap.objs.size≤h'.objs.size:=by obtain ⟨o,ho,_⟩:=S.ex;exact CZ (AK ho)
 have hDz:s1.heap.objs.size≤D:=Am hSz hD
 obtain ⟨L,lk,rv2,hin2⟩:=qEO I1 T rv (h':=h3) (fun b ob hb=>hk3 b ob (hk b ob (AK hb) hb)) V hin
 have hlen:(L.map (·.1)).length≤sizeLine:=by rw [rv2.length,hol,hp.length_eq,Bo];omega
 refine ⟨.ref D,_,I1.laid (t':=tk) (h':=h3) (o := .lst (L.map (·.1))) (fun b ob hb=>hk3 b ob (hk b ob (AK hb) hb)) hDz ⟨hlen,out,e',rv2,by simpa using hg3⟩,rfl,q _ L (I1.hok.fresh hDz) hin2 lk⟩
def qGI (K:W.Frag) (te:TE):TE:=fun σ H Q=>te σ H fun x H1 => ∃ a xs kss,x = .ref a∧SqL K H1 a xs∧TsL K H1 xs kss∧kss.length < 64 ∧ ∀ p (L:List (V×List Int)),H1 p=none->(∀ q∈L,q∈xs.zip kss)->L.map (·.2)=srt kss->Q (.ref p) (upd H1 p (.lst (L.map (·.1))))
theorem qEG (hu:X.A.units + 64 < cLine) (hg:Gl X "sorted") (hm:X.mg "sorted" = none) (he:PE X e te) (h1:starEach [e] X.env=(false,eval e X.env)::starEach [] X.env:=by rfl) :
  PE X (.Call (.Name "sorted" p) [e] [] pos) (qGI X.K te):=by
 intro pins s σ H Q I h
 refine BI (WC I hg hm PyProof.Rows.boot_sorted ?_ (by decide) (by decide))
 refine Bh ?_ h1 rfl
 rw [h1]
 show wpAny _ _ (spliced ((false,eval e X.env)::[])) _ _ s
 refine Bp (thn (he pins s σ H _ I h) fun u s1 ⟨x,H1,I1,r1,q1⟩=>By ?_)
 obtain ⟨a,xs,kss,rfl,hq,T,h64,q⟩:=q1
 cases r1
 obtain ⟨its,rv,ht,hz⟩:=I1.list hq
 have V:=ji I1 T rv
 have hl:=V.len
 refine qBq (O:=lxO) (key:=fun i=>kss.getD i []) (κ:=tuples' true) (s:=s1) (vs:=its) ht.isList (by omega) (fun h2 A' E' h6 Q' k q'=>qEC (s:={ s1 with heap:=h6 }) (V.keep fun b o _ ho=>k b o ho) h2 q') (fun h6 i j C k hi hj q' => ?_) fun pp B S => ?_
 ·obtain ⟨b,e1,k1⟩:=V.get hi
  obtain ⟨c,e2,k2⟩:=V.get hj
  rw [e1,e2]
  exact qFq (s:={ s1 with heap:=h6 }) (k1.keep fun o=>k b o) (k2.keep fun o=>k c o) q'
 ·have V2:=V.pick V.ne pp.toList B.mem
  rw [qFy V B S] at V2
  have keep:∀ b o,s1.heap.get? b=some o->(sortedAll s1.heap its (List.toArray (pp.toList.map fun i=>its.getD i Value.none))).get? b=some o:=fun b o hb=>sortedAll_old hb
  obtain ⟨L,lk,rv2,hin2⟩:=qEO I1 T rv keep (V2.keep fun b o _ ho=>keep b o ho) fun v hv=>by
   obtain ⟨i,hi,rfl⟩:=Ae.mp hv
   have hi:=B.mem i hi
   rw [AJ,AI hi]
   exact B7 hi
  obtain ⟨e',he'⟩:=sortedAll_at s1.heap its (List.toArray (pp.toList.map fun i=>its.getD i Value.none))
  have hlen:(L.map (·.1)).length≤sizeLine:=by rw [rv2.length,AC,AR,B.size,Bo];omega
  refine ⟨.ref (s1.heap.objs.size + 1),_,I1.laid (t':=s1.toks) (o := .lst (L.map (·.1))) keep (Cd _) ⟨hlen,_,e',rv2,he'⟩,rfl,q _ L (I1.hok.fresh (Cd _)) hin2 lk⟩
end
open EX
end ET
namespace EV
open PySem PySem.Spec PyProof.Rows L2 EX ET
def jC:PV->Option (List Int)
 | .tup (p::l)=>wC qBZ (p::l)
 |_=>none
def Zr (ks:List Int):PV := .tup (ks.map PV.int)
section
variable {K:W.Frag} {H:Hp} {b:Bz}
theorem qFL {p:PV} {v:V} {ks:List Int} (r:RV K H b p v) (h:jC p=some ks):∃ a,v = .ref a∧SqT K H a (ks.map V.int)∧ks≠[]∧RV K H b (Zr ks) v:=by
 unfold jC at h
 split at h
 ·rename_i p l
  have r':=r
  unfold RV at r
  obtain ⟨a,xs,rfl,h2,h3⟩:=r
  have e:=Zx h3 h
  subst e
  refine ⟨a,rfl,h2.sq,?_,?_⟩
  ·intro z
   subst z
   have:=h3.length
   simp at this
  ·unfold Zr RV
   exact ⟨a,ks.map V.int,rfl,h2,zM ks⟩
 ·cases h
theorem qAQ:∀ {l:List PV} {xs:List V} {kss:List (List Int)},RVs K H b l xs->wC jC l=some kss->TsL K H xs kss ∧ ∀ q∈xs.zip kss,RV K H b (Zr q.2) q.1
 |[],xs,kss,r,h=>by
  unfold RVs at r;subst r
  cases h
  exact ⟨.nil,fun q hq=>(Al hq).elim⟩
 |p::l,xs,kss,r,h=>by
  unfold RVs at r
  obtain ⟨x,t,rfl,h2,h3⟩:=r
  unfold wC at h
  cases e1:jC p with
  |none=>rw [e1] at h;cases h
  |some ks =>
   rw [e1] at h
   dsimp only at h
   cases e2:wC jC l with
   |none=>rw [e2] at h;cases h
   |some kss' =>
    rw [e2] at h
    cases h
    obtain ⟨a,rfl,h4,h5,h6⟩:=qFL h2 e1
    obtain ⟨i1,i2⟩:=qAQ h3 e2
    refine ⟨.cons h4 h5 i1,fun q hq => ?_⟩
    rw [BJ] at hq
    rcases AL.mp hq with z |z
    ·rw [z];exact h6
    ·exact i2 q z
theorem ZV {xs:List V} {kss:List (List Int)} (hr:∀ q∈xs.zip kss,RV K H b (Zr q.2) q.1):∀ {L:List (V×List Int)},(∀ q∈L,q∈xs.zip kss)->RVs K H b ((L.map (·.2)).map Zr) (L.map (·.1))
 |[],_=>RVs.nil
 |q::L,h=>by
  rw [AU,AU,AU]
  exact RVs.cons (hr q (h q AE)) (ZV hr fun y hy=>h y (AB _ hy))
end
section
variable {X:Cx} {E:XK} {e:Expr} {f:FE} {p p2 pos pos2:Pos}
def YD:PV->qC->Rs PV:=fun q st=>match zg st q with
 |some l=>match wC jC l with
  |some kss=>if kss.length≤299∧(ddT kss).length < 64 then .ok (.lst ((srt (ddT kss)).map Zr)) st else .no
  |none => .no
 |none => .no
def ja (f:FE):FE:=fun r st=>(f r st).bind YD
theorem qCS (hc:X.calm=true) (hu:X.A.units + 64 < cLine) (hm:X.mg "sorted" = none) (hm2:X.mg "set" = none) (h:VE X E e f) (hg:Gl X "sorted" := by rfl) (hg2:Gl X "set" := by rfl)
  (h1:starEach [.Call (.Name "set" p2) [e] [] pos2] X.env=(false,eval (.Call (.Name "set" p2) [e] [] pos2) X.env)::starEach [] X.env:=by rfl) (h2:starEach [e] X.env=(false,eval e X.env)::starEach [] X.env:=by rfl) :
  VE X E (.Call (.Name "sorted" p) [.Call (.Name "set" p2) [e] [] pos2] [] pos) (ja f) :=
 PE.imp (qDY hc hu hg hm hg2 hm2 h h1 h2) fun s H Q ⟨b,r,st,S,R,P⟩=>⟨b,r,st,S,R,PostE.bind P fun q s1 u H1 b1 e1 S1 r1 P1=>by
  unfold YD at P1
  split at P1
  ·rename_i l el
   split at P1
   ·rename_i kss ek
    split at P1
    ·rename_i hn
     obtain ⟨x,xs,rfl,h2,h3⟩:=Z3 S1 r1 el
     obtain ⟨T,hr⟩:=qAQ h3 ek
     exact ⟨x,xs,kss,rfl,h2,T,hn.1,hn.2,fun p L hp hin hL=>PostN.lay (PostN.of (r := .ok ((srt (ddT kss)).map Zr) s1) P1) S1 (by rw [← hL];exact ZV hr hin) hp⟩
    ·exact P1.elim
   ·exact P1.elim
  ·exact P1.elim⟩
def ZR:PV->qC->Rs PV:=fun q st=>match asL st q with
 |some l=>match wC jC l with
  |some kss=>if kss.length < 64 then .ok (.lst ((srt kss).map Zr)) st else .no
  |none => .no
 |none => .no
def ZU (f:FE):FE:=fun r st=>(f r st).bind ZR
theorem Jj (hu:X.A.units + 64 < cLine) (hm:X.mg "sorted" = none) (h:VE X E e f) (hg:Gl X "sorted" := by rfl) (h1:starEach [e] X.env=(false,eval e X.env)::starEach [] X.env:=by rfl) :
  VE X E (.Call (.Name "sorted" p) [e] [] pos) (ZU f) :=
 PE.imp (qEG hu hg hm h h1) fun s H Q ⟨b,r,st,S,R,P⟩=>⟨b,r,st,S,R,PostE.bind P fun q s1 u H1 b1 e1 S1 r1 P1=>by
  unfold ZR at P1
  split at P1
  ·rename_i l el
   split at P1
   ·rename_i kss ek
    split at P1
    ·rename_i hn
     obtain ⟨x,xs,rfl,h2,h3⟩:=Qj S1 r1 el
     obtain ⟨T,hr⟩:=qAQ h3 ek
     exact ⟨x,xs,kss,rfl,h2,T,hn,fun p L hp hin hL=>PostN.lay (PostN.of (r := .ok ((srt kss).map Zr) s1) P1) S1 (by rw [← hL];exact ZV hr hin) hp⟩
    ·exact P1.elim
   ·exact P1.elim
  ·exact P1.elim⟩
end
end EV
end
section
namespace EJ
open PySem PySem.Spec PyProof.Rows L2 EX
theorem qDe:((List.range 41).all fun (h:Nat)=>qCq [] 0 (h:Int))=true:=by decide +kernel
def SetJ (w:World) (h:Heap) (a:Addr) (ns:List Int):Prop := ∃ o es ep t,h.get? a=some o∧o.ExactSet∧o.data=Data.set es ep t∧(∀ e∈es.toList,(∃ tk,e.2=Value.int e.1 tk)∧0≤e.1∧e.1≤40)∧es.toList.map (·.1)=ns∧TbOk w t ns.length
theorem qEz:∀ n:Fin 41,hashInt (n.val:Int)=(n.val:Int):=by decide +kernel
theorem qAK {n:Int} (h1:0≤n) (h2:n≤40):hashInt n=n:=by
 have:=qEz ⟨n.toNat,by omega⟩
 dsimp only at this
 rw [show ((n.toNat:Nat):Int)=n by omega] at this
 exact this
theorem qFW {w:World} {t:SetTable} {h:Int} (T:TbOk w t 0) (h1:0≤h) (h2:h≤40):∃ slot,t.freeSlot h=some (slot,false)∧(SetTable.insertAt t.place (SetTable.below t.place slot) slot).toList∈ze 1:=by
 have hp:t.place.toList=[]:=Bj (ZJ T.ris)
 have e:=CP.mp qDe h.toNat (BE.mpr (by omega))
 unfold qCq at e
 rw [yb T.mask T.dum]
 have et:t.place=[].toArray:=by rw [← hp]
 rw [et]
 rw [show ((h.toNat:Nat):Int)=h by omega] at e
 split at e
 ·rename_i slot es
  exact ⟨slot,es,BC e⟩
 ·cases e
section
variable {prog:Program} {w:World} {A:Around} {E:Value->Shared->Prop} {s:Shared}
theorem qCa {es:List (Int×Value)} (h:∀ e∈es,(∃ tk,e.2=Value.int e.1 tk)∧0≤e.1∧e.1≤40):ElemsOf (intKind prog w) es:=fun e he=>by
 obtain ⟨⟨tk,h1⟩,h2,h3⟩:=h e he
 refine ⟨⟨e.1,?_,(qAK h2 h3).symm⟩,?_⟩
 ·rw [h1];exact CN prog w e.1 tk
 ·rw [h1];rfl
theorem qFP {a:Addr} {k:Int} {tk:Tok} {ns:List Int} {Q:Bool->Shared->Prop} (S:SetJ w s.heap a ns) (hn:∀ x∈ns,x=k) (hn1:ns.length≤1) (h1:0≤k) (h2:k≤40)
  (h:∀ (h':Heap) (ns':List Int),Heap.SameBut a s.heap h'->SetJ w h' a ns'->ns'.Perm (if k∈ns then ns else ns++[k])->Q (decide (k ∉ ns)) { s with heap:=h' }):wpAny (model prog w) A (setAddHashed a (.int k tk) k) Q E s:=by
 obtain ⟨o,es,ep,t,ho,hx,hd,hes,hm,T⟩:=S
 have hsz:es.size=ns.length:=by rw [← hm,AC,AR]
 have hfit:t.fits es.size=true:=by
  unfold SetTable.fits
  rw [Ay]
  have:=ZJ T.ris
  rw [AR] at this
  refine ⟨by rw [this,hsz];exact Aq _,AS ?_⟩
  unfold SetTable.fill
  rw [T.dum,T.mask,this]
  show ns.length + 0≤7
  omega
 have hel:=qCa (prog:=prog) (w:=w) hes
 have hk:=qAK h1 h2
 unfold setAddHashed
 refine Ao ?_
 rw [setAddHashedIn.eq_def]
 refine AA (At ho hd hfit ?_)
 dsimp only
 rw [AG (byScan_of (knd:=intKind prog w) (x := .int k tk) rfl (by rw [hsz];exact CG hn1 (by decide)) hel)]
 refine AA ?_
 rw [setAddByScan.eq_def]
 refine AA (Cc (AA ?_))
 have hscan := @wpAny_setScan_of prog w Int _ (intKind prog w) A E s a o es ep t (.int k tk) k true
 rw [show (intKind prog w).hash k=k from hk] at hscan
 refine hscan (CN prog w k tk) ho hd hfit hel ?_
 have hfind:∀ l:List (Int×Value),(∀ e∈l,(∃ tk,e.2=Value.int e.1 tk)∧0≤e.1∧e.1≤40)->(l.findIdx? fun e=>(intKind prog w).is k e.2).isSome=decide (k∈l.map (·.1)):=by
  intro l hl
  induction l with
  |nil=>rfl
  |cons e l ih =>
   obtain ⟨⟨tk',he⟩,_⟩:=hl e AE
   rw [List.findIdx?_cons,he,qHT]
   by_cases hq:e.1=k
   ·rw [AG (by rw [AS hq])]
    exact (AS (by rw [AU,hq];exact AE)).symm
   ·rw [AH (by rw [Aa hq];simp),Option.isSome_map,ih fun x hx=>hl x (AB _ hx)]
    refine decide_eq_decide.mpr ⟨fun z=>AB _ z,fun z => ?_⟩
    rcases AL.mp z with z |z
    ·exact absurd z.symm hq
    ·exact z
 have hf:=hfind es.toList hes
 rw [hm] at hf
 cases hi:es.toList.findIdx? fun e=>(intKind prog w).is k e.2 with
 |some j =>
  rw [hi] at hf
  have hk:k∈ns:=BC hf.symm
  dsimp only
  refine AD (AD ?_)
  have:=h s.heap ns ⟨rfl,fun _ _=>rfl⟩ ⟨o,es,ep,t,ho,hx,hd,hes,hm,T⟩ (by rw [AG hk])
  rw [Aa (not_not_intro hk)] at this
  exact this
 |none =>
  rw [hi] at hf
  have hk':k ∉ ns:=of_decide_eq_false hf.symm
  dsimp only
  have hn0:ns=[]:=by
   cases ns with
   |nil=>rfl
   |cons x l=>exact absurd (by rw [hn x AE];exact AE) hk'
  obtain ⟨slot,hs1,hs2⟩:=qFW (by rw [hn0] at T;exact T) h1 h2
  have hT1:TbOk w (t.put slot).1 (ns.length + 1):=by
   refine ⟨T.mask,?_,T.led,T.pl,by rw [hn0];exact hs2⟩
   show (if SetTable.has t.dummies slot=true then SetTable.eraseAt t.dummies (SetTable.below t.dummies slot) else t.dummies) = #[]
   rw [T.dum]
   rfl
  have hsz1:(SetTable.insertAt es (t.put slot).2 (k,Value.int k tk)).size=ns.length + 1:=by
   unfold SetTable.insertAt
   simp only [Array.size_append,Array.size_push,Array.size_extract]
   omega
  have hfit1:(t.put slot).1.fits (ns.length + 1)=true:=by
   unfold SetTable.fits
   rw [Ay]
   have:=ZJ hT1.ris
   rw [AR] at this
   refine ⟨by rw [this];exact Aq _,AS ?_⟩
   unfold SetTable.fill
   rw [hT1.dum,hT1.mask,this]
   show ns.length + 1 + 0≤7
   omega
  have hl:layNew t es k (.int k tk)=(SetTable.insertAt es (t.put slot).2 (k,.int k tk),(t.put slot).1,false,false):=by
   unfold layNew
   rw [hs1]
   show (SetTable.insertAt es (t.put slot).2 (k,Value.int k tk),(t.put slot).1.orStandIn (SetTable.insertAt es (t.put slot).2 (k,Value.int k tk)).size,false,!(t.put slot).1.fits (SetTable.insertAt es (t.put slot).2 (k,Value.int k tk)).size)=_
   rw [hsz1]
   unfold SetTable.orStandIn
   rw [AG hfit1,hfit1]
   rfl
  have hperm:=layNew_perm t es k (.int k tk)
  rw [hl] at hperm ⊢
  dsimp only
  refine AA (AZ (a:=()) (by with_unfolding_all rfl) ?_)
  rw [AG hT1.pl]
  refine AA (AZ (a:=true) (by rw [hashByValue_scannable 8 (x := .int k tk) rfl];rfl) ?_)
  rw [AG rfl]
  refine AA (wpAny_storeSet_of ho hd ?_ (by rw [hsz1];exact Am (BX hn1) (by decide)))
  have hfull:(t.put slot).1.tooFull=false:=by
   unfold SetTable.tooFull
   refine Aa ?_
   have:=ZJ hT1.ris
   rw [AR] at this
   unfold SetTable.fill
   rw [hT1.dum,hT1.mask,this]
   show ¬ (ns.length + 1 + 0) * 5 ≥ 7 * 3
   omega
  rw [hfull]
  rw [AH (by decide)]
  refine AD (AD ?_)
  obtain ⟨oc,od,odt,osl⟩:=o
  have hd:odt=Data.set es ep t:=hd
  subst hd
  have hu:({ s with heap:=s.heap.update a (Obj.putSet (SetTable.insertAt es (t.put slot).2 (k,.int k tk)) (t.put slot).1) }:Shared).heap.get? a=some ⟨oc,od,Data.set (SetTable.insertAt es (t.put slot).2 (k,.int k tk)) (ep + 1) (t.put slot).1,osl⟩:=by
   show (s.heap.update a _).get? a=_
   rw [Av _ ho rfl]
   rfl
  have hns:((SetTable.insertAt es (t.put slot).2 (k,Value.int k tk)).toList.map (·.1)).Perm (ns++[k]):=by
   refine (hperm.map (·.1)).trans (.of_eq ?_)
   rw [Array.toList_push,Bi,hm]
   rfl
  have:=h _ ((SetTable.insertAt es (t.put slot).2 (k,Value.int k tk)).toList.map (·.1)) ⟨BY ..,fun b hb=>CU _ _ _ _ hb⟩ ⟨_,_,_,_,hu,hx,rfl,fun e he => ?_,rfl,?_⟩ (by rw [AH hk'];exact hns)
  ·rw [AS hk'] at this
   exact this
  ·have he:=hperm.mem_iff.mp he
   rw [Array.toList_push] at he
   rcases Ar.mp he with he |he
   ·exact hes e he
   ·rw [Ai.mp he];exact ⟨⟨tk,rfl⟩,h1,h2⟩
  ·rw [hns.length_eq,AY];exact hT1
end
section
variable {prog:Program} {w:World} {A:Around} {E:Value->Shared->Prop} {R:Result->Shared->Prop}
theorem SetJ.same {h h':Heap} {a:Addr} {ns:List Int} (S:SetJ w h a ns) (e:∀ o,h.get? a=some o->h'.get? a=some o):SetJ w h' a ns:=by
 obtain ⟨o,es,ep,t,h1,h2⟩:=S
 exact ⟨o,es,ep,t,e o h1,h2⟩
theorem qEZ {I:Addr} {fp wr:List Addr} {n:Nat} {P:Nat->Value->Prop} {St:Nat->Heap->Prop} (W:Walks prog w A.in1 I fp wr n P St) {Sa:Addr} (hS:Sa ∉ fp) {vs:List Int} (hn:vs.length=n)  (hv:∀ i v,P i v -> ∃ t,v=Value.int (vs.getD i 0) t) {c:Int} (hc:∀ v∈vs,v=c) (hb:0≤c∧c≤40) :
  ∀ (k i:Nat) (s:Shared) (ns:List Int),n - i=k->i≤n->St i s.heap->SetJ w s.heap Sa ns->ns=(if i=0 then [] else [c]) ->
   (∀ (h':Heap) (tk:Nat) (ns':List Int),(∀ b o,b ∉ Sa::wr->s.heap.get? b=some o->h'.get? b=some o)->SetJ w h' Sa ns'->ns'=(if n=0 then [] else [c])->R (.ok (.ret .none)) { s with heap:=h',toks:=tk }) ->
   codeAny (model prog w) A (.builtin "set.update.loop" ⟨[.ref Sa,.ref I],[]⟩) R s:=by
 intro k
 induction k with
 |zero =>
  intro i s ns hk hi hSt S hp h
  have:i=n:=by omega
  subst this
  refine A9 B9 ?_
  rw [BM BP]
  unfold Builtin.«set.update.loop»
  refine AA (W.done _ _ _ hSt fun h' tk hk' => ?_)
  dsimp only
  refine AD ?_
  refine h h' tk ns (fun b o hb'=>hk' b o fun q=>hb' (AB _ q)) (S.same fun o=>hk' Sa o fun q=>hS (W.sub _ q)) ?_
  exact hp
 |succ k ih =>
  intro i s ns hk hi hSt S hp h
  have hi':i < n:=by omega
  refine A9 B9 ?_
  rw [BM BP]
  unfold Builtin.«set.update.loop»
  refine AA (W.item i _ _ _ hi' hSt fun v h' tk hP hSt' hk' => ?_)
  obtain ⟨t,rfl⟩:=hv i v hP
  have hm:vs.getD i 0∈vs:=by rw [AJ,AI (by omega)];exact B7 _
  have hb':0≤vs.getD i 0∧vs.getD i 0≤40:=by rw [hc _ hm];exact hb
  have hv0:=hc _ hm
  dsimp only
  refine AA (Ao ?_)
  unfold setAdd
  refine Ao (AA ((intKind prog w).pyHash (CN prog w _ t) ?_))
  rw [show (intKind prog w).hash (vs.getD i 0)=vs.getD i 0 from qAK hb'.1 hb'.2]
  refine qFP (S.same fun o=>hk' Sa o fun q=>hS (W.sub _ q)) (fun x hx=>by rw [hv0];rw [hp] at hx;split at hx <;> simp at hx;exact hx) (by rw [hp];split <;> simp) hb'.1 hb'.2 fun h2 ns2 hs2 S2 hp2 => ?_
  refine AD ⟨Ce BP _,?_⟩
  refine ih (i + 1) _ ns2 (by omega) (by omega) (W.frame _ _ _ hSt' fun b hbf o ho=>by
   rw [hs2.2 b (fun z=>hS (by rw [← z];exact hbf))];exact ho) S2 ?_ fun h3 tk3 ns3 hh S3 hp3 => ?_
  ·rw [AH (by omega)]
   have:(if vs.getD i 0∈ns then ns else ns++[vs.getD i 0])=[c]:=by
    rw [hp,hv0]
    split <;> simp
   rw [this] at hp2
   exact List.perm_singleton.mp hp2
  ·exact h h3 tk3 ns3 (fun b o hbn ho=>hh b o hbn (by
    have:b≠Sa:=fun z=>hbn (by rw [z];exact AE)
    rw [hs2.2 b this]
    exact hk' b o (fun q=>hbn (AB _ q)) ho)) S3 hp3
end
section
variable {prog:Program} {w:World} {A:Around} {E:Value->Shared->Prop} {s:Shared}
theorem qBa {h:Heap} {led:Bool} (hl:led = !byT w):SetJ w (h.push { cls := .type "set",data := .set #[] 0 (SetTable.fresh 0 0 led) }) h.objs.size [] :=
 ⟨_,#[],0,_,AW _ rfl,⟨rfl,rfl,rfl⟩,rfl,(fun e he=>(Al he).elim),rfl,⟨rfl,rfl,hl,rfl,show ([]:List Nat)∈ze 0 from by decide⟩⟩
theorem qBk {l:Addr} {items:Array Value} {vs:List Int} {Q:Value->Shared->Prop} (hh:A.handled=none) (hl:s.heap.IsList l items) (hv:IntsAre items.toList vs) {c:Int} (h1:0 < vs.length) (hc:∀ v∈vs,v=c) (hb:0≤c∧c≤40)
  (h:∀ (h':Heap) (tk:Nat) (ns':List Int),SetJ w h' s.heap.objs.size ns'->ns'=[c]->(∀ b o,b < s.heap.objs.size->s.heap.get? b=some o->h'.get? b=some o)->Q (.ref s.heap.objs.size) { s with heap:=h',toks:=tk }) :
  wpAny (model prog w) A (call (.type "set") [.ref l]) Q E s:=by
 refine Bf (codeAny_of_tree (AZ (a:=Fin.again (.builtin "type.__call__" ⟨[.type "set",.ref l],[]⟩)) rfl ⟨Code.quiet_builtin _ (by decide +kernel),?_⟩))
 refine A9 F.entry_type_call ?_
 rw [Around.under_plain (weight_type_call_type _ _ _) rfl]
 unfold Builtin.«type.__call__»
 dsimp only
 rw [AH (by rw [F.called_set.notType];decide),AH (by rw [F.called_set.canCreate];decide)]
 refine AA (AZ (F.typeCall_set_1 _) ?_)
 obtain ⟨c,tl,hm⟩:=F.called_set.mro
 refine AA (AZ hm ?_)
 rw [AH (by simp)]
 refine AA (AZ F.called_set.made ?_)
 dsimp only
 refine AA (AD (AA (Ao (Bf (jW ?_)))))
 have hT:({ s with heap:=s.heap.push { cls := .type "set",data := .set #[] 0 (SetTable.fresh 0 0 (!byT w)) } }:Shared).TypeIs (.ref s.heap.objs.size) "set" := ⟨_,AW _ rfl,rfl⟩
 refine AA (A1 hT sub_set_self ?_)
 rw [AH (by decide)]
 refine AA (Ao ?_)
 unfold callSpecial?
 refine AA (CW hT F.called_set.init.lookup ?_)
 dsimp only
 refine Ao (AA (AZ (F.called_set.init.bind _) ?_))
 dsimp only
 refine AA (Bf (B0 F.called_set.init.plain F.entry_set_init (check_set_init_1 hT ?_)))
 unfold Builtin.«set.__init__»
 refine AA (AZ (a:=()) rfl ?_)
 show wpAny _ _ (do
  let n ← typeNameOfCut 200 (.ref s.heap.objs.size)
  checkCount n 0 1 1
  let a ← Builtin.Frozenset.addrOf (.ref s.heap.objs.size)
  let u ← setUsed a
  if u=true then do
   Builtin.Frozenset.clearAll a
   Builtin.Frozenset.updateFrom "set.__init__" a (.ref l)
   ret Value.none
  else do
   Builtin.Frozenset.updateFrom "set.__init__" a (.ref l)
   ret Value.none) _ _ _
 unfold typeNameOfCut shownTypeOf
 refine AA (AA (AA (Bq hT ?_)))
 rw [AH (by decide)]
 refine AD (AZ (a := "set") (by rfl) ?_)
 refine AA (AZ (a:=()) rfl ?_)
 refine AA (AZ (a:=s.heap.objs.size) rfl ?_)
 unfold setUsed
 have hg:(s.heap.push { cls := .type "set",data := .set #[] 0 (SetTable.fresh 0 0 (!byT w)) }).get? s.heap.objs.size=some { cls := .type "set",data := .set #[] 0 (SetTable.fresh 0 0 (!byT w)) }:=AW _ rfl
 refine AA (AA (At hg rfl rfl (AD ?_)))
 rw [AH (by intro q;exact Bool.noConfusion (show false=true from q))]
 refine AA ?_
 unfold Builtin.Frozenset.updateFrom Builtin.Frozenset.isAnySet
 have hl':(s.heap.push { cls := .type "set",data := .set #[] 0 (SetTable.fresh 0 0 (!byT w)) }).IsList l items:=hl.push _
 refine AA (AA (A1 (T := "list") hl'.typeIs F.sub_list_set ?_))
 show wpAny _ _ (isInstance (.ref l) (.type "frozenset")) _ _ _
 refine A1 (T := "list") hl'.typeIs F.sub_list_frozenset ?_
 rw [AH (by decide)]
 refine AA (Bq (T := "list") hl'.typeIs ?_)
 rw [AH (by decide)]
 refine AA (wpAny_pyIter_list hl' (AA (Cb ?_)))
 have hlt:l < s.heap.objs.size:=by obtain ⟨o,ho,_⟩:=hl;exact AK ho
 have hS:=qBa (w:=w) (h:=s.heap) (led := !byT w) rfl
 have hsz:(s.heap.push { cls := .type "set",data := .set #[] 0 (SetTable.fresh 0 0 (!byT w)) }).objs.size=s.heap.objs.size + 1:=BO ..
 have hlen:vs.length=items.size:=by
  rw [← AR]
  clear hb h1 hc h hl hl'
  generalize items.toList=its at hv
  induction hv with
  |nil=>rfl
  |cons n t _ ih=>rw [AT,AT,ih]
 refine qEZ (A:=A.in1.in1) (Walks.list (A:=A.in1.in1.in1) hh (s.heap.push { cls := .type "set",data := .set #[] 0 (SetTable.fresh 0 0 (!byT w)) }).objs.size l (by rw [hsz];exact AX (A2 hlt)) items) (Sa:=s.heap.objs.size) (by
  rw [hsz];intro q
  rcases AL.mp q with q |q
  ·exact absurd q (by show ¬ s.heap.objs.size=s.heap.objs.size + 1;omega)
  ·have:=Ai.mp q;exact absurd hlt (by rw [← this];exact BD _)) hlen (fun i v hi=>hv.int_at i v (by rw [← Aw] at hi;exact hi)) hc hb _ 0 _ [] rfl (A6 _) ⟨⟨_,AW _ rfl,rfl,rfl⟩,hl'.push _⟩ (hS.same fun o ho=>AF _ ho) rfl fun h' tk ns' hk S' hp => ?_
 refine AD (AD ?_)
 refine AD ?_
 dsimp only
 rw [AH (by decide)]
 refine AD ?_
 refine h h' tk ns' S' (by rw [hp,AH (by omega)]) fun b o hb' ho=>hk b o (fun q => ?_) (AF _ (AF _ ho))
 rw [hsz] at q
 rcases AL.mp q with q |q
 ·exact absurd hb' (by rw [q];exact BD _)
 ·have:=Ai.mp q;exact absurd hb' (by rw [this];exact Nat.not_lt_of_le (Cd _))
end
end EJ
end
section
namespace EV
open PySem PySem.Spec PyProof.Rows L2 EX ET
section
variable {X:Cx} {E:XK} {e a c d o i:Expr} {es:List Expr} {f fa fb fc fo fi:FE} {fl:FL} {pos:Pos} {F G:FS}
def qFs (K:W.Frag):V->V->Hp->VK->Prop:=fun x y H Q => ∃ p xs k v,x = .ref p∧y = .int k∧SqL K H p xs∧0≤k∧xs[k.toNat]? = some v∧Q v H
theorem qCU:qIb X (qFs X.K):=by
 intro pins s σ H o i ov iv Q I ro ri h
 obtain ⟨p,xs,k,v,rfl,rfl,hq,h0,hv,q⟩:=h
 cases ro
 obtain ⟨t,rfl⟩:=ri
 obtain ⟨its,r,pl,hz⟩:=I.list hq
 obtain ⟨w,ew,rw'⟩:=r.get hv
 have hn:=zq
 have hk:=(AO.mp hv).1
 exact wpAny_getItem_list pl.isList h0 (by omega) (by simpa using ew) ⟨v,H,I,rw',q⟩
def qB1 (st:qC) (o i:PV):Option Int:=match o,i with
 | .ref n,.int k=>match st[n]? with
  |some (.l xs)=>if 0≤k then match xs[k.toNat]? with
    |some (.int x)=>some x
    |_=>none
   else none
  |_=>none
 |_,_=>none
theorem qFZ {K:W.Frag} {H:Hp} {b:Bz} {st:qC} {o i:PV} {ov iv:V} {x:Int} {Q:VK} (S:SR K H b st) (ro:RV K H b o ov) (ri:RV K H b i iv) (e:qB1 st o i=some x) (q:Q (.int x) H):qFs K ov iv H Q:=by
 unfold qB1 at e
 split at e
 ·rename_i n k
  split at e
  ·rename_i xs e1
   split at e
   ·rename_i h0
    split at e
    ·rename_i y e2
     cases e
     unfold RV at ro ri
     obtain ⟨a,rfl,ha⟩:=ro
     obtain ⟨a',o',h1,h2,vs,rfl,h4⟩:=S.at_ n _ e1
     rw [ha] at h1;cases h1
     obtain ⟨y,hy,ry⟩:=h4.get e2
     unfold RV at ry
     subst ry
     exact ⟨a,vs,k,_,rfl,ri,SqL.of h2,h0,hy,q⟩
    ·cases e
   ·cases e
  ·cases e
 ·cases e
def zp (fo fi f:FE):FS:=fun r st=>(fo r st).bindS fun o s1=>(fi r s1).bindS fun i s2=>match qB1 s2 o i with
 |some x=>(f r s2).bindS fun p s3=>match p with
  | .int y=>match zi s3 o i (.int (x + y)) with
   |some s4 => .nx r s4
   |none => .no
  |_ => .no
 |none => .no
theorem qAq {tpos:Pos} (ho:VE X E o fo) (hi:VE X E i fi) (h:VE X E e f)
  (ha:∀ ov iv new,augStore i ov iv new=(do holding [new,ov,iv] (setItem ov iv new);release [new,ov,iv] [];pure .next):=by intros;rfl):VS X E (.AugAssign (.Subscript o i tpos) .Add e pos) (zp fo fi f) :=
 PS.imp (qE7 ho hi qCU h qHC Jl ha) fun D s H ⟨b,r,st,S,R,P⟩=>⟨b,r,st,S,R,PostE.bindS P fun o s1 u H1 b1 e1 S1 r1 P1 =>
  ⟨b1,r,s1,S1,R.ext e1,PostE.bindS P1 fun i s2 iu H2 b2 e2 S2 r2 P2=>by
   split at P2
   ·rename_i x ex
    refine qFZ S2 (RV.ext e2 o r1) r2 ex ⟨b2,r,s2,S2,(R.ext e1).ext e2,PostE.bindS P2 fun p s3 pu H3 b3 e3 S3 r3 P3 => ?_⟩
    split at P3
    ·rename_i y
     unfold RV at r3
     subst r3
     split at P3
     ·rename_i s4 e4
      exact ⟨x,y,rfl,rfl,jw S3 (RV.ext e3 o (RV.ext e2 o r1)) (RV.ext e3 i r2) Q9 e4 fun H' b' e' S'=>P3 s H' b' e' S' ((((R.ext e1).ext e2).ext e3).ext e')⟩
     ·exact P3.elim
    ·exact P3.elim
   ·exact P2.elim⟩⟩
def yd (fo f:FE):FE:=fun r st=>(fo r st).bind fun o s=>match o with
 | .ref n=>if lk s (.ref n)=true then (f r s).bind fun p s2=>match p,s2[n]? with
   | .int k,some (.l xs)=>if 0≤k∧k < 1048576 then match xs[k.toNat]? with
     |some y => .ok y (s2.set n (.l (xs.eraseIdx k.toNat)))
     |none => .no
    else .no
   |_,_ => .no
  else .no
 |_ => .no
theorem qDI {apos cpos:Pos} (ho:VE X E o fo) (h:VE X E e f)
  (hbase:attributeBase o "pop" X.env (eval o X.env)=eval o X.env:=by rfl)
  (hfew:((backTo cpos (starEach [e] X.env)).all (fun x => !x.1)&&(backToKw cpos (keywordEach [] X.env)).all (fun x=>x.1.isSome)&&decide ([e].length + ([]:List Keyword).length + (if ([]:List Keyword).isEmpty then 0 else 1) < 30))=true:=by rfl)
  (hline:(apos.endLine==cpos.line)=true:=by rfl) (h1:starEach [e] X.env=(false,eval e X.env)::starEach [] X.env:=by rfl) (hplain:(backTo cpos (starEach [] X.env)).any (·.1)=false:=by rfl) :
  VE X E (.Call (.Attribute o "pop" apos) [e] [] cpos) (yd fo f) :=
 PE.imp (qHu PySem.F.plainAttrs_list PySem.F.slot_list_pop PySem.F.type_list_pop qCn ho (qAs h qCs h1) hbase hfew hline h1 hplain) fun s H Q ⟨b,r,st,S,R,P⟩=>⟨b,r,st,S,R,PostE.bind P fun o s1 u H1 b1 e1 S1 r1 P1=>by
  cases o with
  |ref n =>
   have P1:PostE X.K E H1 b1 (if lk s1 (.ref n)=true then ((f r s1).bind fun p s2=>match p,s2[n]? with
    | .int k,some (.l xs)=>if 0≤k∧k < 1048576 then match xs[k.toNat]? with
      |some y => .ok y (s2.set n (.l (xs.eraseIdx k.toNat)))
      |none => .no
     else .no
    |_,_ => .no) else .no) Q:=P1
   by_cases hlk:lk s1 (.ref n)=true
   rotate_left
   ·rw [AH hlk] at P1;exact P1.elim
   rw [AG hlk] at P1
   have r1':=r1
   unfold RV at r1
   obtain ⟨x,rfl,hx⟩:=r1
   refine ⟨?_,b1,r,s1,S1,R.ext e1,PostE.bind P1 fun p s2 pu H2 b2 e2 S2 r2 P2 => ?_⟩
   ·have hl:n < s1.length:=by rw [← S1.len];exact (AO.mp hx).1
    obtain ⟨a',o',h3,h4,h5⟩:=S1.at_ n _ (AI hl)
    rw [hx] at h3;cases h3
    cases hq:s1[n] with
    |l xs=>rw [hq] at h5;obtain ⟨vs,e,_⟩:=h5;subst e;exact .inl ⟨rfl,vs,SqL.of h4⟩
    |z xs=>unfold lk at hlk;dsimp only at hlk;rw [AI hl,hq] at hlk;cases hlk
    |d xs=>unfold lk at hlk;dsimp only at hlk;rw [AI hl,hq] at hlk;cases hlk
   ·split at P2
    ·rename_i k xs ex
     split at P2
     ·rename_i h0
      split at P2
      ·rename_i y ey
       unfold RV at r2
       subst r2
       have hx2:=e2.ix hx
       obtain ⟨x',o',h3,h2,vs,rfl,h4⟩:=S2.at_ n _ ex
       rw [hx2] at h3;cases h3
       obtain ⟨z,hz,rz⟩:=h4.get ey
       have hm:x∈b2.b:=As hx2
       have ew:Ext H2 b2 (upd H2 x (.lst (vs.eraseIdx k.toNat))) b2:=Ext.wr hm S2.zb (qGD h2)
       have hlt:=(AO.mp hz).1
       exact ⟨x,vs,k,k.toNat,z,rfl,rfl,h2,by omega,by omega,by rw [seqIndex_of h0.1 (by omega)],hz,P2 z _ b2 ew (S2.wr (x := .l (xs.eraseIdx k.toNat)) hx2 ⟨_,rfl,(RVs.ext ew xs h4).erase _⟩) (RV.ext ew y rz)⟩
      ·exact P2.elim
     ·exact P2.elim
    ·exact P2.elim
  |_=>exact P1.elim⟩
end
end EV
end
section
namespace EJ
open PySem PySem.Spec PyProof.Rows L2 PySem.W EX ET
section
variable {X:Cx} {e:Expr} {te:TE} {p p2 pos pos2:Pos}
def qGQ (K:W.Frag) (te:TE):TE:=fun σ H Q=>te σ H fun x H1 => ∃ (a:Addr) (vs:List Int) (c:Int),x = .ref a∧SqL K H1 a (vs.map V.int)∧0 < vs.length∧(∀ v∈vs,v=c)∧(0≤c∧c≤40)∧Q (.int 1) H1
theorem qDD (hc:X.calm=true) (hg:Gl X "len") (hm:X.mg "len" = none) (hg2:Gl X "set") (hm2:X.mg "set" = none) (he:PE X e te)
  (h1:starEach [.Call (.Name "set" p2) [e] [] pos2] X.env=(false,eval (.Call (.Name "set" p2) [e] [] pos2) X.env)::starEach [] X.env:=by rfl) (h2:starEach [e] X.env=(false,eval e X.env)::starEach [] X.env:=by rfl) :
  PE X (.Call (.Name "len" p) [.Call (.Name "set" p2) [e] [] pos2] [] pos) (qGQ X.K te):=by
 intro pins s σ H Q I h
 refine BI (WC I hg hm PyProof.Rows.Boot.«len» ?_ (by decide) (by decide))
 refine Bh ?_ h1 rfl
 rw [h1]
 show wpAny _ _ (spliced ((false,eval (.Call (.Name "set" p2) [e] [] pos2) X.env)::[])) _ _ s
 refine Bp ?_
 refine BI (WC I hg2 hm2 PyProof.Rows.Boot.«set» ?_ (by decide) (by decide))
 refine BH ?_ h2 rfl
 rw [h2]
 show wpAny _ _ (spliced ((false,eval e X.env)::[])) _ _ s
 refine Bp (thn (he pins s σ H _ I h) fun u s1 ⟨x,H1,I1,r1,q1⟩=>By ?_)
 obtain ⟨a,vs,c,rfl,hq,h0,hall,hb,q⟩:=q1
 cases r1
 obtain ⟨its,rv,ht,hz⟩:=I1.list hq
 have hh:X.A.handled=none:=I.ok.hd hc
 refine qBk hh ht.isList (J8 rv) h0 hall hb fun h' tk ns' S hp hk=>By ?_
 obtain ⟨o,es,ep,t,ho,hx,hd,hes,hm,T⟩:=S
 subst hp
 have hsz:es.size=1:=by rw [← AR,← AC (f:=(·.1)),hm];rfl
 have hfit:t.fits es.size=true:=by
  unfold SetTable.fits
  rw [Ay]
  have:=ZJ T.ris
  rw [AR] at this
  refine ⟨by rw [this,hsz];exact Aq _,AS ?_⟩
  unfold SetTable.fill
  rw [T.dum,T.mask,this]
  show 1 + 0≤7
  omega
 refine call_len_set (s:={ s1 with heap:=h',toks:=tk }) ho hx hd hfit (by omega) ?_
 exact ⟨.int 1,H1,(I1.kept (h':=h') (t':=tk + 1 + 1) fun b u hb=>hk b u (AK hb) hb),⟨tk + 1,by rw [hsz];rfl⟩,q⟩
end
end EJ
namespace EV
open PySem PySem.Spec PyProof.Rows L2 EX ET EJ
section
variable {X:Cx} {E:XK} {e a c:Expr} {f fa fb:FE} {p p2 pos pos2:Pos}
def yJ:PV->qC->Rs PV:=fun q st=>match asL st q with
 |some l=>match wC qBZ l with
  |some (n::ns)=>if (∀ v∈ns,v=n)∧0≤n∧n≤40 then .ok (.int 1) st else .no
  |_ => .no
 |none => .no
def zN (f:FE):FE:=fun r st=>(f r st).bind yJ
theorem JI (hc:X.calm=true) (hm:X.mg "len" = none) (hm2:X.mg "set" = none) (h:VE X E e f) (hg:Gl X "len" := by rfl) (hg2:Gl X "set" := by rfl)
  (h1:starEach [.Call (.Name "set" p2) [e] [] pos2] X.env=(false,eval (.Call (.Name "set" p2) [e] [] pos2) X.env)::starEach [] X.env:=by rfl) (h2:starEach [e] X.env=(false,eval e X.env)::starEach [] X.env:=by rfl) :
  VE X E (.Call (.Name "len" p) [.Call (.Name "set" p2) [e] [] pos2] [] pos) (zN f) :=
 PE.imp (qDD hc hg hm hg2 hm2 h h1 h2) fun s H Q ⟨b,r,st,S,R,P⟩=>⟨b,r,st,S,R,PostE.bind P fun q s1 u H1 b1 e1 S1 r1 P1=>by
  unfold yJ at P1
  split at P1
  ·rename_i l el
   split at P1
   ·rename_i n ns en
    split at P1
    ·rename_i hn
     obtain ⟨x,xs,rfl,h2,h3⟩:=Qj S1 r1 el
     rw [Zx h3 en] at h2
     refine ⟨x,n::ns,n,rfl,h2,Ca _,fun v hv => ?_,hn.2,PostE.here P1 S1 Q9⟩
     rcases AL.mp hv with z |z
     ·exact z
     ·exact hn.1 v z
    ·exact P1.elim
   ·exact P1.elim
  ·exact P1.elim⟩
def Zt (st:qC) (p:PV):PV:=match asL st p with
 |some l => .lst (l.map (res st))
 |none=>p
theorem qBN {K:W.Frag} {H:Hp} {b:Bz} {st:qC} (S:SR K H b st):∀ {l:List PV} {xs:List V},RVs K H b l xs->nrs (l.map (res st))=true->RWs K H (l.map (res st)) xs
 |[],xs,r,_=>by unfold RVs at r;subst r;unfold RWs;rfl
 |p::l,xs,r,h=>by
  unfold RVs at r
  obtain ⟨x,t,rfl,h2,h3⟩:=r
  rw [AU] at h ⊢
  unfold nrs at h
  rw [Ay] at h
  unfold RWs
  exact ⟨x,t,rfl,zY S h2 h.1,qBN S h3 h.2⟩
theorem qAp {K:W.Frag} {H:Hp} {b:Bz} {st:qC} {p:PV} {v:V} (S:SR K H b st) (r:RV K H b p v) (h:nr (Zt st p)=true):RW K H (Zt st p) v:=by
 unfold Zt at h ⊢
 cases e:asL st p with
 |none=>rw [e] at h;exact RV.rw p h r
 |some l =>
  rw [e] at h
  obtain ⟨a,xs,rfl,h2,h3⟩:=Qj S r e
  dsimp only at h ⊢
  unfold nr at h
  unfold RW
  exact ⟨a,xs,rfl,h2,qBN S h3 h⟩
def qBm:PV->PV->qC->Rs PV:=fun p q st=>if zC (Zt st p) (Zt st q)=true then .ok (.bl (peq (Zt st p) (Zt st q))) st else .no
theorem qHf:OpG X E (qCh X.K false) qBm:=by
 intro H b st p q u v Q S rp rq P
 unfold qBm at P
 split at P
 ·rename_i h
  obtain ⟨h1,h2,h3⟩:=ZD h
  exact ⟨_,_,qAp S rp h1,qAp S rq h2,h3,PostE.here P S WM⟩
 ·exact P.elim
theorem qGG (hr:X.A.units + 64 < cLine) (ha:VE X E a fa) (hb:VE X E c fb):VE X E (.Compare a [.Eq] [c] pos) (qG qBm fa fb):=yf (W0 hr) qHf ha hb
end
end EV
end
noncomputable section
namespace K15
open PySem PySem.Spec PyProof.Rows L2 EX EV
structure Ad where
 (Z1:Addr)
 (is_whole is_whole_within is_rising is_length need_length hues rests first_apart sums_of is_bar places_of cells_of is_within bars_of is_cell is_floor mirrored law_cell law_box law_take law_cover law_put law_floor law_sums_right law_right law:Addr)
def kitTab:List ((String×String)×Bool):=[(("NoneType","int"),false),(("NoneType","bool"),false),(("NoneType","tuple"),false),(("int","int"),true),(("int","bool"),false),(("int","tuple"),false),(("bool","int"),true),(("bool","bool"),true),(("bool","tuple"),false),(("str","int"),false),(("str","bool"),false),(("str","tuple"),false),(("tuple","int"),false),(("tuple","bool"),false),(("tuple","tuple"),true),(("list","int"),false),(("list","bool"),false),(("list","tuple"),false),(("dict","int"),false),(("dict","bool"),false),(("dict","tuple"),false)]
def qH7 (s T:String):Option Bool:=kitTab.lookup (s,T)
def qAU (a:Ad):Prop:=True
instance (a:Ad):Decidable (qAU a):=by unfold qAU;infer_instance
def kit (a:Ad):Value->Value->Option Bool
 | .type s,.type T=>qH7 s T
 |_,_=>none
def top (i:Nat):Stmt:=PySem.Challenge.pw_barfloors_k15_whole_rests_and_fillings.main.body.getD i (.Pass ⟨0,0,0,0⟩)
abbrev wU:Stmt:=top 7
abbrev QP:Stmt:=top 8
abbrev wJ:Stmt:=top 9
abbrev wM:Stmt:=top 10
abbrev Qw:Stmt:=top 11
abbrev zr:Stmt:=top 13
abbrev W2:Stmt:=top 14
abbrev Qy:Stmt:=top 15
abbrev w9:Stmt:=top 16
abbrev WI:Stmt:=top 21
abbrev Q0:Stmt:=top 22
abbrev wV:Stmt:=top 23
abbrev wL:Stmt:=top 24
abbrev wb:Stmt:=top 25
abbrev WA:Stmt:=top 29
abbrev we:Stmt:=top 30
abbrev wI:Stmt:=top 31
abbrev wf:Stmt:=top 33
abbrev w8:Stmt:=top 34
abbrev wX:Stmt:=top 35
abbrev Q3:Stmt:=top 36
abbrev wW:Stmt:=top 37
abbrev Q1:Stmt:=top 38
abbrev QW:Stmt:=top 39
abbrev Q2:Stmt:=top 40
abbrev zA:Stmt:=top 41
def YE (a:Ad):FS:=(qe (jL (qH (yL (kit a)) (qA (qB 0) (qA (vC (.ty "int")) qD))) (qHz (qH (yL (kit a)) (qA (qB 0) (qA (vC (.ty "bool")) qD))))))
def zz (a:Ad):List PV->qC->Rs PV:=QD 1 1 (YE a)
def wR (a:Ad):FS:=(qe (jL (qH (zz a) (qA (qB 0) qD)) (qDA gLe gLe (qB 1) (qB 0) (qB 2))))
def qo (a:Ad):List PV->qC->Rs PV:=QD 3 3 (wR a)
def Zl (a:Ad):FS:=(qe (qH yQ (qA (vFz (qh [0] 1 (Jo (qA (vC (.int 1)) (qA (qH wg (qA (qB 0) qD)) qD))) (qq 1) [] [] (qG qBs (qG gIx (qB 0) (qG WQ (qB 1) (vC (.int 1)))) (qG gIx (qB 0) (qB 1))))) qD)))
def wq (a:Ad):List PV->qC->Rs PV:=QD 1 1 (Zl a)
def zE (a:Ad):FS:=(qe (qH (qo a) (qA (qB 0) (qA (vC (.int 2)) (qA (vC (.int 5)) qD)))))
def WY (a:Ad):List PV->qC->Rs PV:=QD 1 1 (zE a)
def zj (a:Ad):FS:=(Qb (wQ (Qc (qH (WY a) (qA (qB 0) qD)))) qGd q8)
def Qx (a:Ad):List PV->qC->Rs PV:=QD 1 1 (zj a)
def qDU (a:Ad):FS:=(qS (WN (qH (Qx a) (qA (qB 1) qD))) (qS (WO 2 (y0 (wT (qA (vC (.int 0)) qD)) (qB 1))) (qS (wn (q9 (qB 0)) (Wl 2 (qz (QB 3) (qz (QB 4) Wy))) (zp (qB 2) (qG w4 (qG QE (qB 3) (qB 4)) (qB 1)) (vC (.int 1)))) (qe (qB 2)))))
def wG (a:Ad):List PV->qC->Rs PV:=QD 2 5 (qDU a)
def qBP (a:Ad):FS:=(qS (WN (qH (Qx a) (qA (qB 1) qD))) (qS (WO 2 (qh [1] 1 (QO (qA (qB 1) qD)) (qq 1) [] [] (vMk (y0 (wT (qA (vC (.int 0)) qD)) (qB 0))))) (qS (wn (q9 (qB 0)) (Wl 2 (qz (QB 3) (qz (QB 4) Wy))) (zp (qG gIx (qB 2) (qG w4 (qB 3) (qB 1))) (qG w4 (qB 4) (qB 1)) (vC (.int 1)))) (qe (qB 2)))))
def wP (a:Ad):List PV->qC->Rs PV:=QD 2 5 (qBP a)
def zk (a:Ad):FS:=(qS (ql 2 (qH (wP a) (qA (qB 0) (qA (qB 1) qD)))) (qS (wn (QO (qA (qB 1) qD)) (QB 3) (wn (QO (qA (qB 1) qD)) (QB 4) (qS (ql 5 (qG QE (qG gIx (qG gIx (qB 2) (qB 3)) (vC (.int 0))) (qG gIx (qG gIx (qB 2) (vC (.int 0))) (qB 4)))) (Qb (vTB (qG gNe (qG QE (qG gIx (qG gIx (qB 2) (qB 3)) (qB 4)) (qG gIx (qG gIx (qB 2) (vC (.int 0))) (vC (.int 0)))) (qB 5))) (qe (wa (qA (qB 3) (qA (qB 4) qD)))) q8)))) (qe (vC .non))))
def QU (a:Ad):List PV->qC->Rs PV:=QD 2 6 (zk a)
def Yj (a:Ad):FS:=(qS (Qb (vTB (qG (zf true) (qH (QU a) (qA (qB 0) (qA (qB 1) qD))) (vC .non))) (qe (vC .non)) q8) (qS (ql 2 (qH (wP a) (qA (qB 0) (qA (qB 1) qD)))) (qe (wa (qA (vFz (qh [] 1 (q9 (qB 2)) (qq 0) [] [] (qG gIx (qB 0) (vC (.int 0))))) (qA (vFz (qh [2] 1 (q9 (qG gIx (qB 2) (vC (.int 0)))) (qq 1) [] [] (qG WQ (qB 1) (qG gIx (qG gIx (qB 0) (vC (.int 0))) (vC (.int 0)))))) qD))))))
def Wi (a:Ad):List PV->qC->Rs PV:=QD 2 3 (Yj a)
def JY (a:Ad):FS:=(qS (Qb (Wz (wQ (Qc (qH (yL (kit a)) (qA (qB 0) (qA (vC (.ty "tuple")) qD))))) (vTB (qG gNe (qH wg (qA (qB 0) qD)) (vC (.int 3))))) (qe (vC (.bl false))) q8) (qS (YW (qB 0) (Wl 3 (qz (QB 1) (qz (QB 2) (qz (QB 3) Wy))))) (qS (Qb (Wz (wQ (Qc (qH (qo a) (qA (qB 1) (qA (qHZ (vC (.int 40))) (qA (vC (.int 40)) qD)))))) (wQ (Qc (qH (qo a) (qA (qB 2) (qA (qHZ (vC (.int 40))) (qA (vC (.int 40)) qD))))))) (qe (vC (.bl false))) q8) (qe (qH (qo a) (qA (qB 3) (qA (vC (.int 0)) (qA (vC (.int 1)) qD))))))))
def yI (a:Ad):List PV->qC->Rs PV:=QD 1 4 (JY a)
def zI (a:Ad):FS:=(qS (YW (qB 0) (Wl 3 (qz (QB 2) (qz (QB 3) (qz (QB 4) Wy))))) (qS (Qb (vTB (qG gEq (qB 4) (vC (.int 0)))) (qe (qH wF (qA (vFz (qh [2,3] 1 (QO (qA (qB 1) qD)) (qq 2) [] [] (wa (qA (qB 0) (qA (qG QE (qB 1) (qB 2)) qD))))) qD))) q8) (qe (qH wF (qA (vFz (qh [3,2] 1 (QO (qA (qB 1) qD)) (qq 2) [] [] (wa (qA (qG QE (qB 1) (qB 2)) (qA (qB 0) qD))))) qD)))))
def wt (a:Ad):List PV->qC->Rs PV:=QD 2 5 (zI a)
def yK (a:Ad):FS:=(qS (Qb (wQ (Qc (qH (yI a) (qA (qB 0) qD)))) qGd q8) (qS (WN (qH (Qx a) (qA (qB 1) qD))) (qe (qH (wt a) (qA (qB 0) (qA (qB 1) qD))))))
def W1 (a:Ad):List PV->qC->Rs PV:=QD 2 2 (yK a)
def Zo (a:Ad):FS:=(qe (qH yQ (qA (vFz (qh [0] 1 (q9 (qH (wt a) (qA (qB 1) (qA (qB 2) qD)))) (qq 1) [] [] (qG (gIn false) (qB 1) (qB 0)))) qD)))
def WR (a:Ad):List PV->qC->Rs PV:=QD 3 3 (Zo a)
def Ym (a:Ad):FS:=(qS (WN (qH (Qx a) (qA (qB 1) qD))) (qS (ql 2 (vFz (qh [] 3 (q9 (qB 0)) (Wl 2 (qz (qq 0) (qz (qq 1) Wy))) [] [⟨(q9 (wa (qA (vC (.int 0)) (qA (vC (.int 1)) qD)))),(qq 2),[]⟩] (wa (qA (qB 0) (qA (qB 1) (qA (qB 2) qD))))))) (qe (vFz (qh [0,1] 1 (q9 (qB 2)) (qq 2) [(Qc (qH (WR a) (qA (qB 0) (qA (qB 2) (qA (qB 1) qD)))))] [] (qB 2))))))
def za (a:Ad):List PV->qC->Rs PV:=QD 2 3 (Ym a)
def Y2 (a:Ad):FS:=(qS (Qb (Wz (wQ (Qc (qH (yL (kit a)) (qA (qB 0) (qA (vC (.ty "tuple")) qD))))) (vTB (qG gNe (qH wg (qA (qB 0) qD)) (vC (.int 2))))) (qe (vC (.bl false))) q8) (qe (qH yQ (qA (vFz (qh [] 1 (q9 (qB 0)) (qq 0) [] [] (qH (qo a) (qA (qB 0) (qA (vC (.int 0)) (qA (vC (.int 7)) qD)))))) qD))))
def WB (a:Ad):List PV->qC->Rs PV:=QD 1 1 (Y2 a)
def yo (a:Ad):FS:=(qS (Qb (Wz (wQ (Qc (qH (yL (kit a)) (qA (qB 0) (qA (vC (.ty "tuple")) qD))))) (vTB (qG gGt (qH wg (qA (qB 0) qD)) (vC (.int 40))))) (qe (vC (.bl false))) q8) (qe (jL (qH yQ (qA (vFz (qh [] 1 (q9 (qB 0)) (qq 0) [] [] (qH (WB a) (qA (qB 0) qD)))) qD)) (qH (wq a) (qA (qB 0) qD)))))
def WJ (a:Ad):List PV->qC->Rs PV:=QD 1 1 (yo a)
def YA (a:Ad):FS:=(qe (qH wF (qA (ZU (vFz (qh [] 2 (q9 (qB 0)) (Wl 2 (qz (qq 0) (qz (qq 1) Wy))) [] [] (wa (qA (qB 1) (qA (qB 0) qD)))))) qD)))
def zl (a:Ad):List PV->qC->Rs PV:=QD 1 1 (YA a)
def Wr (a:Ad):FS:=(qS (Qb (vTB (qG gLt (qB 1) (qH wg (qA (qB 0) qD)))) (qe (qG gIx (qB 0) (qB 1))) q8) (qe (qG QE (qG zL (vC (.int 6151)) (qB 1)) (vC (.int 29)))))
def Ww (a:Ad):List PV->qC->Rs PV:=QD 2 2 (Wr a)
def zd (a:Ad):FS:=(qS (ql 2 (qH (Ww a) (qA (qB 0) (qA (qB 1) qD)))) (qS (Qb (vTB (qG gEq (qG w4 (qB 2) (vC (.int 2))) (vC (.int 0)))) (yR (wT (qA (qG qFC (qB 2) (vC (.int 2))) qD))) q8) (qS (ql 3 (vC (.int 0))) (qS (ql 4 (qG w4 (qB 2) (vC (.int 2147483647)))) (qS (wn (QO (qA (vC (.int 24)) qD)) (QB 5) (qS (ql 4 (qG w4 (qG QE (qG QE (qG QE (qG zL (qB 4) (vC (.int 48271))) (qG zL (qG zL (vC (.int 7)) (qB 5)) (qB 5))) (qG zL (vC (.int 11)) (qB 1))) (vC (.int 1))) (vC (.int 2147483647)))) (ql 3 (qG QE (qG zL (qB 3) (vC (.int 2147483647))) (qB 4))))) (yR (wT (qA (qB 3) qD))))))))
def zc (a:Ad):List PV->qC->Rs PV:=QD 2 6 (zd a)
def zy (a:Ad):FS:=(qS (ql 2 (qG w4 (qG gIx (qB 0) (vC (.int 0))) (qB 1))) (qS (qEB (qB 0) (vC (.int 0)) (qG qBL (qG gIx (qB 0) (vC (.int 0))) (qB 1))) (qe (qB 2))))
def qT (a:Ad):List PV->qC->Rs PV:=QD 2 3 (zy a)
def zH (a:Ad):FS:=(qS (YW (qB 0) (Wl 3 (qz (QB 2) (qz (QB 3) (qz (QB 4) Wy))))) (qS (Qb (vTB (qG gEq (qB 4) (vC (.int 0)))) (qe (vFz (qh [2,3] 1 (QO (qA (qB 1) qD)) (qq 2) [] [] (wa (qA (qB 0) (qA (qG QE (qB 1) (qB 2)) qD)))))) q8) (qe (vFz (qh [3,2] 1 (QO (qA (qB 1) qD)) (qq 2) [] [] (wa (qA (qG QE (qB 1) (qB 2)) (qA (qB 0) qD))))))))
def WS (a:Ad):List PV->qC->Rs PV:=QD 2 5 (zH a)
def ZP (a:Ad):FS:=(qS (WO 2 (wT qD)) (qS (wn (QO (qA (qG QE (vC (.int 1)) (qH (qT a) (qA (qB 0) (qA (vC (.int 8)) qD)))) qD)) (QB 3) (qS (ql 4 (qH (qT a) (qA (qB 0) (qA (vC (.int 2)) qD)))) (qS (Zj 5 6 (qA (qH (qT a) (qA (qB 0) (qA (qG WQ (vC (.int 9)) (qG gIx (vFz (wT (qA (vC (.int 1)) (qA (qB 1) qD)))) (qB 4))) qD))) (qA (qH (qT a) (qA (qB 0) (qA (qG WQ (vC (.int 9)) (qG gIx (vFz (wT (qA (qB 1) (qA (vC (.int 1)) qD)))) (qB 4))) qD))) qD))) (qS (ql 7 (qH (WS a) (qA (wa (qA (qB 5) (qA (qB 6) (qA (qB 4) qD)))) (qA (qB 1) qD)))) (Qb (zB (vTB (qG gEq (vFz (qh [2] 1 (q9 (qB 7)) (qq 1) [(vTB (qG (gIn false) (qB 1) (qB 0)))] [] (qB 1))) (vFz (wT qD)))) (vTB (qG gLe (qG QE (qH wg (qA (qB 2) qD)) (qB 1)) (vC (.int 40))))) (WO 2 (yE (qB 2) (qB 7))) q8))))) (qe (qB 2))))
def Wp (a:Ad):List PV->qC->Rs PV:=QD 2 8 (ZP a)
def wo (a:Ad):FS:=(qS (ql 2 (qH (qT a) (qA (qB 0) (qA (vC (.int 6)) qD)))) (qS (Zj 3 4 (qA (qG QE (vC (.int 1)) (qH (qT a) (qA (qB 0) (qA (vC (.int 8)) qD)))) (qA (qG QE (vC (.int 1)) (qH (qT a) (qA (qB 0) (qA (vC (.int 8)) qD)))) qD))) (qS (Qb (vTB (qG gGt (qB 2) (vC (.int 2)))) (qS (ql 5 (qH (Wp a) (qA (qB 0) (qA (qB 1) qD)))) (qS (Qb (vTB (qG gEq (qB 2) (vC (.int 5)))) (qS (WN (yd (qB 5) (qH (qT a) (qA (qB 0) (qA (qH wg (qA (qB 5) qD)) qD))))) (ql 5 (vFz (yE (qB 5) (vFz (qh [0] 1 (QO (qA (qH (qT a) (qA (qB 0) (qA (vC (.int 2)) qD))) qD)) (qq 1) [] [] (wa (qA (qH (qT a) (qA (qB 0) (qA (vC (.int 8)) qD))) (qA (qH (qT a) (qA (qB 0) (qA (vC (.int 8)) qD))) qD))))))))) q8) (qe (qH wF (qA (ja (qB 5)) qD))))) q8) (qS (ql 5 (vFz (wT qD))) (qS (wn (QO (qA (qB 3) qD)) (QB 6) (ql 5 (vFz (yE (qB 5) (vFz (qh [6,2,0] 1 (QO (qA (qB 4) qD)) (qq 3) [(Wz (vTB (qG gEq (qB 1) (vC (.int 1)))) (vTB (qG gNe (qH (qT a) (qA (qB 2) (qA (qG gIx (vFz (wT (qA (vC (.int 4)) (qA (vC (.int 1)) (qA (vC (.int 9)) qD))))) (qB 1)) qD))) (vC (.int 1)))))] [] (wa (qA (qB 0) (qA (qB 3) qD))))))))) (qe (qH wF (qA (vIf (vTB (qG gLt (qB 2) (vC (.int 2)))) (qAB (qB 5) yY (zK (vC (.int 40)))) (qAB (qB 5) yY (zK (qH (qT a) (qA (qB 0) (qA (vC (.int 8)) qD)))))) qD))))))))
def wp (a:Ad):List PV->qC->Rs PV:=QD 2 7 (wo a)
def Wm (a:Ad):FS:=(qS (ql 3 (qH (wP a) (qA (qB 0) (qA (qB 1) qD)))) (qS (wn (QO (qA (qB 1) qD)) (QB 4) (wn (QO (qA (qB 1) qD)) (QB 5) (Qb (vTB (qG gNe (qG gIx (qG gIx (qB 3) (qB 4)) (qB 5)) (qG QE (qG gIx (qG gIx (qB 2) (vC (.int 0))) (qB 4)) (qG gIx (qG gIx (qB 2) (vC (.int 1))) (qB 5))))) (qe (vC (.bl false))) q8))) (qe (jL (qG gEq (qG gIx (qG gIx (qB 2) (vC (.int 1))) (vC (.int 0))) (vC (.int 0))) (jL (qG gEq (qH wg (qA (qG gIx (qB 2) (vC (.int 0))) qD)) (qB 1)) (qG gEq (qH wg (qA (qG gIx (qB 2) (vC (.int 1))) qD)) (qB 1)))))))
def Q7 (a:Ad):List PV->qC->Rs PV:=QD 3 6 (Wm a)
def Zp (a:Ad):FS:=(qS (ql 2 (qH (wP a) (qA (qB 0) (qA (qB 1) qD)))) (qS (ql 3 (qH (wG a) (qA (qB 0) (qA (qB 1) qD)))) (qS (wn (QO (qA (qB 1) qD)) (QB 4) (Qb (vTB (qG gNe (qG gIx (qB 3) (qB 4)) (qH Zv (qA (vFz (qh [2,1,4] 1 (QO (qA (qB 1) qD)) (qq 3) [] [] (qG gIx (qG gIx (qB 0) (qB 3)) (qG w4 (qG WQ (qB 2) (qB 3)) (qB 1))))) qD)))) (qe (vC (.bl false))) q8)) (qS (Zj 5 6 (qA (qH (Wi a) (qA (qB 0) (qA (qB 1) qD))) (qA (qH (QU a) (qA (qB 0) (qA (qB 1) qD))) qD))) (qS (Qb (Wz (vTB (qG gEq (qG (zf false) (qB 5) (vC .non)) (qG (zf false) (qB 6) (vC .non)))) (vTB (qG gNe (qH Zv (qA (qB 3) qD)) (qH wg (qA (qB 0) qD))))) (qe (vC (.bl false))) q8) (qS (Qb (zB (vTB (qG (zf true) (qB 5) (vC .non))) (wQ (Qc (qH (Q7 a) (qA (qB 0) (qA (qB 1) (qA (qB 5) qD))))))) (qe (vC (.bl false))) q8) (qS (Qb (zB (vTB (qG (zf true) (qB 5) (vC .non))) (vTB (qG gNe (zN (qB 3)) (vC (.int 1))))) (qe (vC (.bl false))) q8) (qS (ql 7 (qH (wP a) (qA (qH (zl a) (qA (qB 0) qD)) (qA (qB 1) qD)))) (qe (qG qBm (qB 7) (vFz (qh [2,1] 1 (QO (qA (qB 1) qD)) (qq 2) [] [] (vFz (qh [2,0] 1 (QO (qA (qB 1) qD)) (qq 2) [] [] (qG gIx (qG gIx (qB 1) (qB 2)) (qB 0))))))))))))))))
def wK (a:Ad):List PV->qC->Rs PV:=QD 2 8 (Zp a)
def qGA (a:Ad):FS:=(qS (wn (QO (qA (qH qDm (qA (vC (.int 1)) (qA (qH qDw (qA (qH wg (qA (qB 0) qD)) (qA (vC (.int 5)) qD))) qD))) qD)) (QB 1) (qS (ql 2 (qH (zc a) (qA (qB 0) (qA (qB 1) qD)))) (qS (ql 3 (qG QE (vC (.int 2)) (qH (qT a) (qA (qB 2) (qA (vC (.int 4)) qD))))) (qS (ql 4 (qH (wp a) (qA (qB 2) (qA (qB 3) qD)))) (qS (ql 5 (qH wF (qA (ZU (qH (Wp a) (qA (qB 2) (qA (qB 3) qD)))) qD))) (qS (Qb (Wz (wQ (Qc (qH (wK a) (qA (qB 4) (qA (qB 3) qD))))) (wQ (Qc (qH (wK a) (qA (qB 5) (qA (qB 3) qD)))))) (qe (vC (.bl false))) q8) (qS (Qb (Wz (vTB (qG (zf false) (qH (Wi a) (qA (qB 5) (qA (qB 3) qD))) (vC .non))) (Wz (vTB (qG gNe (zN (qH (wG a) (qA (qB 5) (qA (qB 3) qD)))) (vC (.int 1)))) (wQ (Qc (qH (WJ a) (qA (qB 5) qD)))))) (qe (vC (.bl false))) q8) (qS (ql 6 (qH (za a) (qA (qB 4) (qA (qB 3) qD)))) (Qb (vTB (qG gNe (qB 6) (vFz (wT qD)))) (qS (ql 7 (qH (W1 a) (qA (qG gIx (qB 6) (qH (qT a) (qA (qB 2) (qA (qH wg (qA (qB 6) qD)) qD)))) (qA (qB 3) qD)))) (qS (ql 8 (qH wF (qA (vFz (qh [7] 1 (q9 (qB 4)) (qq 1) [(vTB (qG (gIn true) (qB 1) (qB 0)))] [] (qB 1))) qD))) (qS (Qb (vTB (qG gNe (qH (QU a) (qA (qB 8) (qA (qB 3) qD))) (qH (QU a) (qA (qB 4) (qA (qB 3) qD))))) (qe (vC (.bl false))) q8) (qS (ql 9 (vFz (qh [] 2 (zn (qA (qH (wG a) (qA (qB 4) (qA (qB 3) qD))) (qA (qH (wG a) (qA (qB 8) (qA (qB 3) qD))) qD))) (Wl 2 (qz (qq 0) (qz (qq 1) Wy))) [] [] (qG WQ (qB 0) (qB 1))))) (Qb (vTB (qG gNe (qB 9) (vFz (y0 (wT (qA (vC (.int 1)) qD)) (qB 3))))) (qe (vC (.bl false))) q8))))) q8))))))))) (qe (vC (.bl true))))
def JH (a:Ad):List PV->qC->Rs PV:=QD 1 10 (qGA a)
structure Env (K:W.Frag) (mg:Str->Option Value) (a:Ad):Prop where
 kit:KitOk K (kit a)
 n_all:mg "all" = none
 n_bool:mg "bool" = none
 n_int:mg "int" = none
 n_isinstance:mg "isinstance" = none
 n_len:mg "len" = none
 n_max:mg "max" = none
 n_min:mg "min" = none
 n_range:mg "range" = none
 n_set:mg "set" = none
 n_sorted:mg "sorted" = none
 n_sum:mg "sum" = none
 n_tuple:mg "tuple" = none
 n_zip:mg "zip" = none
 c_LEAST_LENGTH:∃ t,mg "LEAST_LENGTH" = some (.int 2 t)
 c_MOST_LENGTH:∃ t,mg "MOST_LENGTH" = some (.int 5 t)
 c_MOST_CELLS:∃ t,mg "MOST_CELLS" = some (.int 40 t)
 c_LAST_LINE:∃ t,mg "LAST_LINE" = some (.int 7 t)
 c_FURTHEST:∃ t,mg "FURTHEST" = some (.int 40 t)
 c_ACROSS:∃ t,mg "ACROSS" = some (.int 0 t)
 c_DOWN:∃ t,mg "DOWN" = some (.int 1 t)
 k_Z1:mg "NoLength" = some (.ref a.Z1)
 m_is_whole:mg "is_whole" = some (.ref a.is_whole)
 f_is_whole:∃ fd,Fun K "is_whole" "is_whole" wU a.is_whole fd
 m_is_whole_within:mg "is_whole_within" = some (.ref a.is_whole_within)
 f_is_whole_within:∃ fd,Fun K "is_whole_within" "is_whole_within" QP a.is_whole_within fd
 m_is_rising:mg "is_rising" = some (.ref a.is_rising)
 f_is_rising:∃ fd,Fun K "is_rising" "is_rising" wJ a.is_rising fd
 m_is_length:mg "is_length" = some (.ref a.is_length)
 f_is_length:∃ fd,Fun K "is_length" "is_length" wM a.is_length fd
 m_need_length:mg "need_length" = some (.ref a.need_length)
 f_need_length:∃ fd,Fun K "need_length" "need_length" Qw a.need_length fd
 m_hues:mg "hues" = some (.ref a.hues)
 f_hues:∃ fd,Fun K "hues" "hues" zr a.hues fd
 m_rests:mg "rests" = some (.ref a.rests)
 f_rests:∃ fd,Fun K "rests" "rests" W2 a.rests fd
 m_first_apart:mg "first_apart" = some (.ref a.first_apart)
 f_first_apart:∃ fd,Fun K "first_apart" "first_apart" Qy a.first_apart fd
 m_sums_of:mg "sums_of" = some (.ref a.sums_of)
 f_sums_of:∃ fd,Fun K "sums_of" "sums_of" w9 a.sums_of fd
 m_is_bar:mg "is_bar" = some (.ref a.is_bar)
 f_is_bar:∃ fd,Fun K "is_bar" "is_bar" WI a.is_bar fd
 m_places_of:mg "places_of" = some (.ref a.places_of)
 f_places_of:∃ fd,Fun K "places_of" "places_of" Q0 a.places_of fd
 m_cells_of:mg "cells_of" = some (.ref a.cells_of)
 f_cells_of:∃ fd,Fun K "cells_of" "cells_of" wV a.cells_of fd
 m_is_within:mg "is_within" = some (.ref a.is_within)
 f_is_within:∃ fd,Fun K "is_within" "is_within" wL a.is_within fd
 m_bars_of:mg "bars_of" = some (.ref a.bars_of)
 f_bars_of:∃ fd,Fun K "bars_of" "bars_of" wb a.bars_of fd
 m_is_cell:mg "is_cell" = some (.ref a.is_cell)
 f_is_cell:∃ fd,Fun K "is_cell" "is_cell" WA a.is_cell fd
 m_is_floor:mg "is_floor" = some (.ref a.is_floor)
 f_is_floor:∃ fd,Fun K "is_floor" "is_floor" we a.is_floor fd
 m_mirrored:mg "mirrored" = some (.ref a.mirrored)
 f_mirrored:∃ fd,Fun K "mirrored" "mirrored" wI a.mirrored fd
 m_law_cell:mg "_law_cell" = some (.ref a.law_cell)
 f_law_cell:∃ fd,Fun K "_law_cell" "_law_cell" wf a.law_cell fd
 m_law_box:mg "_law_box" = some (.ref a.law_box)
 f_law_box:∃ fd,Fun K "_law_box" "_law_box" w8 a.law_box fd
 m_law_take:mg "_law_take" = some (.ref a.law_take)
 f_law_take:∃ fd,Fun K "_law_take" "_law_take" wX a.law_take fd
 m_law_cover:mg "_law_cover" = some (.ref a.law_cover)
 f_law_cover:∃ fd,Fun K "_law_cover" "_law_cover" Q3 a.law_cover fd
 m_law_put:mg "_law_put" = some (.ref a.law_put)
 f_law_put:∃ fd,Fun K "_law_put" "_law_put" wW a.law_put fd
 m_law_floor:mg "_law_floor" = some (.ref a.law_floor)
 f_law_floor:∃ fd,Fun K "_law_floor" "_law_floor" Q1 a.law_floor fd
 m_law_sums_right:mg "_law_sums_right" = some (.ref a.law_sums_right)
 f_law_sums_right:∃ fd,Fun K "_law_sums_right" "_law_sums_right" QW a.law_sums_right fd
 m_law_right:mg "_law_right" = some (.ref a.law_right)
 f_law_right:∃ fd,Fun K "_law_right" "_law_right" Q2 a.law_right fd
 m_law:mg "law" = some (.ref a.law)
 f_law:∃ fd,Fun K "law" "law" zA a.law fd
section
variable {P:Program} {w:World} {K:W.Frag} {mg:Str->Option Value} {base:Heap} {a:Ad}
theorem JQ:FnScope ["thing"] ["thing"] (qI wU):=⟨rfl,rfl,rfl,by decide +kernel,rfl,by decide +kernel,by decide +kernel⟩
theorem J3 (V:Env K mg a):DefG P w K mg base 2 "is_whole" a.is_whole 1 (zz a):=by
 obtain ⟨fd,F⟩:=V.f_is_whole
 refine Qt (B:=YE a) F JQ (F.binds (ps:=["thing"]) fun _ _ _ _ _ _ us hl=>match us,hl with |[_],_=>rfl) V.m_is_whole (fun l st h=>qc h) (fun cdv A outer s H E hr hcm => ?_) (fun l s0 hl hn=>qZ hl)
 have hu:=hr.units
 exact (@qO _ _ _ _ (@qd _ _ _ _ _ (@yO _ _ _ _ _ _ _ _ (@YB _ _ _ _ _ _ _ _ V.kit V.n_isinstance (@qP _ _ _ _ _ _ _ (@qF _ _ 0 _ _ (by rfl) (by rfl) (by rfl)) (@qP _ _ _ _ _ _ _ (@jk _ _ _ _ _ rfl V.n_int Boot.«int» (by decide) (by decide)) qE)) (by rfl) (by rfl) (by rfl)) (@jQ _ _ _ _ _ _ (@qGt _ _ _ _ _ (@YB _ _ _ _ _ _ _ _ V.kit V.n_isinstance (@qP _ _ _ _ _ _ _ (@qF _ _ 0 _ _ (by rfl) (by rfl) (by rfl)) (@qP _ _ _ _ _ _ _ (@jk _ _ _ _ _ rfl V.n_bool Boot.«bool» (by decide) (by decide)) qE)) (by rfl) (by rfl) (by rfl)))))))
theorem zw:FnScope ["thing","least","most"] ["thing","least","most"] (qI QP):=⟨rfl,rfl,rfl,by decide +kernel,rfl,by decide +kernel,by decide +kernel⟩
theorem Qf (V:Env K mg a):DefG P w K mg base 3 "is_whole_within" a.is_whole_within 3 (qo a):=by
 obtain ⟨fd,F⟩:=V.f_is_whole_within
 refine Qt (B:=wR a) F zw (F.binds (ps:=["thing","least","most"]) fun _ _ _ _ _ _ us hl=>match us,hl with |[_,_,_],_=>rfl) V.m_is_whole_within (fun l st h=>qc h) (fun cdv A outer s H E hr hcm => ?_) (fun l s0 hl hn=>qZ hl)
 have hu:=hr.units
 exact (@qO _ _ _ _ (@qd _ _ _ _ _ (@yO _ _ _ _ _ _ _ _ (@qQ _ _ _ _ _ _ _ _ _ ((J3 V).call (hr.mono (by omega)) qW) (@qP _ _ _ _ _ _ _ (@qF _ _ 0 _ _ (by rfl) (by rfl) (by rfl)) qE) (by rfl) (by rfl)) (@jQ _ _ _ _ _ _ (@qDV _ _ _ _ _ _ _ _ _ _ _ _ _ _ _ qDX qDX qCR qCR (@qF _ _ 1 _ _ (by rfl) (by rfl) (by rfl)) (@qF _ _ 0 _ _ (by rfl) (by rfl) (by rfl)) (@qF _ _ 2 _ _ (by rfl) (by rfl) (by rfl)) (by with_unfolding_all rfl))))))
theorem jR:FnScope ["things"] ["things"] (qI wJ):=⟨rfl,rfl,rfl,by decide +kernel,rfl,by decide +kernel,by decide +kernel⟩
theorem JV (V:Env K mg a):DefG P w K mg base 2 "is_rising" a.is_rising 1 (wq a):=by
 obtain ⟨fd,F⟩:=V.f_is_rising
 refine Qt (B:=Zl a) F jR (F.binds (ps:=["things"]) fun _ _ _ _ _ _ us hl=>match us,hl with |[_],_=>rfl) V.m_is_rising (fun l st h=>qc h) (fun cdv A outer s H E hr hcm => ?_) (fun l s0 hl hn=>qZ hl)
 have hu:=hr.units
 exact (@qO _ _ _ _ (@qd _ _ _ _ _ (@jD _ _ _ _ _ _ _ (@YH _ _ _ _ _ _ _ _ _ (@Qi _ _ _ _ (@QT _ _ _ _ _ _ _ (["things"]) (["at"]) ([0]) _ _ _ _ _ (by exact Qd rfl (by decide +kernel) rfl rfl ⟨⟨rfl,rfl⟩,trivial⟩) (@qB0 _ _ _ _ _ _ _ _ rfl V.n_range (@WK _ _ _ _ _ _ _ _ qR (@Wv _ _ _ _ _ _ _ _ _ (@wD _ _ _ _ _ _ _ (@qP _ _ _ _ _ _ _ (@qF _ _ 0 _ _ (by rfl) (by rfl) (by rfl)) qE) V.n_len (by rfl) (by rfl) (by rfl)) qE)) (by rfl) (by rfl)) (fun s' H' fp pn=>⟨(@qGi _ _ _ _ _ _ _ hu (@QH _ _ _ _ _ _ _ (@qF _ _ 0 _ _ (by rfl) (by rfl) (by rfl)) (@ZS _ _ _ _ _ _ _ (@qF _ _ 1 _ _ (by rfl) (by rfl) (by rfl)) qR) (by exact fun _ _=>rfl)) (@QH _ _ _ _ _ _ _ (@qF _ _ 0 _ _ (by rfl) (by rfl) (by rfl)) (@qF _ _ 1 _ _ (by rfl) (by rfl) (by rfl)) (by exact fun _ _=>rfl))),⟨(@QN _ _ 1 _ (show (["things","at"]:List Str).Nodup by decide +kernel) (by rfl) (by first |exact Or.inl rfl |exact Or.inr rfl) (by first |exact .inl rfl |exact .inr rfl |assumption)),(qa 1),TsOk.nil,rfl⟩,GsOk.nil⟩) (by intro _;rfl))) qE) V.n_all (by rfl) (by rfl) (by rfl))))
theorem jH:FnScope ["thing"] ["thing"] (qI wM):=⟨rfl,rfl,rfl,by decide +kernel,rfl,by decide +kernel,by decide +kernel⟩
theorem JX (V:Env K mg a):DefG P w K mg base 4 "is_length" a.is_length 1 (WY a):=by
 obtain ⟨fd,F⟩:=V.f_is_length
 obtain ⟨_,c_LEAST_LENGTH⟩:=V.c_LEAST_LENGTH
 obtain ⟨_,c_MOST_LENGTH⟩:=V.c_MOST_LENGTH
 refine Qt (B:=zE a) F jH (F.binds (ps:=["thing"]) fun _ _ _ _ _ _ us hl=>match us,hl with |[_],_=>rfl) V.m_is_length (fun l st h=>qc h) (fun cdv A outer s H E hr hcm => ?_) (fun l s0 hl hn=>qZ hl)
 have hu:=hr.units
 exact (@qO _ _ _ _ (@qd _ _ _ _ _ (@qQ _ _ _ _ _ _ _ _ _ ((Qf V).call (hr.mono (by omega)) qW) (@qP _ _ _ _ _ _ _ (@qF _ _ 0 _ _ (by rfl) (by rfl) (by rfl)) (@qP _ _ _ _ _ _ _ (@Q5 _ _ _ _ _ _ rfl c_LEAST_LENGTH (by decide)) (@qP _ _ _ _ _ _ _ (@Q5 _ _ _ _ _ _ rfl c_MOST_LENGTH (by decide)) qE))) (by rfl) (by rfl))))
theorem ym:FnScope ["thing"] ["thing"] (qI Qw):=⟨rfl,rfl,rfl,by decide +kernel,rfl,by decide +kernel,by decide +kernel⟩
theorem wl (V:Env K mg a):DefG P w K mg base 5 "need_length" a.need_length 1 (Qx a):=by
 obtain ⟨fd,F⟩:=V.f_need_length
 refine Qt (B:=zj a) F ym (F.binds (ps:=["thing"]) fun _ _ _ _ _ _ us hl=>match us,hl with |[_],_=>rfl) V.m_need_length (fun l st h=>qc h) (fun cdv A outer s H E hr hcm => ?_) (fun l s0 hl hn=>qZ hl)
 have hu:=hr.units
 exact (@qO _ _ _ _ (@Qs _ _ _ _ _ _ _ _ _ (@WH _ _ _ _ _ (@ww _ _ _ _ (@qQ _ _ _ _ _ _ _ _ _ ((JX V).call (hr.mono (by omega)) qW) (@qP _ _ _ _ _ _ _ (@qF _ _ 0 _ _ (by rfl) (by rfl) (by rfl)) qE) (by rfl) (by rfl)) (by intro _;rfl))) (@qO _ _ _ _ qF7) qv))
theorem sc_hues:FnScope ["floor","length","told","row","column"] ["floor","length"] (qI zr):=⟨rfl,rfl,rfl,by decide +kernel,rfl,by decide +kernel,by decide +kernel⟩
theorem jU (V:Env K mg a):DefG P w K mg base 6 "hues" a.hues 2 (wG a):=by
 obtain ⟨fd,F⟩:=V.f_hues
 refine Qt (B:=qDU a) F sc_hues (F.binds (ps:=["floor","length"]) fun _ _ _ _ _ _ us hl=>match us,hl with |[_,_],_=>rfl) V.m_hues (fun l st h=>qc h) (fun cdv A outer s H E hr hcm => ?_) (fun l s0 hl hn=>qZ hl)
 have hu:=hr.units
 have hc:(Wd (CXF P w) P w K mg base ["floor","length","told","row","column"] "hues" (qI zr) a.hues cdv A outer s H E).calm=true:=by show A.handled.isNone=true;rw [hcm (by omega)];rfl
 exact (@qJ _ _ _ _ _ _ (@ZA _ _ _ _ _ (@qQ _ _ _ _ _ _ _ _ _ ((wl V).call (hr.mono (by omega)) qW) (@qP _ _ _ _ _ _ _ (@qF _ _ 1 _ _ (by rfl) (by rfl) (by rfl)) qE) (by rfl) (by rfl)) (by rfl)) (@qJ _ _ _ _ _ _ (@Y9 _ _ _ _ 2 _ _ _ sc_hues.nd (@J9 _ _ _ _ _ _ _ (@wz _ _ _ _ _ (@WK _ _ _ _ _ _ _ _ qR qE)) (@qF _ _ 1 _ _ (by rfl) (by rfl) (by rfl))) (by rfl) (by first |exact Or.inl rfl |exact Or.inr rfl) (by rfl) (by first |exact .inl rfl |exact .inr rfl |assumption)) (@qJ _ _ _ _ _ _ (@WL _ _ _ _ _ _ _ _ _ (@wY _ _ _ _ _ (@qF _ _ 0 _ _ (by rfl) (by rfl) (by rfl))) (@zX _ _ _ _ _ _ hc (@qy _ _ _ _ _ (@q0 _ _ 3 _ sc_hues.nd (by rfl) (by first |exact Or.inl rfl |exact Or.inr rfl) (by first |exact .inl rfl |exact .inr rfl |assumption)) (@qy _ _ _ _ _ (@q0 _ _ 4 _ sc_hues.nd (by rfl) (by first |exact Or.inl rfl |exact Or.inr rfl) (by first |exact .inl rfl |exact .inr rfl |assumption)) WV (by rfl)) (by rfl)) (by rfl) (by rfl)) (@qO _ _ _ _ (@qAq _ _ _ _ _ _ _ _ _ _ (@qF _ _ 2 _ _ (by rfl) (by rfl) (by rfl)) (@zU _ _ _ _ _ _ _ (@QX _ _ _ _ _ _ _ (@qF _ _ 3 _ _ (by rfl) (by rfl) (by rfl)) (@qF _ _ 4 _ _ (by rfl) (by rfl) (by rfl))) (@qF _ _ 1 _ _ (by rfl) (by rfl) (by rfl))) qR (by intros;rfl))) (by intro _;rfl)) (@qO _ _ _ _ (@qd _ _ _ _ _ (@qF _ _ 2 _ _ (by rfl) (by rfl) (by rfl)))))))
theorem sc_rests:FnScope ["floor","length","told","row","column"] ["floor","length"] (qI W2):=⟨rfl,rfl,rfl,by decide +kernel,rfl,by decide +kernel,by decide +kernel⟩
theorem ZH (V:Env K mg a):DefG P w K mg base 6 "rests" a.rests 2 (wP a):=by
 obtain ⟨fd,F⟩:=V.f_rests
 refine Qt (B:=qBP a) F sc_rests (F.binds (ps:=["floor","length"]) fun _ _ _ _ _ _ us hl=>match us,hl with |[_,_],_=>rfl) V.m_rests (fun l st h=>qc h) (fun cdv A outer s H E hr hcm => ?_) (fun l s0 hl hn=>qZ hl)
 have hu:=hr.units
 have hc:(Wd (CXF P w) P w K mg base ["floor","length","told","row","column"] "rests" (qI W2) a.rests cdv A outer s H E).calm=true:=by show A.handled.isNone=true;rw [hcm (by omega)];rfl
 exact (@qJ _ _ _ _ _ _ (@ZA _ _ _ _ _ (@qQ _ _ _ _ _ _ _ _ _ ((wl V).call (hr.mono (by omega)) qW) (@qP _ _ _ _ _ _ _ (@qF _ _ 1 _ _ (by rfl) (by rfl) (by rfl)) qE) (by rfl) (by rfl)) (by rfl)) (@qJ _ _ _ _ _ _ (@qCP _ _ _ _ _ _ _ _ _ _ (["length"]) (["row_rest"]) ([1]) _ _ _ _ _ 2 sc_rests.nd (by exact Qd rfl (by decide +kernel) rfl rfl ⟨⟨rfl,rfl⟩,trivial⟩) (@qr _ _ _ _ _ _ _ rfl V.n_range (@qP _ _ _ _ _ _ _ (@qF _ _ 1 _ _ (by rfl) (by rfl) (by rfl)) qE) (by rfl)) (fun s' H' fp pn=>⟨(@qIQ _ _ _ _ (@J9 _ _ _ _ _ _ _ (@wz _ _ _ _ _ (@WK _ _ _ _ _ _ _ _ qR qE)) (@qF _ _ 0 _ _ (by rfl) (by rfl) (by rfl)))),⟨(@QN _ _ 1 _ (show (["length","row_rest"]:List Str).Nodup by decide +kernel) (by rfl) (by first |exact Or.inl rfl |exact Or.inr rfl) (by first |exact .inl rfl |exact .inr rfl |assumption)),(qa 1),TsOk.nil,rfl⟩,GsOk.nil⟩) (by rfl) (by first |exact Or.inl rfl |exact Or.inr rfl) (by first |exact .inl rfl |exact .inr rfl |assumption) (by rfl) (by intro _;rfl)) (@qJ _ _ _ _ _ _ (@WL _ _ _ _ _ _ _ _ _ (@wY _ _ _ _ _ (@qF _ _ 0 _ _ (by rfl) (by rfl) (by rfl))) (@zX _ _ _ _ _ _ hc (@qy _ _ _ _ _ (@q0 _ _ 3 _ sc_rests.nd (by rfl) (by first |exact Or.inl rfl |exact Or.inr rfl) (by first |exact .inl rfl |exact .inr rfl |assumption)) (@qy _ _ _ _ _ (@q0 _ _ 4 _ sc_rests.nd (by rfl) (by first |exact Or.inl rfl |exact Or.inr rfl) (by first |exact .inl rfl |exact .inr rfl |assumption)) WV (by rfl)) (by rfl)) (by rfl) (by rfl)) (@qO _ _ _ _ (@qAq _ _ _ _ _ _ _ _ _ _ (@QH _ _ _ _ _ _ _ (@qF _ _ 2 _ _ (by rfl) (by rfl) (by rfl)) (@zU _ _ _ _ _ _ _ (@qF _ _ 3 _ _ (by rfl) (by rfl) (by rfl)) (@qF _ _ 1 _ _ (by rfl) (by rfl) (by rfl))) (by exact fun _ _=>rfl)) (@zU _ _ _ _ _ _ _ (@qF _ _ 4 _ _ (by rfl) (by rfl) (by rfl)) (@qF _ _ 1 _ _ (by rfl) (by rfl) (by rfl))) qR (by intros;rfl))) (by intro _;rfl)) (@qO _ _ _ _ (@qd _ _ _ _ _ (@qF _ _ 2 _ _ (by rfl) (by rfl) (by rfl)))))))
theorem sc_first_apart:FnScope ["floor","length","table","row_rest","column_rest","both_heads"] ["floor","length"] (qI Qy):=⟨rfl,rfl,rfl,by decide +kernel,rfl,by decide +kernel,by decide +kernel⟩
theorem wk (V:Env K mg a):DefG P w K mg base 7 "first_apart" a.first_apart 2 (QU a):=by
 obtain ⟨fd,F⟩:=V.f_first_apart
 refine Qt (B:=zk a) F sc_first_apart (F.binds (ps:=["floor","length"]) fun _ _ _ _ _ _ us hl=>match us,hl with |[_,_],_=>rfl) V.m_first_apart (fun l st h=>qc h) (fun cdv A outer s H E hr hcm => ?_) (fun l s0 hl hn=>qZ hl)
 have hu:=hr.units
 exact (@qJ _ _ _ _ _ _ (@QM _ _ _ _ _ 2 _ _ sc_first_apart.nd (@qQ _ _ _ _ _ _ _ _ _ ((ZH V).call (hr.mono (by omega)) qW) (@qP _ _ _ _ _ _ _ (@qF _ _ 0 _ _ (by rfl) (by rfl) (by rfl)) (@qP _ _ _ _ _ _ _ (@qF _ _ 1 _ _ (by rfl) (by rfl) (by rfl)) qE)) (by rfl) (by rfl)) (by rfl) (by first |exact Or.inl rfl |exact Or.inr rfl) (by rfl) (by first |exact .inl rfl |exact .inr rfl |assumption)) (@qJ _ _ _ _ _ _ (@WL _ _ _ _ _ _ _ _ _ (@qr _ _ _ _ _ _ _ rfl V.n_range (@qP _ _ _ _ _ _ _ (@qF _ _ 1 _ _ (by rfl) (by rfl) (by rfl)) qE) (by rfl)) (@q0 _ _ 3 _ sc_first_apart.nd (by rfl) (by first |exact Or.inl rfl |exact Or.inr rfl) (by first |exact .inl rfl |exact .inr rfl |assumption)) (@qO _ _ _ _ (@WL _ _ _ _ _ _ _ _ _ (@qr _ _ _ _ _ _ _ rfl V.n_range (@qP _ _ _ _ _ _ _ (@qF _ _ 1 _ _ (by rfl) (by rfl) (by rfl)) qE) (by rfl)) (@q0 _ _ 4 _ sc_first_apart.nd (by rfl) (by first |exact Or.inl rfl |exact Or.inr rfl) (by first |exact .inl rfl |exact .inr rfl |assumption)) (@qJ _ _ _ _ _ _ (@QM _ _ _ _ _ 5 _ _ sc_first_apart.nd (@QX _ _ _ _ _ _ _ (@QH _ _ _ _ _ _ _ (@QH _ _ _ _ _ _ _ (@qF _ _ 2 _ _ (by rfl) (by rfl) (by rfl)) (@qF _ _ 3 _ _ (by rfl) (by rfl) (by rfl)) (by exact fun _ _=>rfl)) qR (by exact fun _ _=>rfl)) (@QH _ _ _ _ _ _ _ (@QH _ _ _ _ _ _ _ (@qF _ _ 2 _ _ (by rfl) (by rfl) (by rfl)) qR (by exact fun _ _=>rfl)) (@qF _ _ 4 _ _ (by rfl) (by rfl) (by rfl)) (by exact fun _ _=>rfl))) (by rfl) (by first |exact Or.inl rfl |exact Or.inr rfl) (by rfl) (by first |exact .inl rfl |exact .inr rfl |assumption)) (@qO _ _ _ _ (@Qs _ _ _ _ _ _ _ _ _ (@qx _ _ _ _ _ _ _ _ _ _ (wu hu) W9 (@QX _ _ _ _ _ _ _ (@QH _ _ _ _ _ _ _ (@QH _ _ _ _ _ _ _ (@qF _ _ 2 _ _ (by rfl) (by rfl) (by rfl)) (@qF _ _ 3 _ _ (by rfl) (by rfl) (by rfl)) (by exact fun _ _=>rfl)) (@qF _ _ 4 _ _ (by rfl) (by rfl) (by rfl)) (by exact fun _ _=>rfl)) (@QH _ _ _ _ _ _ _ (@QH _ _ _ _ _ _ _ (@qF _ _ 2 _ _ (by rfl) (by rfl) (by rfl)) qR (by exact fun _ _=>rfl)) qR (by exact fun _ _=>rfl))) (@qF _ _ 5 _ _ (by rfl) (by rfl) (by rfl)) (by first |exact qu _ |with_unfolding_all rfl)) (@qO _ _ _ _ (@qd _ _ _ _ _ (@wx _ _ _ _ _ _ (@qP _ _ _ _ _ _ _ (@qF _ _ 3 _ _ (by rfl) (by rfl) (by rfl)) (@qP _ _ _ _ _ _ _ (@qF _ _ 4 _ _ (by rfl) (by rfl) (by rfl)) qE))))) qv))) (by intro _;rfl))) (by intro _;rfl)) (@qO _ _ _ _ (@qd _ _ _ _ _ zJ))))
theorem sc_sums_of:FnScope ["floor","length","table"] ["floor","length"] (qI w9):=⟨rfl,rfl,rfl,by decide +kernel,rfl,by decide +kernel,by decide +kernel⟩
theorem Yy (V:Env K mg a):DefG P w K mg base 8 "sums_of" a.sums_of 2 (Wi a):=by
 obtain ⟨fd,F⟩:=V.f_sums_of
 refine Qt (B:=Yj a) F sc_sums_of (F.binds (ps:=["floor","length"]) fun _ _ _ _ _ _ us hl=>match us,hl with |[_,_],_=>rfl) V.m_sums_of (fun l st h=>qc h) (fun cdv A outer s H E hr hcm => ?_) (fun l s0 hl hn=>qZ hl)
 have hu:=hr.units
 exact (@qJ _ _ _ _ _ _ (@Qs _ _ _ _ _ _ _ _ _ (@qx _ _ _ _ _ _ _ _ _ _ Y8 yz (@qQ _ _ _ _ _ _ _ _ _ ((wk V).call (hr.mono (by omega)) qW) (@qP _ _ _ _ _ _ _ (@qF _ _ 0 _ _ (by rfl) (by rfl) (by rfl)) (@qP _ _ _ _ _ _ _ (@qF _ _ 1 _ _ (by rfl) (by rfl) (by rfl)) qE)) (by rfl) (by rfl)) zJ (by first |exact qu _ |with_unfolding_all rfl)) (@qO _ _ _ _ (@qd _ _ _ _ _ zJ)) qv) (@qJ _ _ _ _ _ _ (@QM _ _ _ _ _ 2 _ _ sc_sums_of.nd (@qQ _ _ _ _ _ _ _ _ _ ((ZH V).call (hr.mono (by omega)) qW) (@qP _ _ _ _ _ _ _ (@qF _ _ 0 _ _ (by rfl) (by rfl) (by rfl)) (@qP _ _ _ _ _ _ _ (@qF _ _ 1 _ _ (by rfl) (by rfl) (by rfl)) qE)) (by rfl) (by rfl)) (by rfl) (by first |exact Or.inl rfl |exact Or.inr rfl) (by rfl) (by first |exact .inl rfl |exact .inr rfl |assumption)) (@qO _ _ _ _ (@qd _ _ _ _ _ (@wx _ _ _ _ _ _ (@YH _ _ _ _ _ _ _ _ _ (@Qi _ _ _ _ (@QT _ _ _ _ _ _ _ ([]) (["line"]) ([]) _ _ _ _ _ (by exact Qd rfl (by decide +kernel) rfl rfl trivial) (@wY _ _ _ _ _ (@qF _ _ 2 _ _ (by rfl) (by rfl) (by rfl))) (fun s' H' fp pn=>⟨(@QH _ _ _ _ _ _ _ (@qF _ _ 0 _ _ (by rfl) (by rfl) (by rfl)) qR (by exact fun _ _=>rfl)),⟨(@QN _ _ 0 _ (show (["line"]:List Str).Nodup by decide +kernel) (by rfl) (by first |exact Or.inl rfl |exact Or.inr rfl) (by first |exact .inl rfl |exact .inr rfl |assumption)),(qa 0),TsOk.nil,rfl⟩,GsOk.nil⟩) (by intro _;rfl))) (@YH _ _ _ _ _ _ _ _ _ (@Qi _ _ _ _ (@QT _ _ _ _ _ _ _ (["table"]) (["many"]) ([2]) _ _ _ _ _ (by exact Qd rfl (by decide +kernel) rfl rfl ⟨⟨rfl,rfl⟩,trivial⟩) (@wY _ _ _ _ _ (@QH _ _ _ _ _ _ _ (@qF _ _ 2 _ _ (by rfl) (by rfl) (by rfl)) qR (by exact fun _ _=>rfl))) (fun s' H' fp pn=>⟨(@ZS _ _ _ _ _ _ _ (@qF _ _ 1 _ _ (by rfl) (by rfl) (by rfl)) (@QH _ _ _ _ _ _ _ (@QH _ _ _ _ _ _ _ (@qF _ _ 0 _ _ (by rfl) (by rfl) (by rfl)) qR (by exact fun _ _=>rfl)) qR (by exact fun _ _=>rfl))),⟨(@QN _ _ 1 _ (show (["table","many"]:List Str).Nodup by decide +kernel) (by rfl) (by first |exact Or.inl rfl |exact Or.inr rfl) (by first |exact .inl rfl |exact .inr rfl |assumption)),(qa 1),TsOk.nil,rfl⟩,GsOk.nil⟩) (by intro _;rfl))) qE)))))))
theorem sc_is_bar:FnScope ["thing","row","column","way"] ["thing"] (qI WI):=⟨rfl,rfl,rfl,by decide +kernel,rfl,by decide +kernel,by decide +kernel⟩
theorem qEJ (V:Env K mg a):DefG P w K mg base 4 "is_bar" a.is_bar 1 (yI a):=by
 obtain ⟨fd,F⟩:=V.f_is_bar
 obtain ⟨_,c_FURTHEST⟩:=V.c_FURTHEST
 obtain ⟨_,c_ACROSS⟩:=V.c_ACROSS
 obtain ⟨_,c_DOWN⟩:=V.c_DOWN
 refine Qt (B:=JY a) F sc_is_bar (F.binds (ps:=["thing"]) fun _ _ _ _ _ _ us hl=>match us,hl with |[_],_=>rfl) V.m_is_bar (fun l st h=>qc h) (fun cdv A outer s H E hr hcm => ?_) (fun l s0 hl hn=>qZ hl)
 have hu:=hr.units
 have hc:(Wd (CXF P w) P w K mg base ["thing","row","column","way"] "is_bar" (qI WI) a.is_bar cdv A outer s H E).calm=true:=by show A.handled.isNone=true;rw [hcm (by omega)];rfl
 exact (@qJ _ _ _ _ _ _ (@Qs _ _ _ _ _ _ _ _ _ (@yF _ _ _ _ (@ZL _ _ _ _ _ _ _ _ (@WH _ _ _ _ _ (@ww _ _ _ _ (@YB _ _ _ _ _ _ _ _ V.kit V.n_isinstance (@qP _ _ _ _ _ _ _ (@qF _ _ 0 _ _ (by rfl) (by rfl) (by rfl)) (@qP _ _ _ _ _ _ _ (@jk _ _ _ _ _ rfl V.n_tuple Boot.«tuple» (by decide) (by decide)) qE)) (by rfl) (by rfl) (by rfl)) (by intro _;rfl))) (@zW _ _ _ _ _ (@qx _ _ _ _ _ _ _ _ _ _ (wu hu) W9 (@wD _ _ _ _ _ _ _ (@qP _ _ _ _ _ _ _ (@qF _ _ 0 _ _ (by rfl) (by rfl) (by rfl)) qE) V.n_len (by rfl) (by rfl) (by rfl)) qR (by first |exact qu _ |with_unfolding_all rfl))))) (@qO _ _ _ _ (@qd _ _ _ _ _ WZ)) qv) (@qJ _ _ _ _ _ _ (@qAS _ _ _ _ _ _ _ (@qF _ _ 0 _ _ (by rfl) (by rfl) (by rfl)) (@zX _ _ _ _ _ _ hc (@qy _ _ _ _ _ (@q0 _ _ 1 _ sc_is_bar.nd (by rfl) (by first |exact Or.inl rfl |exact Or.inr rfl) (by first |exact .inl rfl |exact .inr rfl |assumption)) (@qy _ _ _ _ _ (@q0 _ _ 2 _ sc_is_bar.nd (by rfl) (by first |exact Or.inl rfl |exact Or.inr rfl) (by first |exact .inl rfl |exact .inr rfl |assumption)) (@qy _ _ _ _ _ (@q0 _ _ 3 _ sc_is_bar.nd (by rfl) (by first |exact Or.inl rfl |exact Or.inr rfl) (by first |exact .inl rfl |exact .inr rfl |assumption)) WV (by rfl)) (by rfl)) (by rfl)) (by rfl) (by rfl)) (by rfl) (by rfl) (by rfl)) (@qJ _ _ _ _ _ _ (@Qs _ _ _ _ _ _ _ _ _ (@yF _ _ _ _ (@ZL _ _ _ _ _ _ _ _ (@WH _ _ _ _ _ (@ww _ _ _ _ (@qQ _ _ _ _ _ _ _ _ _ ((Qf V).call (hr.mono (by omega)) qW) (@qP _ _ _ _ _ _ _ (@qF _ _ 1 _ _ (by rfl) (by rfl) (by rfl)) (@qIk _ _ _ _ _ _ _ _ (@qDr _ _ _ _ _ (@Q5 _ _ _ _ _ _ rfl c_FURTHEST (by decide))) (@qP _ _ _ _ _ _ _ (@Q5 _ _ _ _ _ _ rfl c_FURTHEST (by decide)) qE))) (by rfl) (by rfl)) (by intro _;rfl))) (@zW _ _ _ _ _ (@WH _ _ _ _ _ (@ww _ _ _ _ (@qQ _ _ _ _ _ _ _ _ _ ((Qf V).call (hr.mono (by omega)) qW) (@qP _ _ _ _ _ _ _ (@qF _ _ 2 _ _ (by rfl) (by rfl) (by rfl)) (@qIk _ _ _ _ _ _ _ _ (@qDr _ _ _ _ _ (@Q5 _ _ _ _ _ _ rfl c_FURTHEST (by decide))) (@qP _ _ _ _ _ _ _ (@Q5 _ _ _ _ _ _ rfl c_FURTHEST (by decide)) qE))) (by rfl) (by rfl)) (by intro _;rfl)))))) (@qO _ _ _ _ (@qd _ _ _ _ _ WZ)) qv) (@qO _ _ _ _ (@qd _ _ _ _ _ (@qQ _ _ _ _ _ _ _ _ _ ((Qf V).call (hr.mono (by omega)) qW) (@qP _ _ _ _ _ _ _ (@qF _ _ 3 _ _ (by rfl) (by rfl) (by rfl)) (@qP _ _ _ _ _ _ _ (@Q5 _ _ _ _ _ _ rfl c_ACROSS (by decide)) (@qP _ _ _ _ _ _ _ (@Q5 _ _ _ _ _ _ rfl c_DOWN (by decide)) qE))) (by rfl) (by rfl)))))))
theorem sc_places_of:FnScope ["bar","length","row","column","way"] ["bar","length"] (qI Q0):=⟨rfl,rfl,rfl,by decide +kernel,rfl,by decide +kernel,by decide +kernel⟩
theorem Zk (V:Env K mg a):DefG P w K mg base 2 "places_of" a.places_of 2 (wt a):=by
 obtain ⟨fd,F⟩:=V.f_places_of
 obtain ⟨_,c_ACROSS⟩:=V.c_ACROSS
 refine Qt (B:=zI a) F sc_places_of (F.binds (ps:=["bar","length"]) fun _ _ _ _ _ _ us hl=>match us,hl with |[_,_],_=>rfl) V.m_places_of (fun l st h=>qc h) (fun cdv A outer s H E hr hcm => ?_) (fun l s0 hl hn=>qZ hl)
 have hu:=hr.units
 have hc:(Wd (CXF P w) P w K mg base ["bar","length","row","column","way"] "places_of" (qI Q0) a.places_of cdv A outer s H E).calm=true:=by show A.handled.isNone=true;rw [hcm (by omega)];rfl
 exact (@qJ _ _ _ _ _ _ (@qAS _ _ _ _ _ _ _ (@qF _ _ 0 _ _ (by rfl) (by rfl) (by rfl)) (@zX _ _ _ _ _ _ hc (@qy _ _ _ _ _ (@q0 _ _ 2 _ sc_places_of.nd (by rfl) (by first |exact Or.inl rfl |exact Or.inr rfl) (by first |exact .inl rfl |exact .inr rfl |assumption)) (@qy _ _ _ _ _ (@q0 _ _ 3 _ sc_places_of.nd (by rfl) (by first |exact Or.inl rfl |exact Or.inr rfl) (by first |exact .inl rfl |exact .inr rfl |assumption)) (@qy _ _ _ _ _ (@q0 _ _ 4 _ sc_places_of.nd (by rfl) (by first |exact Or.inl rfl |exact Or.inr rfl) (by first |exact .inl rfl |exact .inr rfl |assumption)) WV (by rfl)) (by rfl)) (by rfl)) (by rfl) (by rfl)) (by rfl) (by rfl) (by rfl)) (@qJ _ _ _ _ _ _ (@Qs _ _ _ _ _ _ _ _ _ (@qx _ _ _ _ _ _ _ _ _ _ (W0 hu) Zn (@qF _ _ 4 _ _ (by rfl) (by rfl) (by rfl)) (@Q5 _ _ _ _ _ _ rfl c_ACROSS (by decide)) (by first |exact qu _ |with_unfolding_all rfl)) (@qO _ _ _ _ (@qd _ _ _ _ _ (@wc _ _ _ _ _ _ _ (@YH _ _ _ _ _ _ _ _ _ (@Qi _ _ _ _ (@QT _ _ _ _ _ _ _ (["row","column"]) (["step"]) ([2,3]) _ _ _ _ _ (by exact Qd rfl (by decide +kernel) rfl rfl ⟨⟨rfl,rfl⟩,⟨⟨rfl,rfl⟩,trivial⟩⟩) (@qr _ _ _ _ _ _ _ rfl V.n_range (@qP _ _ _ _ _ _ _ (@qF _ _ 1 _ _ (by rfl) (by rfl) (by rfl)) qE) (by rfl)) (fun s' H' fp pn=>⟨(@wx _ _ _ _ _ _ (@qP _ _ _ _ _ _ _ (@qF _ _ 0 _ _ (by rfl) (by rfl) (by rfl)) (@YL _ _ _ _ _ _ _ _ _ (@QX _ _ _ _ _ _ _ (@qF _ _ 1 _ _ (by rfl) (by rfl) (by rfl)) (@qF _ _ 2 _ _ (by rfl) (by rfl) (by rfl))) qE))),⟨(@QN _ _ 2 _ (show (["row","column","step"]:List Str).Nodup by decide +kernel) (by rfl) (by first |exact Or.inl rfl |exact Or.inr rfl) (by first |exact .inl rfl |exact .inr rfl |assumption)),(qa 2),TsOk.nil,rfl⟩,GsOk.nil⟩) (by intro _;rfl))) qE) V.n_tuple (by rfl) (by rfl) (by rfl)))) qv) (@qO _ _ _ _ (@qd _ _ _ _ _ (@wc _ _ _ _ _ _ _ (@YH _ _ _ _ _ _ _ _ _ (@Qi _ _ _ _ (@QT _ _ _ _ _ _ _ (["column","row"]) (["step"]) ([3,2]) _ _ _ _ _ (by exact Qd rfl (by decide +kernel) rfl rfl ⟨⟨rfl,rfl⟩,⟨⟨rfl,rfl⟩,trivial⟩⟩) (@qr _ _ _ _ _ _ _ rfl V.n_range (@qP _ _ _ _ _ _ _ (@qF _ _ 1 _ _ (by rfl) (by rfl) (by rfl)) qE) (by rfl)) (fun s' H' fp pn=>⟨(@wx _ _ _ _ _ _ (@YL _ _ _ _ _ _ _ _ _ (@QX _ _ _ _ _ _ _ (@qF _ _ 1 _ _ (by rfl) (by rfl) (by rfl)) (@qF _ _ 2 _ _ (by rfl) (by rfl) (by rfl))) (@qP _ _ _ _ _ _ _ (@qF _ _ 0 _ _ (by rfl) (by rfl) (by rfl)) qE))),⟨(@QN _ _ 2 _ (show (["column","row","step"]:List Str).Nodup by decide +kernel) (by rfl) (by first |exact Or.inl rfl |exact Or.inr rfl) (by first |exact .inl rfl |exact .inr rfl |assumption)),(qa 2),TsOk.nil,rfl⟩,GsOk.nil⟩) (by intro _;rfl))) qE) V.n_tuple (by rfl) (by rfl) (by rfl))))))
theorem JN:FnScope ["bar","length"] ["bar","length"] (qI wV):=⟨rfl,rfl,rfl,by decide +kernel,rfl,by decide +kernel,by decide +kernel⟩
theorem J4 (V:Env K mg a):DefG P w K mg base 6 "cells_of" a.cells_of 2 (W1 a):=by
 obtain ⟨fd,F⟩:=V.f_cells_of
 refine Qt (B:=yK a) F JN (F.binds (ps:=["bar","length"]) fun _ _ _ _ _ _ us hl=>match us,hl with |[_,_],_=>rfl) V.m_cells_of (fun l st h=>qc h) (fun cdv A outer s H E hr hcm => ?_) (fun l s0 hl hn=>qZ hl)
 have hu:=hr.units
 exact (@qJ _ _ _ _ _ _ (@Qs _ _ _ _ _ _ _ _ _ (@WH _ _ _ _ _ (@ww _ _ _ _ (@qQ _ _ _ _ _ _ _ _ _ ((qEJ V).call (hr.mono (by omega)) qW) (@qP _ _ _ _ _ _ _ (@qF _ _ 0 _ _ (by rfl) (by rfl) (by rfl)) qE) (by rfl) (by rfl)) (by intro _;rfl))) (@qO _ _ _ _ qF7) qv) (@qJ _ _ _ _ _ _ (@ZA _ _ _ _ _ (@qQ _ _ _ _ _ _ _ _ _ ((wl V).call (hr.mono (by omega)) qW) (@qP _ _ _ _ _ _ _ (@qF _ _ 1 _ _ (by rfl) (by rfl) (by rfl)) qE) (by rfl) (by rfl)) (by rfl)) (@qO _ _ _ _ (@qd _ _ _ _ _ (@qQ _ _ _ _ _ _ _ _ _ ((Zk V).call (hr.mono (by omega)) qW) (@qP _ _ _ _ _ _ _ (@qF _ _ 0 _ _ (by rfl) (by rfl) (by rfl)) (@qP _ _ _ _ _ _ _ (@qF _ _ 1 _ _ (by rfl) (by rfl) (by rfl)) qE)) (by rfl) (by rfl))))))
theorem jN:FnScope ["floor","bar","length"] ["floor","bar","length"] (qI wL):=⟨rfl,rfl,rfl,by decide +kernel,rfl,by decide +kernel,by decide +kernel⟩
theorem JJ (V:Env K mg a):DefG P w K mg base 3 "is_within" a.is_within 3 (WR a):=by
 obtain ⟨fd,F⟩:=V.f_is_within
 refine Qt (B:=Zo a) F jN (F.binds (ps:=["floor","bar","length"]) fun _ _ _ _ _ _ us hl=>match us,hl with |[_,_,_],_=>rfl) V.m_is_within (fun l st h=>qc h) (fun cdv A outer s H E hr hcm => ?_) (fun l s0 hl hn=>qZ hl)
 have hu:=hr.units
 exact (@qO _ _ _ _ (@qd _ _ _ _ _ (@jD _ _ _ _ _ _ _ (@YH _ _ _ _ _ _ _ _ _ (@Qi _ _ _ _ (@QT _ _ _ _ _ _ _ (["floor"]) (["place"]) ([0]) _ _ _ _ _ (by exact Qd rfl (by decide +kernel) rfl rfl ⟨⟨rfl,rfl⟩,trivial⟩) (@wY _ _ _ _ _ (@qQ _ _ _ _ _ _ _ _ _ ((Zk V).call (hr.mono (by omega)) qW) (@qP _ _ _ _ _ _ _ (@qF _ _ 1 _ _ (by rfl) (by rfl) (by rfl)) (@qP _ _ _ _ _ _ _ (@qF _ _ 2 _ _ (by rfl) (by rfl) (by rfl)) qE)) (by rfl) (by rfl))) (fun s' H' fp pn=>⟨(@qIL _ _ _ _ _ _ _ hu (@qF _ _ 1 _ _ (by rfl) (by rfl) (by rfl)) (@qF _ _ 0 _ _ (by rfl) (by rfl) (by rfl)) (by with_unfolding_all rfl)),⟨(@QN _ _ 1 _ (show (["floor","place"]:List Str).Nodup by decide +kernel) (by rfl) (by first |exact Or.inl rfl |exact Or.inr rfl) (by first |exact .inl rfl |exact .inr rfl |assumption)),(qa 1),TsOk.nil,rfl⟩,GsOk.nil⟩) (by intro _;rfl))) qE) V.n_all (by rfl) (by rfl) (by rfl))))
theorem sc_bars_of:FnScope ["floor","length","bars"] ["floor","length"] (qI wb):=⟨rfl,rfl,rfl,by decide +kernel,rfl,by decide +kernel,by decide +kernel⟩
theorem qBW (V:Env K mg a):DefG P w K mg base 6 "bars_of" a.bars_of 2 (za a):=by
 obtain ⟨fd,F⟩:=V.f_bars_of
 obtain ⟨_,c_ACROSS⟩:=V.c_ACROSS
 obtain ⟨_,c_DOWN⟩:=V.c_DOWN
 refine Qt (B:=Ym a) F sc_bars_of (F.binds (ps:=["floor","length"]) fun _ _ _ _ _ _ us hl=>match us,hl with |[_,_],_=>rfl) V.m_bars_of (fun l st h=>qc h) (fun cdv A outer s H E hr hcm => ?_) (fun l s0 hl hn=>qZ hl)
 have hu:=hr.units
 have hc:(Wd (CXF P w) P w K mg base ["floor","length","bars"] "bars_of" (qI wb) a.bars_of cdv A outer s H E).calm=true:=by show A.handled.isNone=true;rw [hcm (by omega)];rfl
 exact (@qJ _ _ _ _ _ _ (@ZA _ _ _ _ _ (@qQ _ _ _ _ _ _ _ _ _ ((wl V).call (hr.mono (by omega)) qW) (@qP _ _ _ _ _ _ _ (@qF _ _ 1 _ _ (by rfl) (by rfl) (by rfl)) qE) (by rfl) (by rfl)) (by rfl)) (@qJ _ _ _ _ _ _ (@qAo _ _ _ _ _ _ _ _ _ _ ([]) (["row","column","way"]) ([]) _ _ _ _ _ 2 sc_bars_of.nd (by exact Qd rfl (by decide +kernel) rfl rfl trivial) (@wY _ _ _ _ _ (@qF _ _ 0 _ _ (by rfl) (by rfl) (by rfl))) (fun s' H' fp pn=>⟨(@wx _ _ _ _ _ _ (@qP _ _ _ _ _ _ _ (@qF _ _ 0 _ _ (by rfl) (by rfl) (by rfl)) (@qP _ _ _ _ _ _ _ (@qF _ _ 1 _ _ (by rfl) (by rfl) (by rfl)) (@qP _ _ _ _ _ _ _ (@qF _ _ 2 _ _ (by rfl) (by rfl) (by rfl)) qE)))),⟨(@zX _ _ _ _ _ _ hc (@qy _ _ _ _ _ (@QN _ _ 0 _ (show (["row","column","way"]:List Str).Nodup by decide +kernel) (by rfl) (by first |exact Or.inl rfl |exact Or.inr rfl) (by first |exact .inl rfl |exact .inr rfl |assumption)) (@qy _ _ _ _ _ (@QN _ _ 1 _ (show (["row","column","way"]:List Str).Nodup by decide +kernel) (by rfl) (by first |exact Or.inl rfl |exact Or.inr rfl) (by first |exact .inl rfl |exact .inr rfl |assumption)) WV (by rfl)) (by rfl)) (by rfl) (by rfl)),(ZT (wj (qa 0) (wj (qa 1) ZO))),TsOk.nil,rfl⟩,(GsOk.cons ⟨⟨(@QN _ _ 2 _ (show (["row","column","way"]:List Str).Nodup by decide +kernel) (by rfl) (by first |exact Or.inl rfl |exact Or.inr rfl) (by first |exact .inl rfl |exact .inr rfl |assumption)),(qa 2),TsOk.nil,rfl⟩,(@wY _ _ _ _ _ (@wx _ _ _ _ _ _ (@qP _ _ _ _ _ _ _ (@Q5 _ _ _ _ _ _ (by rfl) c_ACROSS (by decide)) (@qP _ _ _ _ _ _ _ (@Q5 _ _ _ _ _ _ (by rfl) c_DOWN (by decide)) qE)))),by intro _;rfl⟩ GsOk.nil)⟩) (by rfl) (by first |exact Or.inl rfl |exact Or.inr rfl) (by first |exact .inl rfl |exact .inr rfl |assumption) (by rfl) (by intro _;rfl)) (@qO _ _ _ _ (@qd _ _ _ _ _ (@Qi _ _ _ _ (@QT _ _ _ _ _ _ _ (["floor","length"]) (["bar"]) ([0,1]) _ _ _ _ _ (by exact Qd rfl (by decide +kernel) rfl rfl ⟨⟨rfl,rfl⟩,⟨⟨rfl,rfl⟩,trivial⟩⟩) (@wY _ _ _ _ _ (@qF _ _ 2 _ _ (by rfl) (by rfl) (by rfl))) (fun s' H' fp pn=>⟨(@qF _ _ 2 _ _ (by rfl) (by rfl) (by rfl)),⟨(@QN _ _ 2 _ (show (["floor","length","bar"]:List Str).Nodup by decide +kernel) (by rfl) (by first |exact Or.inl rfl |exact Or.inr rfl) (by first |exact .inl rfl |exact .inr rfl |assumption)),(qa 2),(TsOk.cons (@ww _ _ _ _ (@qQ _ _ _ _ _ _ _ _ _ ((JJ V).call (hr.mono (by omega)) (qt _)) (@qP _ _ _ _ _ _ _ (@qF _ _ 0 _ _ (by rfl) (by rfl) (by rfl)) (@qP _ _ _ _ _ _ _ (@qF _ _ 2 _ _ (by rfl) (by rfl) (by rfl)) (@qP _ _ _ _ _ _ _ (@qF _ _ 1 _ _ (by rfl) (by rfl) (by rfl)) qE))) (by rfl) (by rfl)) (by intro _;rfl)) TsOk.nil),rfl⟩,GsOk.nil⟩) (by intro _;rfl)))))))
theorem Jv:FnScope ["thing"] ["thing"] (qI WA):=⟨rfl,rfl,rfl,by decide +kernel,rfl,by decide +kernel,by decide +kernel⟩
theorem qB2 (V:Env K mg a):DefG P w K mg base 4 "is_cell" a.is_cell 1 (WB a):=by
 obtain ⟨fd,F⟩:=V.f_is_cell
 obtain ⟨_,c_LAST_LINE⟩:=V.c_LAST_LINE
 refine Qt (B:=Y2 a) F Jv (F.binds (ps:=["thing"]) fun _ _ _ _ _ _ us hl=>match us,hl with |[_],_=>rfl) V.m_is_cell (fun l st h=>qc h) (fun cdv A outer s H E hr hcm => ?_) (fun l s0 hl hn=>qZ hl)
 have hu:=hr.units
 exact (@qJ _ _ _ _ _ _ (@Qs _ _ _ _ _ _ _ _ _ (@yF _ _ _ _ (@ZL _ _ _ _ _ _ _ _ (@WH _ _ _ _ _ (@ww _ _ _ _ (@YB _ _ _ _ _ _ _ _ V.kit V.n_isinstance (@qP _ _ _ _ _ _ _ (@qF _ _ 0 _ _ (by rfl) (by rfl) (by rfl)) (@qP _ _ _ _ _ _ _ (@jk _ _ _ _ _ rfl V.n_tuple Boot.«tuple» (by decide) (by decide)) qE)) (by rfl) (by rfl) (by rfl)) (by intro _;rfl))) (@zW _ _ _ _ _ (@qx _ _ _ _ _ _ _ _ _ _ (wu hu) W9 (@wD _ _ _ _ _ _ _ (@qP _ _ _ _ _ _ _ (@qF _ _ 0 _ _ (by rfl) (by rfl) (by rfl)) qE) V.n_len (by rfl) (by rfl) (by rfl)) qR (by first |exact qu _ |with_unfolding_all rfl))))) (@qO _ _ _ _ (@qd _ _ _ _ _ WZ)) qv) (@qO _ _ _ _ (@qd _ _ _ _ _ (@jD _ _ _ _ _ _ _ (@YH _ _ _ _ _ _ _ _ _ (@Qi _ _ _ _ (@QT _ _ _ _ _ _ _ ([]) (["number"]) ([]) _ _ _ _ _ (by exact Qd rfl (by decide +kernel) rfl rfl trivial) (@wY _ _ _ _ _ (@qF _ _ 0 _ _ (by rfl) (by rfl) (by rfl))) (fun s' H' fp pn=>⟨(@qQ _ _ _ _ _ _ _ _ _ ((Qf V).call (hr.mono (by omega)) (qt _)) (@qP _ _ _ _ _ _ _ (@qF _ _ 0 _ _ (by rfl) (by rfl) (by rfl)) (@WK _ _ _ _ _ _ _ _ qR (@qP _ _ _ _ _ _ _ (@Q5 _ _ _ _ _ _ rfl c_LAST_LINE (by decide)) qE))) (by rfl) (by rfl)),⟨(@QN _ _ 0 _ (show (["number"]:List Str).Nodup by decide +kernel) (by rfl) (by first |exact Or.inl rfl |exact Or.inr rfl) (by first |exact .inl rfl |exact .inr rfl |assumption)),(qa 0),TsOk.nil,rfl⟩,GsOk.nil⟩) (by intro _;rfl))) qE) V.n_all (by rfl) (by rfl) (by rfl)))))
theorem JZ:FnScope ["thing"] ["thing"] (qI we):=⟨rfl,rfl,rfl,by decide +kernel,rfl,by decide +kernel,by decide +kernel⟩
theorem qAa (V:Env K mg a):DefG P w K mg base 5 "is_floor" a.is_floor 1 (WJ a):=by
 obtain ⟨fd,F⟩:=V.f_is_floor
 obtain ⟨_,c_MOST_CELLS⟩:=V.c_MOST_CELLS
 refine Qt (B:=yo a) F JZ (F.binds (ps:=["thing"]) fun _ _ _ _ _ _ us hl=>match us,hl with |[_],_=>rfl) V.m_is_floor (fun l st h=>qc h) (fun cdv A outer s H E hr hcm => ?_) (fun l s0 hl hn=>qZ hl)
 have hu:=hr.units
 exact (@qJ _ _ _ _ _ _ (@Qs _ _ _ _ _ _ _ _ _ (@yF _ _ _ _ (@ZL _ _ _ _ _ _ _ _ (@WH _ _ _ _ _ (@ww _ _ _ _ (@YB _ _ _ _ _ _ _ _ V.kit V.n_isinstance (@qP _ _ _ _ _ _ _ (@qF _ _ 0 _ _ (by rfl) (by rfl) (by rfl)) (@qP _ _ _ _ _ _ _ (@jk _ _ _ _ _ rfl V.n_tuple Boot.«tuple» (by decide) (by decide)) qE)) (by rfl) (by rfl) (by rfl)) (by intro _;rfl))) (@zW _ _ _ _ _ (@qx _ _ _ _ _ _ _ _ _ _ qFp qF6 (@wD _ _ _ _ _ _ _ (@qP _ _ _ _ _ _ _ (@qF _ _ 0 _ _ (by rfl) (by rfl) (by rfl)) qE) V.n_len (by rfl) (by rfl) (by rfl)) (@Q5 _ _ _ _ _ _ rfl c_MOST_CELLS (by decide)) (by first |exact qu _ |with_unfolding_all rfl))))) (@qO _ _ _ _ (@qd _ _ _ _ _ WZ)) qv) (@qO _ _ _ _ (@qd _ _ _ _ _ (@yO _ _ _ _ _ _ _ _ (@jD _ _ _ _ _ _ _ (@YH _ _ _ _ _ _ _ _ _ (@Qi _ _ _ _ (@QT _ _ _ _ _ _ _ ([]) (["cell"]) ([]) _ _ _ _ _ (by exact Qd rfl (by decide +kernel) rfl rfl trivial) (@wY _ _ _ _ _ (@qF _ _ 0 _ _ (by rfl) (by rfl) (by rfl))) (fun s' H' fp pn=>⟨(@qQ _ _ _ _ _ _ _ _ _ ((qB2 V).call (hr.mono (by omega)) (qt _)) (@qP _ _ _ _ _ _ _ (@qF _ _ 0 _ _ (by rfl) (by rfl) (by rfl)) qE) (by rfl) (by rfl)),⟨(@QN _ _ 0 _ (show (["cell"]:List Str).Nodup by decide +kernel) (by rfl) (by first |exact Or.inl rfl |exact Or.inr rfl) (by first |exact .inl rfl |exact .inr rfl |assumption)),(qa 0),TsOk.nil,rfl⟩,GsOk.nil⟩) (by intro _;rfl))) qE) V.n_all (by rfl) (by rfl) (by rfl)) (@jQ _ _ _ _ _ _ (@qQ _ _ _ _ _ _ _ _ _ ((JV V).call (hr.mono (by omega)) qW) (@qP _ _ _ _ _ _ _ (@qF _ _ 0 _ _ (by rfl) (by rfl) (by rfl)) qE) (by rfl) (by rfl)))))))
theorem jr:FnScope ["floor"] ["floor"] (qI wI):=⟨rfl,rfl,rfl,by decide +kernel,rfl,by decide +kernel,by decide +kernel⟩
theorem qAV (V:Env K mg a):DefG P w K mg base 2 "mirrored" a.mirrored 1 (zl a):=by
 obtain ⟨fd,F⟩:=V.f_mirrored
 refine Qt (B:=YA a) F jr (F.binds (ps:=["floor"]) fun _ _ _ _ _ _ us hl=>match us,hl with |[_],_=>rfl) V.m_mirrored (fun l st h=>qc h) (fun cdv A outer s H E hr hcm => ?_) (fun l s0 hl hn=>qZ hl)
 have hu:=hr.units
 have hc:(Wd (CXF P w) P w K mg base ["floor"] "mirrored" (qI wI) a.mirrored cdv A outer s H E).calm=true:=by show A.handled.isNone=true;rw [hcm (by omega)];rfl
 exact (@qO _ _ _ _ (@qd _ _ _ _ _ (@wc _ _ _ _ _ _ _ (@Wv _ _ _ _ _ _ _ _ _ (@Jj _ _ _ _ _ _ hu V.n_sorted (@Qi _ _ _ _ (@QT _ _ _ _ _ _ _ ([]) (["row","column"]) ([]) _ _ _ _ _ (by exact Qd rfl (by decide +kernel) rfl rfl trivial) (@wY _ _ _ _ _ (@qF _ _ 0 _ _ (by rfl) (by rfl) (by rfl))) (fun s' H' fp pn=>⟨(@wx _ _ _ _ _ _ (@qP _ _ _ _ _ _ _ (@qF _ _ 1 _ _ (by rfl) (by rfl) (by rfl)) (@qP _ _ _ _ _ _ _ (@qF _ _ 0 _ _ (by rfl) (by rfl) (by rfl)) qE))),⟨(@zX _ _ _ _ _ _ hc (@qy _ _ _ _ _ (@QN _ _ 0 _ (show (["row","column"]:List Str).Nodup by decide +kernel) (by rfl) (by first |exact Or.inl rfl |exact Or.inr rfl) (by first |exact .inl rfl |exact .inr rfl |assumption)) (@qy _ _ _ _ _ (@QN _ _ 1 _ (show (["row","column"]:List Str).Nodup by decide +kernel) (by rfl) (by first |exact Or.inl rfl |exact Or.inr rfl) (by first |exact .inl rfl |exact .inr rfl |assumption)) WV (by rfl)) (by rfl)) (by rfl) (by rfl)),(ZT (wj (qa 0) (wj (qa 1) ZO))),TsOk.nil,rfl⟩,GsOk.nil⟩) (by intro _;rfl))) (by rfl) (by rfl)) qE) V.n_tuple (by rfl) (by rfl) (by rfl))))
theorem jz:FnScope ["_law_script","_law_k"] ["_law_script","_law_k"] (qI wf):=⟨rfl,rfl,rfl,by decide +kernel,rfl,by decide +kernel,by decide +kernel⟩
theorem qAX (V:Env K mg a):DefG P w K mg base 2 "_law_cell" a.law_cell 2 (Ww a):=by
 obtain ⟨fd,F⟩:=V.f_law_cell
 refine Qt (B:=Wr a) F jz (F.binds (ps:=["_law_script","_law_k"]) fun _ _ _ _ _ _ us hl=>match us,hl with |[_,_],_=>rfl) V.m_law_cell (fun l st h=>qc h) (fun cdv A outer s H E hr hcm => ?_) (fun l s0 hl hn=>qZ hl)
 have hu:=hr.units
 exact (@qJ _ _ _ _ _ _ (@Qs _ _ _ _ _ _ _ _ _ (@qx _ _ _ _ _ _ _ _ _ _ qFw qGB (@qF _ _ 1 _ _ (by rfl) (by rfl) (by rfl)) (@wD _ _ _ _ _ _ _ (@qP _ _ _ _ _ _ _ (@qF _ _ 0 _ _ (by rfl) (by rfl) (by rfl)) qE) V.n_len (by rfl) (by rfl) (by rfl)) (by first |exact qu _ |with_unfolding_all rfl)) (@qO _ _ _ _ (@qd _ _ _ _ _ (@QH _ _ _ _ _ _ _ (@qF _ _ 0 _ _ (by rfl) (by rfl) (by rfl)) (@qF _ _ 1 _ _ (by rfl) (by rfl) (by rfl)) (by exact fun _ _=>rfl)))) qv) (@qO _ _ _ _ (@qd _ _ _ _ _ (@QX _ _ _ _ _ _ _ (@Za _ _ _ _ _ _ _ qR (@qF _ _ 1 _ _ (by rfl) (by rfl) (by rfl))) qR))))
theorem sc_law_box:FnScope ["_law_script","_law_k","_law_cell_here","_law_number","_law_mixed","_law_j"] ["_law_script","_law_k"] (qI w8):=⟨rfl,rfl,rfl,by decide +kernel,rfl,by decide +kernel,by decide +kernel⟩
theorem qBX (V:Env K mg a):DefG P w K mg base 3 "_law_box" a.law_box 2 (zc a):=by
 obtain ⟨fd,F⟩:=V.f_law_box
 refine Qt (B:=zd a) F sc_law_box (F.binds (ps:=["_law_script","_law_k"]) fun _ _ _ _ _ _ us hl=>match us,hl with |[_,_],_=>rfl) V.m_law_box (fun l st h=>qc h) (fun cdv A outer s H E hr hcm => ?_) (fun l s0 hl hn=>qZ hl)
 have hu:=hr.units
 exact (@qJ _ _ _ _ _ _ (@QM _ _ _ _ _ 2 _ _ sc_law_box.nd (@qQ _ _ _ _ _ _ _ _ _ ((qAX V).call (hr.mono (by omega)) qW) (@qP _ _ _ _ _ _ _ (@qF _ _ 0 _ _ (by rfl) (by rfl) (by rfl)) (@qP _ _ _ _ _ _ _ (@qF _ _ 1 _ _ (by rfl) (by rfl) (by rfl)) qE)) (by rfl) (by rfl)) (by rfl) (by first |exact Or.inl rfl |exact Or.inr rfl) (by rfl) (by first |exact .inl rfl |exact .inr rfl |assumption)) (@qJ _ _ _ _ _ _ (@Qs _ _ _ _ _ _ _ _ _ (@qx _ _ _ _ _ _ _ _ _ _ (W0 hu) Zn (@zU _ _ _ _ _ _ _ (@qF _ _ 2 _ _ (by rfl) (by rfl) (by rfl)) qR) qR (by first |exact qu _ |with_unfolding_all rfl)) (@qO _ _ _ _ (@qAf _ _ _ _ _ (@wz _ _ _ _ _ (@YL _ _ _ _ _ _ _ _ _ (@qGh _ _ _ _ _ _ _ (@qF _ _ 2 _ _ (by rfl) (by rfl) (by rfl)) qR) qE)))) qv) (@qJ _ _ _ _ _ _ (@QM _ _ _ _ _ 3 _ _ sc_law_box.nd qR (by rfl) (by first |exact Or.inl rfl |exact Or.inr rfl) (by rfl) (by first |exact .inl rfl |exact .inr rfl |assumption)) (@qJ _ _ _ _ _ _ (@QM _ _ _ _ _ 4 _ _ sc_law_box.nd (@zU _ _ _ _ _ _ _ (@qF _ _ 2 _ _ (by rfl) (by rfl) (by rfl)) qR) (by rfl) (by first |exact Or.inl rfl |exact Or.inr rfl) (by rfl) (by first |exact .inl rfl |exact .inr rfl |assumption)) (@qJ _ _ _ _ _ _ (@WL _ _ _ _ _ _ _ _ _ (@qr _ _ _ _ _ _ _ rfl V.n_range (@WK _ _ _ _ _ _ _ _ qR qE) (by rfl)) (@q0 _ _ 5 _ sc_law_box.nd (by rfl) (by first |exact Or.inl rfl |exact Or.inr rfl) (by first |exact .inl rfl |exact .inr rfl |assumption)) (@qJ _ _ _ _ _ _ (@QM _ _ _ _ _ 4 _ _ sc_law_box.nd (@zU _ _ _ _ _ _ _ (@QX _ _ _ _ _ _ _ (@QX _ _ _ _ _ _ _ (@QX _ _ _ _ _ _ _ (@Za _ _ _ _ _ _ _ (@qF _ _ 4 _ _ (by rfl) (by rfl) (by rfl)) qR) (@Za _ _ _ _ _ _ _ (@Za _ _ _ _ _ _ _ qR (@qF _ _ 5 _ _ (by rfl) (by rfl) (by rfl))) (@qF _ _ 5 _ _ (by rfl) (by rfl) (by rfl)))) (@Za _ _ _ _ _ _ _ qR (@qF _ _ 1 _ _ (by rfl) (by rfl) (by rfl)))) qR) qR) (by rfl) (by first |exact Or.inl rfl |exact Or.inr rfl) (by rfl) (by first |exact .inl rfl |exact .inr rfl |assumption)) (@qO _ _ _ _ (@QM _ _ _ _ _ 3 _ _ sc_law_box.nd (@QX _ _ _ _ _ _ _ (@Za _ _ _ _ _ _ _ (@qF _ _ 3 _ _ (by rfl) (by rfl) (by rfl)) qR) (@qF _ _ 4 _ _ (by rfl) (by rfl) (by rfl))) (by rfl) (by first |exact Or.inl rfl |exact Or.inr rfl) (by rfl) (by first |exact .inl rfl |exact .inr rfl |assumption)))) (by intro _;rfl)) (@qO _ _ _ _ (@qAf _ _ _ _ _ (@wz _ _ _ _ _ (@qP _ _ _ _ _ _ _ (@qF _ _ 3 _ _ (by rfl) (by rfl) (by rfl)) qE)))))))))
theorem sc_law_take:FnScope ["_law_box_here","_law_many","_law_digit"] ["_law_box_here","_law_many"] (qI wX):=⟨rfl,rfl,rfl,by decide +kernel,rfl,by decide +kernel,by decide +kernel⟩
theorem qw (V:Env K mg a):DefG P w K mg base 2 "_law_take" a.law_take 2 (qT a):=by
 obtain ⟨fd,F⟩:=V.f_law_take
 refine Qt (B:=zy a) F sc_law_take (F.binds (ps:=["_law_box_here","_law_many"]) fun _ _ _ _ _ _ us hl=>match us,hl with |[_,_],_=>rfl) V.m_law_take (fun l st h=>qc h) (fun cdv A outer s H E hr hcm => ?_) (fun l s0 hl hn=>qZ hl)
 have hu:=hr.units
 exact (@qJ _ _ _ _ _ _ (@QM _ _ _ _ _ 2 _ _ sc_law_take.nd (@zU _ _ _ _ _ _ _ (@QH _ _ _ _ _ _ _ (@qF _ _ 0 _ _ (by rfl) (by rfl) (by rfl)) qR (by exact fun _ _=>rfl)) (@qF _ _ 1 _ _ (by rfl) (by rfl) (by rfl))) (by rfl) (by first |exact Or.inl rfl |exact Or.inr rfl) (by rfl) (by first |exact .inl rfl |exact .inr rfl |assumption)) (@qJ _ _ _ _ _ _ (@qHn _ _ _ _ _ _ _ _ _ _ (@qF _ _ 0 _ _ (by rfl) (by rfl) (by rfl)) qR (@qE1 _ _ _ _ _ _ _ (@QH _ _ _ _ _ _ _ (@qF _ _ 0 _ _ (by rfl) (by rfl) (by rfl)) qR (by exact fun _ _=>rfl)) (@qF _ _ 1 _ _ (by rfl) (by rfl) (by rfl))) (by rfl) (by rfl) (by rfl) (by intro _;rfl)) (@qO _ _ _ _ (@qd _ _ _ _ _ (@qF _ _ 2 _ _ (by rfl) (by rfl) (by rfl))))))
theorem sc_law_cover:FnScope ["_law_bar","_law_length","_law_row","_law_column","_law_way"] ["_law_bar","_law_length"] (qI Q3):=⟨rfl,rfl,rfl,by decide +kernel,rfl,by decide +kernel,by decide +kernel⟩
theorem JF (V:Env K mg a):DefG P w K mg base 2 "_law_cover" a.law_cover 2 (WS a):=by
 obtain ⟨fd,F⟩:=V.f_law_cover
 refine Qt (B:=zH a) F sc_law_cover (F.binds (ps:=["_law_bar","_law_length"]) fun _ _ _ _ _ _ us hl=>match us,hl with |[_,_],_=>rfl) V.m_law_cover (fun l st h=>qc h) (fun cdv A outer s H E hr hcm => ?_) (fun l s0 hl hn=>qZ hl)
 have hu:=hr.units
 have hc:(Wd (CXF P w) P w K mg base ["_law_bar","_law_length","_law_row","_law_column","_law_way"] "_law_cover" (qI Q3) a.law_cover cdv A outer s H E).calm=true:=by show A.handled.isNone=true;rw [hcm (by omega)];rfl
 exact (@qJ _ _ _ _ _ _ (@qAS _ _ _ _ _ _ _ (@qF _ _ 0 _ _ (by rfl) (by rfl) (by rfl)) (@zX _ _ _ _ _ _ hc (@qy _ _ _ _ _ (@q0 _ _ 2 _ sc_law_cover.nd (by rfl) (by first |exact Or.inl rfl |exact Or.inr rfl) (by first |exact .inl rfl |exact .inr rfl |assumption)) (@qy _ _ _ _ _ (@q0 _ _ 3 _ sc_law_cover.nd (by rfl) (by first |exact Or.inl rfl |exact Or.inr rfl) (by first |exact .inl rfl |exact .inr rfl |assumption)) (@qy _ _ _ _ _ (@q0 _ _ 4 _ sc_law_cover.nd (by rfl) (by first |exact Or.inl rfl |exact Or.inr rfl) (by first |exact .inl rfl |exact .inr rfl |assumption)) WV (by rfl)) (by rfl)) (by rfl)) (by rfl) (by rfl)) (by rfl) (by rfl) (by rfl)) (@qJ _ _ _ _ _ _ (@Qs _ _ _ _ _ _ _ _ _ (@qx _ _ _ _ _ _ _ _ _ _ (W0 hu) Zn (@qF _ _ 4 _ _ (by rfl) (by rfl) (by rfl)) qR (by first |exact qu _ |with_unfolding_all rfl)) (@qO _ _ _ _ (@qd _ _ _ _ _ (@Qi _ _ _ _ (@QT _ _ _ _ _ _ _ (["_law_row","_law_column"]) (["_law_k"]) ([2,3]) _ _ _ _ _ (by exact Qd rfl (by decide +kernel) rfl rfl ⟨⟨rfl,rfl⟩,⟨⟨rfl,rfl⟩,trivial⟩⟩) (@qr _ _ _ _ _ _ _ rfl V.n_range (@qP _ _ _ _ _ _ _ (@qF _ _ 1 _ _ (by rfl) (by rfl) (by rfl)) qE) (by rfl)) (fun s' H' fp pn=>⟨(@wx _ _ _ _ _ _ (@qP _ _ _ _ _ _ _ (@qF _ _ 0 _ _ (by rfl) (by rfl) (by rfl)) (@YL _ _ _ _ _ _ _ _ _ (@QX _ _ _ _ _ _ _ (@qF _ _ 1 _ _ (by rfl) (by rfl) (by rfl)) (@qF _ _ 2 _ _ (by rfl) (by rfl) (by rfl))) qE))),⟨(@QN _ _ 2 _ (show (["_law_row","_law_column","_law_k"]:List Str).Nodup by decide +kernel) (by rfl) (by first |exact Or.inl rfl |exact Or.inr rfl) (by first |exact .inl rfl |exact .inr rfl |assumption)),(qa 2),TsOk.nil,rfl⟩,GsOk.nil⟩) (by intro _;rfl))))) qv) (@qO _ _ _ _ (@qd _ _ _ _ _ (@Qi _ _ _ _ (@QT _ _ _ _ _ _ _ (["_law_column","_law_row"]) (["_law_k"]) ([3,2]) _ _ _ _ _ (by exact Qd rfl (by decide +kernel) rfl rfl ⟨⟨rfl,rfl⟩,⟨⟨rfl,rfl⟩,trivial⟩⟩) (@qr _ _ _ _ _ _ _ rfl V.n_range (@qP _ _ _ _ _ _ _ (@qF _ _ 1 _ _ (by rfl) (by rfl) (by rfl)) qE) (by rfl)) (fun s' H' fp pn=>⟨(@wx _ _ _ _ _ _ (@YL _ _ _ _ _ _ _ _ _ (@QX _ _ _ _ _ _ _ (@qF _ _ 1 _ _ (by rfl) (by rfl) (by rfl)) (@qF _ _ 2 _ _ (by rfl) (by rfl) (by rfl))) (@qP _ _ _ _ _ _ _ (@qF _ _ 0 _ _ (by rfl) (by rfl) (by rfl)) qE))),⟨(@QN _ _ 2 _ (show (["_law_column","_law_row","_law_k"]:List Str).Nodup by decide +kernel) (by rfl) (by first |exact Or.inl rfl |exact Or.inr rfl) (by first |exact .inl rfl |exact .inr rfl |assumption)),(qa 2),TsOk.nil,rfl⟩,GsOk.nil⟩) (by intro _;rfl)))))))
theorem sc_law_put:FnScope ["_law_box_here","_law_length","_law_found","_law_turn","_law_way","_law_row","_law_column","_law_places"] ["_law_box_here","_law_length"] (qI wW):=⟨rfl,rfl,rfl,by decide +kernel,rfl,by decide +kernel,by decide +kernel⟩
theorem YS (V:Env K mg a):DefG P w K mg base 3 "_law_put" a.law_put 2 (Wp a):=by
 obtain ⟨fd,F⟩:=V.f_law_put
 refine Qt (B:=ZP a) F sc_law_put (F.binds (ps:=["_law_box_here","_law_length"]) fun _ _ _ _ _ _ us hl=>match us,hl with |[_,_],_=>rfl) V.m_law_put (fun l st h=>qc h) (fun cdv A outer s H E hr hcm => ?_) (fun l s0 hl hn=>qZ hl)
 have hu:=hr.units
 have hc:(Wd (CXF P w) P w K mg base ["_law_box_here","_law_length","_law_found","_law_turn","_law_way","_law_row","_law_column","_law_places"] "_law_put" (qI wW) a.law_put cdv A outer s H E).calm=true:=by show A.handled.isNone=true;rw [hcm (by omega)];rfl
 exact (@qJ _ _ _ _ _ _ (@Y9 _ _ _ _ 2 _ _ _ sc_law_put.nd (@wz _ _ _ _ _ qE) (by rfl) (by first |exact Or.inl rfl |exact Or.inr rfl) (by rfl) (by first |exact .inl rfl |exact .inr rfl |assumption)) (@qJ _ _ _ _ _ _ (@WL _ _ _ _ _ _ _ _ _ (@qr _ _ _ _ _ _ _ rfl V.n_range (@YL _ _ _ _ _ _ _ _ _ (@QX _ _ _ _ _ _ _ qR (@qQ _ _ _ _ _ _ _ _ _ ((qw V).call (hr.mono (by omega)) qW) (@qP _ _ _ _ _ _ _ (@qF _ _ 0 _ _ (by rfl) (by rfl) (by rfl)) (@WK _ _ _ _ _ _ _ _ qR qE)) (by rfl) (by rfl))) qE) (by rfl)) (@q0 _ _ 3 _ sc_law_put.nd (by rfl) (by first |exact Or.inl rfl |exact Or.inr rfl) (by first |exact .inl rfl |exact .inr rfl |assumption)) (@qJ _ _ _ _ _ _ (@QM _ _ _ _ _ 4 _ _ sc_law_put.nd (@qQ _ _ _ _ _ _ _ _ _ ((qw V).call (hr.mono (by omega)) (qt _)) (@qP _ _ _ _ _ _ _ (@qF _ _ 0 _ _ (by rfl) (by rfl) (by rfl)) (@WK _ _ _ _ _ _ _ _ qR qE)) (by rfl) (by rfl)) (by rfl) (by first |exact Or.inl rfl |exact Or.inr rfl) (by rfl) (by first |exact .inl rfl |exact .inr rfl |assumption)) (@qJ _ _ _ _ _ _ (@qAO _ _ _ _ _ 5 6 _ _ _ _ _ _ _ _ _ hc sc_law_put.nd (@Wv _ _ _ _ _ _ _ _ _ (@qQ _ _ _ _ _ _ _ _ _ ((qw V).call (hr.mono (by omega)) (qt _)) (@qP _ _ _ _ _ _ _ (@qF _ _ 0 _ _ (by rfl) (by rfl) (by rfl)) (@YL _ _ _ _ _ _ _ _ _ (@ZS _ _ _ _ _ _ _ qR (@QH _ _ _ _ _ _ _ (@Qi _ _ _ _ (@wz _ _ _ _ _ (@WK _ _ _ _ _ _ _ _ qR (@qP _ _ _ _ _ _ _ (@qF _ _ 1 _ _ (by rfl) (by rfl) (by rfl)) qE)))) (@qF _ _ 4 _ _ (by rfl) (by rfl) (by rfl)) (by exact fun _ _=>rfl))) qE)) (by rfl) (by rfl)) (@Wv _ _ _ _ _ _ _ _ _ (@qQ _ _ _ _ _ _ _ _ _ ((qw V).call (hr.mono (by omega)) (qt _)) (@qP _ _ _ _ _ _ _ (@qF _ _ 0 _ _ (by rfl) (by rfl) (by rfl)) (@YL _ _ _ _ _ _ _ _ _ (@ZS _ _ _ _ _ _ _ qR (@QH _ _ _ _ _ _ _ (@Qi _ _ _ _ (@wz _ _ _ _ _ (@qP _ _ _ _ _ _ _ (@qF _ _ 1 _ _ (by rfl) (by rfl) (by rfl)) (@WK _ _ _ _ _ _ _ _ qR qE)))) (@qF _ _ 4 _ _ (by rfl) (by rfl) (by rfl)) (by exact fun _ _=>rfl))) qE)) (by rfl) (by rfl)) qE)) (by rfl) (by rfl) (by rfl) (by decide) (by rfl) (by rfl) (by rfl)) (@qJ _ _ _ _ _ _ (@QM _ _ _ _ _ 7 _ _ sc_law_put.nd (@qQ _ _ _ _ _ _ _ _ _ ((JF V).call (hr.mono (by omega)) (qt _)) (@qJV _ _ _ _ _ _ _ _ (@wx _ _ _ _ _ _ (@qP _ _ _ _ _ _ _ (@qF _ _ 5 _ _ (by rfl) (by rfl) (by rfl)) (@qP _ _ _ _ _ _ _ (@qF _ _ 6 _ _ (by rfl) (by rfl) (by rfl)) (@qP _ _ _ _ _ _ _ (@qF _ _ 4 _ _ (by rfl) (by rfl) (by rfl)) qE)))) (@qP _ _ _ _ _ _ _ (@qF _ _ 1 _ _ (by rfl) (by rfl) (by rfl)) qE)) (by rfl) (by rfl)) (by rfl) (by first |exact Or.inl rfl |exact Or.inr rfl) (by rfl) (by first |exact .inl rfl |exact .inr rfl |assumption)) (@qO _ _ _ _ (@Qs _ _ _ _ _ _ _ _ _ (@yF _ _ _ _ (@qAE _ _ _ _ _ _ _ _ (@qx _ _ _ _ _ _ _ _ _ _ (W0 hu) Zn (@Qi _ _ _ _ (@QT _ _ _ _ _ _ _ (["_law_found"]) (["_law_place"]) ([2]) _ _ _ _ _ (by exact Qd rfl (by decide +kernel) rfl rfl ⟨⟨rfl,rfl⟩,trivial⟩) (@wY _ _ _ _ _ (@qF _ _ 7 _ _ (by rfl) (by rfl) (by rfl))) (fun s' H' fp pn=>⟨(@qF _ _ 1 _ _ (by rfl) (by rfl) (by rfl)),⟨(@QN _ _ 1 _ (show (["_law_found","_law_place"]:List Str).Nodup by decide +kernel) (by rfl) (by first |exact Or.inl rfl |exact Or.inr rfl) (by first |exact .inl rfl |exact .inr rfl |assumption)),(qa 1),(TsOk.cons (@qx _ _ _ _ _ _ _ _ _ _ (qDh hu) qCr (@qF _ _ 1 _ _ (by rfl) (by rfl) (by rfl)) (@qF _ _ 0 _ _ (by rfl) (by rfl) (by rfl)) (by first |exact qu _ |with_unfolding_all rfl)) TsOk.nil),rfl⟩,GsOk.nil⟩) (by intro _;rfl))) (@Qi _ _ _ _ (@wz _ _ _ _ _ qE)) (by first |exact qu _ |with_unfolding_all rfl)) (@jj _ _ _ _ _ (@qx _ _ _ _ _ _ _ _ _ _ qDX qCR (@QX _ _ _ _ _ _ _ (@wD _ _ _ _ _ _ _ (@qP _ _ _ _ _ _ _ (@qF _ _ 2 _ _ (by rfl) (by rfl) (by rfl)) qE) V.n_len (by rfl) (by rfl) (by rfl)) (@qF _ _ 1 _ _ (by rfl) (by rfl) (by rfl))) qR (by first |exact qu _ |with_unfolding_all rfl))))) (@qO _ _ _ _ (@Y9 _ _ _ _ 2 _ _ _ sc_law_put.nd (@Jt _ _ _ _ _ _ _ (@qF _ _ 2 _ _ (by rfl) (by rfl) (by rfl)) (@qF _ _ 7 _ _ (by rfl) (by rfl) (by rfl))) (by rfl) (by first |exact Or.inl rfl |exact Or.inr rfl) (by rfl) (by first |exact .inl rfl |exact .inr rfl |assumption))) qv))))) (by intro _;rfl)) (@qO _ _ _ _ (@qd _ _ _ _ _ (@qF _ _ 2 _ _ (by rfl) (by rfl) (by rfl))))))
theorem sc_law_floor:FnScope ["_law_box_here","_law_length","_law_way","_law_high","_law_wide","_law_found","_law_row"] ["_law_box_here","_law_length"] (qI Q1):=⟨rfl,rfl,rfl,by decide +kernel,rfl,by decide +kernel,by decide +kernel⟩
theorem jn (V:Env K mg a):DefG P w K mg base 4 "_law_floor" a.law_floor 2 (wp a):=by
 obtain ⟨fd,F⟩:=V.f_law_floor
 refine Qt (B:=wo a) F sc_law_floor (F.binds (ps:=["_law_box_here","_law_length"]) fun _ _ _ _ _ _ us hl=>match us,hl with |[_,_],_=>rfl) V.m_law_floor (fun l st h=>qc h) (fun cdv A outer s H E hr hcm => ?_) (fun l s0 hl hn=>qZ hl)
 have hu:=hr.units
 have hc:(Wd (CXF P w) P w K mg base ["_law_box_here","_law_length","_law_way","_law_high","_law_wide","_law_found","_law_row"] "_law_floor" (qI Q1) a.law_floor cdv A outer s H E).calm=true:=by show A.handled.isNone=true;rw [hcm (by omega)];rfl
 exact (@qJ _ _ _ _ _ _ (@QM _ _ _ _ _ 2 _ _ sc_law_floor.nd (@qQ _ _ _ _ _ _ _ _ _ ((qw V).call (hr.mono (by omega)) qW) (@qP _ _ _ _ _ _ _ (@qF _ _ 0 _ _ (by rfl) (by rfl) (by rfl)) (@WK _ _ _ _ _ _ _ _ qR qE)) (by rfl) (by rfl)) (by rfl) (by first |exact Or.inl rfl |exact Or.inr rfl) (by rfl) (by first |exact .inl rfl |exact .inr rfl |assumption)) (@qJ _ _ _ _ _ _ (@qAO _ _ _ _ _ 3 4 _ _ _ _ _ _ _ _ _ hc sc_law_floor.nd (@YL _ _ _ _ _ _ _ _ _ (@QX _ _ _ _ _ _ _ qR (@qQ _ _ _ _ _ _ _ _ _ ((qw V).call (hr.mono (by omega)) qW) (@qP _ _ _ _ _ _ _ (@qF _ _ 0 _ _ (by rfl) (by rfl) (by rfl)) (@WK _ _ _ _ _ _ _ _ qR qE)) (by rfl) (by rfl))) (@YL _ _ _ _ _ _ _ _ _ (@QX _ _ _ _ _ _ _ qR (@qQ _ _ _ _ _ _ _ _ _ ((qw V).call (hr.mono (by omega)) qW) (@qP _ _ _ _ _ _ _ (@qF _ _ 0 _ _ (by rfl) (by rfl) (by rfl)) (@WK _ _ _ _ _ _ _ _ qR qE)) (by rfl) (by rfl))) qE)) (by rfl) (by rfl) (by rfl) (by decide) (by rfl) (by rfl) (by rfl)) (@qJ _ _ _ _ _ _ (@Qs _ _ _ _ _ _ _ _ _ (@qx _ _ _ _ _ _ _ _ _ _ qFp qF6 (@qF _ _ 2 _ _ (by rfl) (by rfl) (by rfl)) qR (by first |exact qu _ |with_unfolding_all rfl)) (@qJ _ _ _ _ _ _ (@QM _ _ _ _ _ 5 _ _ sc_law_floor.nd (@qQ _ _ _ _ _ _ _ _ _ ((YS V).call (hr.mono (by omega)) qW) (@qP _ _ _ _ _ _ _ (@qF _ _ 0 _ _ (by rfl) (by rfl) (by rfl)) (@qP _ _ _ _ _ _ _ (@qF _ _ 1 _ _ (by rfl) (by rfl) (by rfl)) qE)) (by rfl) (by rfl)) (by rfl) (by first |exact Or.inl rfl |exact Or.inr rfl) (by rfl) (by first |exact .inl rfl |exact .inr rfl |assumption)) (@qJ _ _ _ _ _ _ (@Qs _ _ _ _ _ _ _ _ _ (@qx _ _ _ _ _ _ _ _ _ _ (W0 hu) Zn (@qF _ _ 2 _ _ (by rfl) (by rfl) (by rfl)) qR (by first |exact qu _ |with_unfolding_all rfl)) (@qJ _ _ _ _ _ _ (@ZA _ _ _ _ _ (@qDI _ _ _ _ _ _ _ _ (@qF _ _ 5 _ _ (by rfl) (by rfl) (by rfl)) (@qQ _ _ _ _ _ _ _ _ _ ((qw V).call (hr.mono (by omega)) qW) (@qP _ _ _ _ _ _ _ (@qF _ _ 0 _ _ (by rfl) (by rfl) (by rfl)) (@Wv _ _ _ _ _ _ _ _ _ (@wD _ _ _ _ _ _ _ (@qP _ _ _ _ _ _ _ (@qF _ _ 5 _ _ (by rfl) (by rfl) (by rfl)) qE) V.n_len (by rfl) (by rfl) (by rfl)) qE)) (by rfl) (by rfl)) (by rfl) (by rfl) (by rfl) (by rfl) (by rfl)) (by rfl)) (@qO _ _ _ _ (@QM _ _ _ _ _ 5 _ _ sc_law_floor.nd (@Qi _ _ _ _ (@Jt _ _ _ _ _ _ _ (@qF _ _ 5 _ _ (by rfl) (by rfl) (by rfl)) (@Qi _ _ _ _ (@QT _ _ _ _ _ _ _ (["_law_box_here"]) (["_law_turn"]) ([0]) _ _ _ _ _ (by exact Qd rfl (by decide +kernel) rfl rfl ⟨⟨rfl,rfl⟩,trivial⟩) (@qr _ _ _ _ _ _ _ rfl V.n_range (@Wv _ _ _ _ _ _ _ _ _ (@qQ _ _ _ _ _ _ _ _ _ ((qw V).call (hr.mono (by omega)) qW) (@qP _ _ _ _ _ _ _ (@qF _ _ 0 _ _ (by rfl) (by rfl) (by rfl)) (@WK _ _ _ _ _ _ _ _ qR qE)) (by rfl) (by rfl)) qE) (by rfl)) (fun s' H' fp pn=>⟨(@wx _ _ _ _ _ _ (@Wv _ _ _ _ _ _ _ _ _ (@qQ _ _ _ _ _ _ _ _ _ ((qw V).call (hr.mono (by omega)) (qt _)) (@qP _ _ _ _ _ _ _ (@qF _ _ 0 _ _ (by rfl) (by rfl) (by rfl)) (@WK _ _ _ _ _ _ _ _ qR qE)) (by rfl) (by rfl)) (@Wv _ _ _ _ _ _ _ _ _ (@qQ _ _ _ _ _ _ _ _ _ ((qw V).call (hr.mono (by omega)) (qt _)) (@qP _ _ _ _ _ _ _ (@qF _ _ 0 _ _ (by rfl) (by rfl) (by rfl)) (@WK _ _ _ _ _ _ _ _ qR qE)) (by rfl) (by rfl)) qE))),⟨(@QN _ _ 1 _ (show (["_law_box_here","_law_turn"]:List Str).Nodup by decide +kernel) (by rfl) (by first |exact Or.inl rfl |exact Or.inr rfl) (by first |exact .inl rfl |exact .inr rfl |assumption)),(qa 1),TsOk.nil,rfl⟩,GsOk.nil⟩) (by intro _;rfl))))) (by rfl) (by first |exact Or.inl rfl |exact Or.inr rfl) (by rfl) (by first |exact .inl rfl |exact .inr rfl |assumption)))) qv) (@qO _ _ _ _ (@qd _ _ _ _ _ (@wc _ _ _ _ _ _ _ (@Wv _ _ _ _ _ _ _ _ _ (@qCS _ _ _ _ _ _ _ _ hc hu V.n_sorted V.n_set (@qF _ _ 5 _ _ (by rfl) (by rfl) (by rfl)) (by rfl) (by rfl) (by rfl) (by rfl)) qE) V.n_tuple (by rfl) (by rfl) (by rfl)))))) qv) (@qJ _ _ _ _ _ _ (@QM _ _ _ _ _ 5 _ _ sc_law_floor.nd (@Qi _ _ _ _ (@wz _ _ _ _ _ qE)) (by rfl) (by first |exact Or.inl rfl |exact Or.inr rfl) (by rfl) (by first |exact .inl rfl |exact .inr rfl |assumption)) (@qJ _ _ _ _ _ _ (@WL _ _ _ _ _ _ _ _ _ (@qr _ _ _ _ _ _ _ rfl V.n_range (@qP _ _ _ _ _ _ _ (@qF _ _ 3 _ _ (by rfl) (by rfl) (by rfl)) qE) (by rfl)) (@q0 _ _ 6 _ sc_law_floor.nd (by rfl) (by first |exact Or.inl rfl |exact Or.inr rfl) (by first |exact .inl rfl |exact .inr rfl |assumption)) (@qO _ _ _ _ (@QM _ _ _ _ _ 5 _ _ sc_law_floor.nd (@Qi _ _ _ _ (@Jt _ _ _ _ _ _ _ (@qF _ _ 5 _ _ (by rfl) (by rfl) (by rfl)) (@Qi _ _ _ _ (@QT _ _ _ _ _ _ _ (["_law_row","_law_way","_law_box_here"]) (["_law_column"]) ([6,2,0]) _ _ _ _ _ (by exact Qd rfl (by decide +kernel) rfl rfl ⟨⟨rfl,rfl⟩,⟨⟨rfl,rfl⟩,⟨⟨rfl,rfl⟩,trivial⟩⟩⟩) (@qr _ _ _ _ _ _ _ rfl V.n_range (@qP _ _ _ _ _ _ _ (@qF _ _ 4 _ _ (by rfl) (by rfl) (by rfl)) qE) (by rfl)) (fun s' H' fp pn=>⟨(@wx _ _ _ _ _ _ (@qP _ _ _ _ _ _ _ (@qF _ _ 0 _ _ (by rfl) (by rfl) (by rfl)) (@qP _ _ _ _ _ _ _ (@qF _ _ 3 _ _ (by rfl) (by rfl) (by rfl)) qE))),⟨(@QN _ _ 3 _ (show (["_law_row","_law_way","_law_box_here","_law_column"]:List Str).Nodup by decide +kernel) (by rfl) (by first |exact Or.inl rfl |exact Or.inr rfl) (by first |exact .inl rfl |exact .inr rfl |assumption)),(qa 3),(TsOk.cons (@yF _ _ _ _ (@ZL _ _ _ _ _ _ _ _ (@qx _ _ _ _ _ _ _ _ _ _ (W0 hu) Zn (@qF _ _ 1 _ _ (by rfl) (by rfl) (by rfl)) qR (by first |exact qu _ |with_unfolding_all rfl)) (@zW _ _ _ _ _ (@qx _ _ _ _ _ _ _ _ _ _ (wu hu) W9 (@qQ _ _ _ _ _ _ _ _ _ ((qw V).call (hr.mono (by omega)) (qt _)) (@qP _ _ _ _ _ _ _ (@qF _ _ 2 _ _ (by rfl) (by rfl) (by rfl)) (@qEl _ _ _ _ _ _ _ _ (@QH _ _ _ _ _ _ _ (@Qi _ _ _ _ (@wz _ _ _ _ _ (@WK _ _ _ _ _ _ _ _ qR (@WK _ _ _ _ _ _ _ _ qR (@WK _ _ _ _ _ _ _ _ qR qE))))) (@qF _ _ 1 _ _ (by rfl) (by rfl) (by rfl)) (by exact fun _ _=>rfl)) qE)) (by rfl) (by rfl)) qR (by first |exact qu _ |with_unfolding_all rfl))))) TsOk.nil),rfl⟩,GsOk.nil⟩) (by intro _;rfl))))) (by rfl) (by first |exact Or.inl rfl |exact Or.inr rfl) (by rfl) (by first |exact .inl rfl |exact .inr rfl |assumption))) (by intro _;rfl)) (@qO _ _ _ _ (@qd _ _ _ _ _ (@wc _ _ _ _ _ _ _ (@qI1 _ _ _ _ _ _ _ _ _ (@qIO _ _ _ _ _ _ _ _ _ (@qx _ _ _ _ _ _ _ _ _ _ qFw qGB (@qF _ _ 2 _ _ (by rfl) (by rfl) (by rfl)) qR (by first |exact qu _ |with_unfolding_all rfl)) (@qCf _ _ _ _ _ _ _ _ _ _ (@qF _ _ 5 _ _ (by rfl) (by rfl) (by rfl)) qAn (@qBG _ _ _ _ qR)) (@qCf _ _ _ _ _ _ _ _ _ _ (@qF _ _ 5 _ _ (by rfl) (by rfl) (by rfl)) qAn (@qBG _ _ _ _ (@qQ _ _ _ _ _ _ _ _ _ ((qw V).call (hr.mono (by omega)) qW) (@qP _ _ _ _ _ _ _ (@qF _ _ 0 _ _ (by rfl) (by rfl) (by rfl)) (@WK _ _ _ _ _ _ _ _ qR qE)) (by rfl) (by rfl))))) qE) V.n_tuple (by rfl) (by rfl) (by rfl)))))))))
theorem sc_law_sums_right:FnScope ["_law_floor_here","_law_length","_law_both","_law_table","_law_one","_law_other"] ["_law_floor_here","_law_length","_law_both"] (qI QW):=⟨rfl,rfl,rfl,by decide +kernel,rfl,by decide +kernel,by decide +kernel⟩
theorem ZY (V:Env K mg a):DefG P w K mg base 7 "_law_sums_right" a.law_sums_right 3 (Q7 a):=by
 obtain ⟨fd,F⟩:=V.f_law_sums_right
 refine Qt (B:=Wm a) F sc_law_sums_right (F.binds (ps:=["_law_floor_here","_law_length","_law_both"]) fun _ _ _ _ _ _ us hl=>match us,hl with |[_,_,_],_=>rfl) V.m_law_sums_right (fun l st h=>qc h) (fun cdv A outer s H E hr hcm => ?_) (fun l s0 hl hn=>qZ hl)
 have hu:=hr.units
 exact (@qJ _ _ _ _ _ _ (@QM _ _ _ _ _ 3 _ _ sc_law_sums_right.nd (@qQ _ _ _ _ _ _ _ _ _ ((ZH V).call (hr.mono (by omega)) qW) (@qP _ _ _ _ _ _ _ (@qF _ _ 0 _ _ (by rfl) (by rfl) (by rfl)) (@qP _ _ _ _ _ _ _ (@qF _ _ 1 _ _ (by rfl) (by rfl) (by rfl)) qE)) (by rfl) (by rfl)) (by rfl) (by first |exact Or.inl rfl |exact Or.inr rfl) (by rfl) (by first |exact .inl rfl |exact .inr rfl |assumption)) (@qJ _ _ _ _ _ _ (@WL _ _ _ _ _ _ _ _ _ (@qr _ _ _ _ _ _ _ rfl V.n_range (@qP _ _ _ _ _ _ _ (@qF _ _ 1 _ _ (by rfl) (by rfl) (by rfl)) qE) (by rfl)) (@q0 _ _ 4 _ sc_law_sums_right.nd (by rfl) (by first |exact Or.inl rfl |exact Or.inr rfl) (by first |exact .inl rfl |exact .inr rfl |assumption)) (@qO _ _ _ _ (@WL _ _ _ _ _ _ _ _ _ (@qr _ _ _ _ _ _ _ rfl V.n_range (@qP _ _ _ _ _ _ _ (@qF _ _ 1 _ _ (by rfl) (by rfl) (by rfl)) qE) (by rfl)) (@q0 _ _ 5 _ sc_law_sums_right.nd (by rfl) (by first |exact Or.inl rfl |exact Or.inr rfl) (by first |exact .inl rfl |exact .inr rfl |assumption)) (@qO _ _ _ _ (@Qs _ _ _ _ _ _ _ _ _ (@qx _ _ _ _ _ _ _ _ _ _ (wu hu) W9 (@QH _ _ _ _ _ _ _ (@QH _ _ _ _ _ _ _ (@qF _ _ 3 _ _ (by rfl) (by rfl) (by rfl)) (@qF _ _ 4 _ _ (by rfl) (by rfl) (by rfl)) (by exact fun _ _=>rfl)) (@qF _ _ 5 _ _ (by rfl) (by rfl) (by rfl)) (by exact fun _ _=>rfl)) (@QX _ _ _ _ _ _ _ (@QH _ _ _ _ _ _ _ (@QH _ _ _ _ _ _ _ (@qF _ _ 2 _ _ (by rfl) (by rfl) (by rfl)) qR (by exact fun _ _=>rfl)) (@qF _ _ 4 _ _ (by rfl) (by rfl) (by rfl)) (by exact fun _ _=>rfl)) (@QH _ _ _ _ _ _ _ (@QH _ _ _ _ _ _ _ (@qF _ _ 2 _ _ (by rfl) (by rfl) (by rfl)) qR (by exact fun _ _=>rfl)) (@qF _ _ 5 _ _ (by rfl) (by rfl) (by rfl)) (by exact fun _ _=>rfl))) (by first |exact qu _ |with_unfolding_all rfl)) (@qO _ _ _ _ (@qd _ _ _ _ _ WZ)) qv)) (by intro _;rfl))) (by intro _;rfl)) (@qO _ _ _ _ (@qd _ _ _ _ _ (@yO _ _ _ _ _ _ _ _ (@qCu _ _ _ _ _ _ _ hu (@QH _ _ _ _ _ _ _ (@QH _ _ _ _ _ _ _ (@qF _ _ 2 _ _ (by rfl) (by rfl) (by rfl)) qR (by exact fun _ _=>rfl)) qR (by exact fun _ _=>rfl)) qR) (@yO _ _ _ _ _ _ _ _ (@qCu _ _ _ _ _ _ _ hu (@wD _ _ _ _ _ _ _ (@qEl _ _ _ _ _ _ _ _ (@QH _ _ _ _ _ _ _ (@qF _ _ 2 _ _ (by rfl) (by rfl) (by rfl)) qR (by exact fun _ _=>rfl)) qE) V.n_len (by rfl) (by rfl) (by rfl)) (@qF _ _ 1 _ _ (by rfl) (by rfl) (by rfl))) (@jQ _ _ _ _ _ _ (@qCu _ _ _ _ _ _ _ hu (@wD _ _ _ _ _ _ _ (@qEl _ _ _ _ _ _ _ _ (@QH _ _ _ _ _ _ _ (@qF _ _ 2 _ _ (by rfl) (by rfl) (by rfl)) qR (by exact fun _ _=>rfl)) qE) V.n_len (by rfl) (by rfl) (by rfl)) (@qF _ _ 1 _ _ (by rfl) (by rfl) (by rfl))))))))))
theorem sc_law_right:FnScope ["_law_floor_here","_law_length","_law_table","_law_counts","_law_hue","_law_both","_law_apart","_law_other"] ["_law_floor_here","_law_length"] (qI Q2):=⟨rfl,rfl,rfl,by decide +kernel,rfl,by decide +kernel,by decide +kernel⟩
theorem Zi (V:Env K mg a):DefG P w K mg base 9 "_law_right" a.law_right 2 (wK a):=by
 obtain ⟨fd,F⟩:=V.f_law_right
 refine Qt (B:=Zp a) F sc_law_right (F.binds (ps:=["_law_floor_here","_law_length"]) fun _ _ _ _ _ _ us hl=>match us,hl with |[_,_],_=>rfl) V.m_law_right (fun l st h=>qc h) (fun cdv A outer s H E hr hcm => ?_) (fun l s0 hl hn=>qZ hl)
 have hu:=hr.units
 have hc:(Wd (CXF P w) P w K mg base ["_law_floor_here","_law_length","_law_table","_law_counts","_law_hue","_law_both","_law_apart","_law_other"] "_law_right" (qI Q2) a.law_right cdv A outer s H E).calm=true:=by show A.handled.isNone=true;rw [hcm (by omega)];rfl
 exact (@qJ _ _ _ _ _ _ (@QM _ _ _ _ _ 2 _ _ sc_law_right.nd (@qQ _ _ _ _ _ _ _ _ _ ((ZH V).call (hr.mono (by omega)) qW) (@qP _ _ _ _ _ _ _ (@qF _ _ 0 _ _ (by rfl) (by rfl) (by rfl)) (@qP _ _ _ _ _ _ _ (@qF _ _ 1 _ _ (by rfl) (by rfl) (by rfl)) qE)) (by rfl) (by rfl)) (by rfl) (by first |exact Or.inl rfl |exact Or.inr rfl) (by rfl) (by first |exact .inl rfl |exact .inr rfl |assumption)) (@qJ _ _ _ _ _ _ (@QM _ _ _ _ _ 3 _ _ sc_law_right.nd (@qQ _ _ _ _ _ _ _ _ _ ((jU V).call (hr.mono (by omega)) qW) (@qP _ _ _ _ _ _ _ (@qF _ _ 0 _ _ (by rfl) (by rfl) (by rfl)) (@qP _ _ _ _ _ _ _ (@qF _ _ 1 _ _ (by rfl) (by rfl) (by rfl)) qE)) (by rfl) (by rfl)) (by rfl) (by first |exact Or.inl rfl |exact Or.inr rfl) (by rfl) (by first |exact .inl rfl |exact .inr rfl |assumption)) (@qJ _ _ _ _ _ _ (@WL _ _ _ _ _ _ _ _ _ (@qr _ _ _ _ _ _ _ rfl V.n_range (@qP _ _ _ _ _ _ _ (@qF _ _ 1 _ _ (by rfl) (by rfl) (by rfl)) qE) (by rfl)) (@q0 _ _ 4 _ sc_law_right.nd (by rfl) (by first |exact Or.inl rfl |exact Or.inr rfl) (by first |exact .inl rfl |exact .inr rfl |assumption)) (@qO _ _ _ _ (@Qs _ _ _ _ _ _ _ _ _ (@qx _ _ _ _ _ _ _ _ _ _ (wu hu) W9 (@QH _ _ _ _ _ _ _ (@qF _ _ 3 _ _ (by rfl) (by rfl) (by rfl)) (@qF _ _ 4 _ _ (by rfl) (by rfl) (by rfl)) (by exact fun _ _=>rfl)) (@qCo _ _ _ _ _ _ _ (@YH _ _ _ _ _ _ _ _ _ (@Qi _ _ _ _ (@QT _ _ _ _ _ _ _ (["_law_table","_law_length","_law_hue"]) (["_law_one"]) ([2,1,4]) _ _ _ _ _ (by exact Qd rfl (by decide +kernel) rfl rfl ⟨⟨rfl,rfl⟩,⟨⟨rfl,rfl⟩,⟨⟨rfl,rfl⟩,trivial⟩⟩⟩) (@qr _ _ _ _ _ _ _ rfl V.n_range (@qP _ _ _ _ _ _ _ (@qF _ _ 1 _ _ (by rfl) (by rfl) (by rfl)) qE) (by rfl)) (fun s' H' fp pn=>⟨(@QH _ _ _ _ _ _ _ (@QH _ _ _ _ _ _ _ (@qF _ _ 0 _ _ (by rfl) (by rfl) (by rfl)) (@qF _ _ 3 _ _ (by rfl) (by rfl) (by rfl)) (by exact fun _ _=>rfl)) (@zU _ _ _ _ _ _ _ (@ZS _ _ _ _ _ _ _ (@qF _ _ 2 _ _ (by rfl) (by rfl) (by rfl)) (@qF _ _ 3 _ _ (by rfl) (by rfl) (by rfl))) (@qF _ _ 1 _ _ (by rfl) (by rfl) (by rfl))) (by exact fun _ _=>rfl)),⟨(@QN _ _ 3 _ (show (["_law_table","_law_length","_law_hue","_law_one"]:List Str).Nodup by decide +kernel) (by rfl) (by first |exact Or.inl rfl |exact Or.inr rfl) (by first |exact .inl rfl |exact .inr rfl |assumption)),(qa 3),TsOk.nil,rfl⟩,GsOk.nil⟩) (by intro _;rfl))) qE) V.n_sum (by rfl) (by rfl) (by rfl)) (by first |exact qu _ |with_unfolding_all rfl)) (@qO _ _ _ _ (@qd _ _ _ _ _ WZ)) qv)) (by intro _;rfl)) (@qJ _ _ _ _ _ _ (@qAO _ _ _ _ _ 5 6 _ _ _ _ _ _ _ _ _ hc sc_law_right.nd (@Wv _ _ _ _ _ _ _ _ _ (@qQ _ _ _ _ _ _ _ _ _ ((Yy V).call (hr.mono (by omega)) qW) (@qP _ _ _ _ _ _ _ (@qF _ _ 0 _ _ (by rfl) (by rfl) (by rfl)) (@qP _ _ _ _ _ _ _ (@qF _ _ 1 _ _ (by rfl) (by rfl) (by rfl)) qE)) (by rfl) (by rfl)) (@Wv _ _ _ _ _ _ _ _ _ (@qQ _ _ _ _ _ _ _ _ _ ((wk V).call (hr.mono (by omega)) qW) (@qP _ _ _ _ _ _ _ (@qF _ _ 0 _ _ (by rfl) (by rfl) (by rfl)) (@qP _ _ _ _ _ _ _ (@qF _ _ 1 _ _ (by rfl) (by rfl) (by rfl)) qE)) (by rfl) (by rfl)) qE)) (by rfl) (by rfl) (by rfl) (by decide) (by rfl) (by rfl) (by rfl)) (@qJ _ _ _ _ _ _ (@Qs _ _ _ _ _ _ _ _ _ (@yF _ _ _ _ (@ZL _ _ _ _ _ _ _ _ (@qx _ _ _ _ _ _ _ _ _ _ (W0 hu) Zn (@qF5 _ _ _ _ _ _ _ (@qF _ _ 5 _ _ (by rfl) (by rfl) (by rfl)) zJ) (@qF5 _ _ _ _ _ _ _ (@qF _ _ 6 _ _ (by rfl) (by rfl) (by rfl)) zJ) (by first |exact qu _ |with_unfolding_all rfl)) (@zW _ _ _ _ _ (@qx _ _ _ _ _ _ _ _ _ _ (wu hu) W9 (@qCo _ _ _ _ _ _ _ (@qP _ _ _ _ _ _ _ (@qF _ _ 3 _ _ (by rfl) (by rfl) (by rfl)) qE) V.n_sum (by rfl) (by rfl) (by rfl)) (@wD _ _ _ _ _ _ _ (@qP _ _ _ _ _ _ _ (@qF _ _ 0 _ _ (by rfl) (by rfl) (by rfl)) qE) V.n_len (by rfl) (by rfl) (by rfl)) (by first |exact qu _ |with_unfolding_all rfl))))) (@qO _ _ _ _ (@qd _ _ _ _ _ WZ)) qv) (@qJ _ _ _ _ _ _ (@Qs _ _ _ _ _ _ _ _ _ (@yF _ _ _ _ (@qAE _ _ _ _ _ _ _ _ (@qx _ _ _ _ _ _ _ _ _ _ Y8 yz (@qF _ _ 5 _ _ (by rfl) (by rfl) (by rfl)) zJ (by first |exact qu _ |with_unfolding_all rfl)) (@jj _ _ _ _ _ (@WH _ _ _ _ _ (@ww _ _ _ _ (@qQ _ _ _ _ _ _ _ _ _ ((ZY V).call (hr.mono (by omega)) qW) (@qP _ _ _ _ _ _ _ (@qF _ _ 0 _ _ (by rfl) (by rfl) (by rfl)) (@qP _ _ _ _ _ _ _ (@qF _ _ 1 _ _ (by rfl) (by rfl) (by rfl)) (@qP _ _ _ _ _ _ _ (@qF _ _ 5 _ _ (by rfl) (by rfl) (by rfl)) qE))) (by rfl) (by rfl)) (by intro _;rfl)))))) (@qO _ _ _ _ (@qd _ _ _ _ _ WZ)) qv) (@qJ _ _ _ _ _ _ (@Qs _ _ _ _ _ _ _ _ _ (@yF _ _ _ _ (@qAE _ _ _ _ _ _ _ _ (@qx _ _ _ _ _ _ _ _ _ _ Y8 yz (@qF _ _ 5 _ _ (by rfl) (by rfl) (by rfl)) zJ (by first |exact qu _ |with_unfolding_all rfl)) (@jj _ _ _ _ _ (@qx _ _ _ _ _ _ _ _ _ _ (wu hu) W9 (@JI _ _ _ _ _ _ _ _ hc V.n_len V.n_set (@qF _ _ 3 _ _ (by rfl) (by rfl) (by rfl)) (by rfl) (by rfl) (by rfl) (by rfl)) qR (by first |exact qu _ |with_unfolding_all rfl))))) (@qO _ _ _ _ (@qd _ _ _ _ _ WZ)) qv) (@qJ _ _ _ _ _ _ (@QM _ _ _ _ _ 7 _ _ sc_law_right.nd (@qQ _ _ _ _ _ _ _ _ _ ((ZH V).call (hr.mono (by omega)) qW) (@Wv _ _ _ _ _ _ _ _ _ (@qQ _ _ _ _ _ _ _ _ _ ((qAV V).call (hr.mono (by omega)) qW) (@qP _ _ _ _ _ _ _ (@qF _ _ 0 _ _ (by rfl) (by rfl) (by rfl)) qE) (by rfl) (by rfl)) (@qP _ _ _ _ _ _ _ (@qF _ _ 1 _ _ (by rfl) (by rfl) (by rfl)) qE)) (by rfl) (by rfl)) (by rfl) (by first |exact Or.inl rfl |exact Or.inr rfl) (by rfl) (by first |exact .inl rfl |exact .inr rfl |assumption)) (@qO _ _ _ _ (@qd _ _ _ _ _ (@qGG _ _ _ _ _ _ _ hu (@qF _ _ 7 _ _ (by rfl) (by rfl) (by rfl)) (@Qi _ _ _ _ (@QT _ _ _ _ _ _ _ (["_law_table","_law_length"]) (["_law_two"]) ([2,1]) _ _ _ _ _ (by exact Qd rfl (by decide +kernel) rfl rfl ⟨⟨rfl,rfl⟩,⟨⟨rfl,rfl⟩,trivial⟩⟩) (@qr _ _ _ _ _ _ _ rfl V.n_range (@qP _ _ _ _ _ _ _ (@qF _ _ 1 _ _ (by rfl) (by rfl) (by rfl)) qE) (by rfl)) (fun s' H' fp pn=>⟨(@Qi _ _ _ _ (@QT _ _ _ _ _ _ _ (["_law_two","_law_table"]) (["_law_one"]) ([2,0]) _ _ _ _ _ (by exact Qd rfl (by decide +kernel) rfl rfl ⟨⟨rfl,rfl⟩,⟨⟨rfl,rfl⟩,trivial⟩⟩) (@qr _ _ _ _ _ _ _ rfl V.n_range (@qP _ _ _ _ _ _ _ (@qF _ _ 1 _ _ (by rfl) (by rfl) (by rfl)) qE) (by rfl)) (fun s' H' fp pn=>⟨(@QH _ _ _ _ _ _ _ (@QH _ _ _ _ _ _ _ (@qF _ _ 1 _ _ (by rfl) (by rfl) (by rfl)) (@qF _ _ 2 _ _ (by rfl) (by rfl) (by rfl)) (by exact fun _ _=>rfl)) (@qF _ _ 0 _ _ (by rfl) (by rfl) (by rfl)) (by exact fun _ _=>rfl)),⟨(@QN _ _ 2 _ (show (["_law_two","_law_table","_law_one"]:List Str).Nodup by decide +kernel) (by rfl) (by first |exact Or.inl rfl |exact Or.inr rfl) (by first |exact .inl rfl |exact .inr rfl |assumption)),(qa 2),TsOk.nil,rfl⟩,GsOk.nil⟩) (by intro _;rfl))),⟨(@QN _ _ 2 _ (show (["_law_table","_law_length","_law_two"]:List Str).Nodup by decide +kernel) (by rfl) (by first |exact Or.inl rfl |exact Or.inr rfl) (by first |exact .inl rfl |exact .inr rfl |assumption)),(qa 2),TsOk.nil,rfl⟩,GsOk.nil⟩) (by intro _;rfl))))))))))))))
theorem sc_law:FnScope ["_law_script","_law_k","_law_box_here","_law_length","_law_floor_here","_law_filled","_law_bars","_law_cells","_law_less","_law_many"] ["_law_script"] (qI zA):=⟨rfl,rfl,rfl,by decide +kernel,rfl,by decide +kernel,by decide +kernel⟩
theorem qIc {fd:FuncData} (V:Env K mg a) (F:Fun K "law" "law" zA a.law fd):FnOk P w K mg base (CXF P w) 10 a.law fd ["_law_script"] (spG K 1 (JH a)):=by
 refine okV F sc_law fun cdv A outer s H E hr hcm=>⟨qGA a,?_,fun l s0 hl hn=>qZ hl⟩
 have hu:=hr.units
 have hc:(Wd (CXF P w) P w K mg base ["_law_script","_law_k","_law_box_here","_law_length","_law_floor_here","_law_filled","_law_bars","_law_cells","_law_less","_law_many"] "law" (qI zA) a.law cdv A outer s H E).calm=true:=by show A.handled.isNone=true;rw [hcm (by omega)];rfl
 exact (@qJ _ _ _ _ _ _ (@WL _ _ _ _ _ _ _ _ _ (@qr _ _ _ _ _ _ _ rfl V.n_range (@Wv _ _ _ _ _ _ _ _ _ (@qFh _ _ _ _ _ _ _ (@WK _ _ _ _ _ _ _ _ qR (@Wv _ _ _ _ _ _ _ _ _ (@qEv _ _ _ _ _ _ _ (@Wv _ _ _ _ _ _ _ _ _ (@wD _ _ _ _ _ _ _ (@qP _ _ _ _ _ _ _ (@qF _ _ 0 _ _ (by rfl) (by rfl) (by rfl)) qE) V.n_len (by rfl) (by rfl) (by rfl)) (@WK _ _ _ _ _ _ _ _ qR qE)) hc V.n_min (by rfl) (by rfl) (by rfl)) qE)) hc V.n_max (by rfl) (by rfl) (by rfl)) qE) (by rfl)) (@q0 _ _ 1 _ sc_law.nd (by rfl) (by first |exact Or.inl rfl |exact Or.inr rfl) (by first |exact .inl rfl |exact .inr rfl |assumption)) (@qJ _ _ _ _ _ _ (@QM _ _ _ _ _ 2 _ _ sc_law.nd (@qQ _ _ _ _ _ _ _ _ _ ((qBX V).call (hr.mono (by omega)) (qt _)) (@qP _ _ _ _ _ _ _ (@qF _ _ 0 _ _ (by rfl) (by rfl) (by rfl)) (@qP _ _ _ _ _ _ _ (@qF _ _ 1 _ _ (by rfl) (by rfl) (by rfl)) qE)) (by rfl) (by rfl)) (by rfl) (by first |exact Or.inl rfl |exact Or.inr rfl) (by rfl) (by first |exact .inl rfl |exact .inr rfl |assumption)) (@qJ _ _ _ _ _ _ (@QM _ _ _ _ _ 3 _ _ sc_law.nd (@QX _ _ _ _ _ _ _ qR (@qQ _ _ _ _ _ _ _ _ _ ((qw V).call (hr.mono (by omega)) (qt _)) (@qP _ _ _ _ _ _ _ (@qF _ _ 2 _ _ (by rfl) (by rfl) (by rfl)) (@WK _ _ _ _ _ _ _ _ qR qE)) (by rfl) (by rfl))) (by rfl) (by first |exact Or.inl rfl |exact Or.inr rfl) (by rfl) (by first |exact .inl rfl |exact .inr rfl |assumption)) (@qJ _ _ _ _ _ _ (@QM _ _ _ _ _ 4 _ _ sc_law.nd (@qQ _ _ _ _ _ _ _ _ _ ((jn V).call (hr.mono (by omega)) (qt _)) (@qP _ _ _ _ _ _ _ (@qF _ _ 2 _ _ (by rfl) (by rfl) (by rfl)) (@qP _ _ _ _ _ _ _ (@qF _ _ 3 _ _ (by rfl) (by rfl) (by rfl)) qE)) (by rfl) (by rfl)) (by rfl) (by first |exact Or.inl rfl |exact Or.inr rfl) (by rfl) (by first |exact .inl rfl |exact .inr rfl |assumption)) (@qJ _ _ _ _ _ _ (@QM _ _ _ _ _ 5 _ _ sc_law.nd (@wc _ _ _ _ _ _ _ (@Wv _ _ _ _ _ _ _ _ _ (@Jj _ _ _ _ _ _ hu V.n_sorted (@qQ _ _ _ _ _ _ _ _ _ ((YS V).call (hr.mono (by omega)) (qt _)) (@qP _ _ _ _ _ _ _ (@qF _ _ 2 _ _ (by rfl) (by rfl) (by rfl)) (@qP _ _ _ _ _ _ _ (@qF _ _ 3 _ _ (by rfl) (by rfl) (by rfl)) qE)) (by rfl) (by rfl)) (by rfl) (by rfl)) qE) V.n_tuple (by rfl) (by rfl) (by rfl)) (by rfl) (by first |exact Or.inl rfl |exact Or.inr rfl) (by rfl) (by first |exact .inl rfl |exact .inr rfl |assumption)) (@qJ _ _ _ _ _ _ (@Qs _ _ _ _ _ _ _ _ _ (@yF _ _ _ _ (@ZL _ _ _ _ _ _ _ _ (@WH _ _ _ _ _ (@ww _ _ _ _ (@qQ _ _ _ _ _ _ _ _ _ ((Zi V).call (hr.mono (by omega)) (qt _)) (@qP _ _ _ _ _ _ _ (@qF _ _ 4 _ _ (by rfl) (by rfl) (by rfl)) (@qP _ _ _ _ _ _ _ (@qF _ _ 3 _ _ (by rfl) (by rfl) (by rfl)) qE)) (by rfl) (by rfl)) (by intro _;rfl))) (@zW _ _ _ _ _ (@WH _ _ _ _ _ (@ww _ _ _ _ (@qQ _ _ _ _ _ _ _ _ _ ((Zi V).call (hr.mono (by omega)) (qt _)) (@qP _ _ _ _ _ _ _ (@qF _ _ 5 _ _ (by rfl) (by rfl) (by rfl)) (@qP _ _ _ _ _ _ _ (@qF _ _ 3 _ _ (by rfl) (by rfl) (by rfl)) qE)) (by rfl) (by rfl)) (by intro _;rfl)))))) (@qO _ _ _ _ (@qd _ _ _ _ _ WZ)) qv) (@qJ _ _ _ _ _ _ (@Qs _ _ _ _ _ _ _ _ _ (@yF _ _ _ _ (@ZL _ _ _ _ _ _ _ _ (@qx _ _ _ _ _ _ _ _ _ _ qCM qF4 (@qQ _ _ _ _ _ _ _ _ _ ((Yy V).call (hr.mono (by omega)) (qt _)) (@qP _ _ _ _ _ _ _ (@qF _ _ 5 _ _ (by rfl) (by rfl) (by rfl)) (@qP _ _ _ _ _ _ _ (@qF _ _ 3 _ _ (by rfl) (by rfl) (by rfl)) qE)) (by rfl) (by rfl)) zJ (by first |exact qu _ |with_unfolding_all rfl)) (@ZL _ _ _ _ _ _ _ _ (@qx _ _ _ _ _ _ _ _ _ _ (wu hu) W9 (@JI _ _ _ _ _ _ _ _ hc V.n_len V.n_set (@qQ _ _ _ _ _ _ _ _ _ ((jU V).call (hr.mono (by omega)) (qt _)) (@qP _ _ _ _ _ _ _ (@qF _ _ 5 _ _ (by rfl) (by rfl) (by rfl)) (@qP _ _ _ _ _ _ _ (@qF _ _ 3 _ _ (by rfl) (by rfl) (by rfl)) qE)) (by rfl) (by rfl)) (by rfl) (by rfl) (by rfl) (by rfl)) qR (by first |exact qu _ |with_unfolding_all rfl)) (@zW _ _ _ _ _ (@WH _ _ _ _ _ (@ww _ _ _ _ (@qQ _ _ _ _ _ _ _ _ _ ((qAa V).call (hr.mono (by omega)) (qt _)) (@qP _ _ _ _ _ _ _ (@qF _ _ 5 _ _ (by rfl) (by rfl) (by rfl)) qE) (by rfl) (by rfl)) (by intro _;rfl))))))) (@qO _ _ _ _ (@qd _ _ _ _ _ WZ)) qv) (@qJ _ _ _ _ _ _ (@QM _ _ _ _ _ 6 _ _ sc_law.nd (@qQ _ _ _ _ _ _ _ _ _ ((qBW V).call (hr.mono (by omega)) (qt _)) (@qP _ _ _ _ _ _ _ (@qF _ _ 4 _ _ (by rfl) (by rfl) (by rfl)) (@qP _ _ _ _ _ _ _ (@qF _ _ 3 _ _ (by rfl) (by rfl) (by rfl)) qE)) (by rfl) (by rfl)) (by rfl) (by first |exact Or.inl rfl |exact Or.inr rfl) (by rfl) (by first |exact .inl rfl |exact .inr rfl |assumption)) (@qO _ _ _ _ (@Qs _ _ _ _ _ _ _ _ _ (@qx _ _ _ _ _ _ _ _ _ _ (wu hu) W9 (@qF _ _ 6 _ _ (by rfl) (by rfl) (by rfl)) (@Qi _ _ _ _ (@wz _ _ _ _ _ qE)) (by first |exact qu _ |with_unfolding_all rfl)) (@qJ _ _ _ _ _ _ (@QM _ _ _ _ _ 7 _ _ sc_law.nd (@qQ _ _ _ _ _ _ _ _ _ ((J4 V).call (hr.mono (by omega)) (qt _)) (@qEl _ _ _ _ _ _ _ _ (@QH _ _ _ _ _ _ _ (@qF _ _ 6 _ _ (by rfl) (by rfl) (by rfl)) (@qQ _ _ _ _ _ _ _ _ _ ((qw V).call (hr.mono (by omega)) (qt _)) (@qP _ _ _ _ _ _ _ (@qF _ _ 2 _ _ (by rfl) (by rfl) (by rfl)) (@Wv _ _ _ _ _ _ _ _ _ (@wD _ _ _ _ _ _ _ (@qP _ _ _ _ _ _ _ (@qF _ _ 6 _ _ (by rfl) (by rfl) (by rfl)) qE) V.n_len (by rfl) (by rfl) (by rfl)) qE)) (by rfl) (by rfl)) (by exact fun _ _=>rfl)) (@qP _ _ _ _ _ _ _ (@qF _ _ 3 _ _ (by rfl) (by rfl) (by rfl)) qE)) (by rfl) (by rfl)) (by rfl) (by first |exact Or.inl rfl |exact Or.inr rfl) (by rfl) (by first |exact .inl rfl |exact .inr rfl |assumption)) (@qJ _ _ _ _ _ _ (@QM _ _ _ _ _ 8 _ _ sc_law.nd (@wc _ _ _ _ _ _ _ (@YH _ _ _ _ _ _ _ _ _ (@Qi _ _ _ _ (@QT _ _ _ _ _ _ _ (["_law_cells"]) (["_law_cell_here"]) ([7]) _ _ _ _ _ (by exact Qd rfl (by decide +kernel) rfl rfl ⟨⟨rfl,rfl⟩,trivial⟩) (@wY _ _ _ _ _ (@qF _ _ 4 _ _ (by rfl) (by rfl) (by rfl))) (fun s' H' fp pn=>⟨(@qF _ _ 1 _ _ (by rfl) (by rfl) (by rfl)),⟨(@QN _ _ 1 _ (show (["_law_cells","_law_cell_here"]:List Str).Nodup by decide +kernel) (by rfl) (by first |exact Or.inl rfl |exact Or.inr rfl) (by first |exact .inl rfl |exact .inr rfl |assumption)),(qa 1),(TsOk.cons (@qx _ _ _ _ _ _ _ _ _ _ (qB3 hu) qCr (@qF _ _ 1 _ _ (by rfl) (by rfl) (by rfl)) (@qF _ _ 0 _ _ (by rfl) (by rfl) (by rfl)) (by first |exact qu _ |with_unfolding_all rfl)) TsOk.nil),rfl⟩,GsOk.nil⟩) (by intro _;rfl))) qE) V.n_tuple (by rfl) (by rfl) (by rfl)) (by rfl) (by first |exact Or.inl rfl |exact Or.inr rfl) (by rfl) (by first |exact .inl rfl |exact .inr rfl |assumption)) (@qJ _ _ _ _ _ _ (@Qs _ _ _ _ _ _ _ _ _ (@qx _ _ _ _ _ _ _ _ _ _ (wu hu) W9 (@qQ _ _ _ _ _ _ _ _ _ ((wk V).call (hr.mono (by omega)) (qt _)) (@qP _ _ _ _ _ _ _ (@qF _ _ 8 _ _ (by rfl) (by rfl) (by rfl)) (@qP _ _ _ _ _ _ _ (@qF _ _ 3 _ _ (by rfl) (by rfl) (by rfl)) qE)) (by rfl) (by rfl)) (@qQ _ _ _ _ _ _ _ _ _ ((wk V).call (hr.mono (by omega)) (qt _)) (@qP _ _ _ _ _ _ _ (@qF _ _ 4 _ _ (by rfl) (by rfl) (by rfl)) (@qP _ _ _ _ _ _ _ (@qF _ _ 3 _ _ (by rfl) (by rfl) (by rfl)) qE)) (by rfl) (by rfl)) (by first |exact qu _ |with_unfolding_all rfl)) (@qO _ _ _ _ (@qd _ _ _ _ _ WZ)) qv) (@qJ _ _ _ _ _ _ (@qAo _ _ _ _ _ _ _ _ _ _ ([]) (["_law_one","_law_other"]) ([]) _ _ _ _ _ 9 sc_law.nd (by exact Qd rfl (by decide +kernel) rfl rfl trivial) (@qG0 _ _ _ _ _ _ _ _ _ _ hc V.n_zip (@Wv _ _ _ _ _ _ _ _ _ (@qQ _ _ _ _ _ _ _ _ _ ((jU V).call (hr.mono (by omega)) (qt _)) (@qP _ _ _ _ _ _ _ (@qF _ _ 4 _ _ (by rfl) (by rfl) (by rfl)) (@qP _ _ _ _ _ _ _ (@qF _ _ 3 _ _ (by rfl) (by rfl) (by rfl)) qE)) (by rfl) (by rfl)) (@Wv _ _ _ _ _ _ _ _ _ (@qQ _ _ _ _ _ _ _ _ _ ((jU V).call (hr.mono (by omega)) (qt _)) (@qP _ _ _ _ _ _ _ (@qF _ _ 8 _ _ (by rfl) (by rfl) (by rfl)) (@qP _ _ _ _ _ _ _ (@qF _ _ 3 _ _ (by rfl) (by rfl) (by rfl)) qE)) (by rfl) (by rfl)) qE)) (by rfl) (by rfl) (by rfl)) (fun s' H' fp pn=>⟨(@ZS _ _ _ _ _ _ _ (@qF _ _ 0 _ _ (by rfl) (by rfl) (by rfl)) (@qF _ _ 1 _ _ (by rfl) (by rfl) (by rfl))),⟨(@zX _ _ _ _ _ _ hc (@qy _ _ _ _ _ (@QN _ _ 0 _ (show (["_law_one","_law_other"]:List Str).Nodup by decide +kernel) (by rfl) (by first |exact Or.inl rfl |exact Or.inr rfl) (by first |exact .inl rfl |exact .inr rfl |assumption)) (@qy _ _ _ _ _ (@QN _ _ 1 _ (show (["_law_one","_law_other"]:List Str).Nodup by decide +kernel) (by rfl) (by first |exact Or.inl rfl |exact Or.inr rfl) (by first |exact .inl rfl |exact .inr rfl |assumption)) WV (by rfl)) (by rfl)) (by rfl) (by rfl)),(ZT (wj (qa 0) (wj (qa 1) ZO))),TsOk.nil,rfl⟩,GsOk.nil⟩) (by rfl) (by first |exact Or.inl rfl |exact Or.inr rfl) (by first |exact .inl rfl |exact .inr rfl |assumption) (by rfl) (by intro _;rfl)) (@qO _ _ _ _ (@Qs _ _ _ _ _ _ _ _ _ (@qx _ _ _ _ _ _ _ _ _ _ (wu hu) W9 (@qF _ _ 9 _ _ (by rfl) (by rfl) (by rfl)) (@Qi _ _ _ _ (@J9 _ _ _ _ _ _ _ (@wz _ _ _ _ _ (@WK _ _ _ _ _ _ _ _ qR qE)) (@qF _ _ 3 _ _ (by rfl) (by rfl) (by rfl)))) (by first |exact qu _ |with_unfolding_all rfl)) (@qO _ _ _ _ (@qd _ _ _ _ _ WZ)) qv)))))) qv))))))))) (by intro _;rfl)) (@qO _ _ _ _ (@qd _ _ _ _ _ WZ)))
end
end K15
end
section
namespace EV
open PySem L2 EX
theorem zO {G:qC->Prop} {k:PV->qC->Rs (List PV)} {st:qC} (hG:G st) {F:PV->List PV}:∀ {l:List PV},(∀ p∈l,k p st = .ok (F p) st)->qm G k l st = .ok (l.flatMap F) st
 |[],_=>by unfold qm;rw [AG hG];rfl
 |p::l,h=>by
  unfold qm
  rw [AG hG,h p AE]
  show (qm G k l st).bind _=_
  rw [zO hG fun q hq=>h q (AB _ hq)]
  rfl
theorem Zh {F:PV->PV}:∀ l:List PV,l.flatMap (fun p=>[F p])=l.map F
 |[]=>rfl
 |p::l=>by rw [List.flatMap_cons,Zh l];rfl
theorem zP {c:PV->Bool}:∀ l:List PV,l.flatMap (fun p=>if c p=true then [p] else [])=l.filter c
 |[]=>rfl
 |p::l=>by
  rw [List.flatMap_cons,zP l,Bn]
  cases c p <;> rfl
theorem QQ {caps:List Nat} {n:Nat} {fi:FI} {g:FG} {f:FE} {r:QC} {st:qC} {w:ItP} {F:PV->PV} (hfi:fi r st = .ok w st) (hG:w.G st) (hl:w.l.length≤sizeLine)
  (h:∀ p∈w.l,∃ r',g p (w5 caps n r)=some r'∧f r' st = .ok (F p) st):qh caps n fi g [] [] f r st = .ok (w.l.map F) st:=by
 unfold qh
 rw [hfi]
 show (match qm w.G (QG ⟨fi,g,[]⟩ (QR [] f) (w5 caps n r)) w.l st with | .ok l s'=>if l.length≤sizeLine then Rs.ok l s' else Rs.no |_=>Rs.no)=_
 rw [zO (F:=fun p=>[F p]) hG fun p hp=>by
  obtain ⟨r',h1,h2⟩:=h p hp
  unfold QG
  show (match g p (w5 caps n r) with |none=>_ |some r'=>_)=_
  rw [h1]
  show (QR [] f) r' st=_
  unfold QR
  rw [h2];rfl]
 rw [Zh]
 dsimp only
 rw [AG (by rw [AC];exact hl)]
theorem Wu {caps:List Nat} {n:Nat} {fi:FI} {g:FG} {t:FT} {f:FE} {r:QC} {st:qC} {w:ItP} {c:PV->Bool} (hfi:fi r st = .ok w st) (hG:w.G st) (hl:w.l.length≤sizeLine)
  (h:∀ p∈w.l,∃ r',g p (w5 caps n r)=some r'∧t r' st = .ok (c p) st∧f r' st = .ok p st):qh caps n fi g [t] [] f r st = .ok (w.l.filter c) st:=by
 unfold qh
 rw [hfi]
 show (match qm w.G (QG ⟨fi,g,[t]⟩ (QR [] f) (w5 caps n r)) w.l st with | .ok l s'=>if l.length≤sizeLine then Rs.ok l s' else Rs.no |_=>Rs.no)=_
 rw [zO (F:=fun p=>if c p=true then [p] else []) hG fun p hp=>by
  obtain ⟨r',h1,h2,h3⟩:=h p hp
  unfold QG
  show (match g p (w5 caps n r) with |none=>_ |some r'=>_)=_
  rw [h1]
  show (wA [t] r' st).bind _=_
  unfold wA wA
  rw [h2]
  cases hc:c p
  ·rfl
  ·show (QR [] f) r' st=_
   unfold QR
   rw [h3];rfl]
 rw [zP]
 dsimp only
 rw [AG (Am (List.length_filter_le _ _) hl)]
theorem Yg {G:qC->Prop} {g:FG} {F:FS} {r:QC} {st:qC} (h:G st):Qa G g F [] r st = .nx r st:=by unfold Qa;rw [AG h]
theorem yV {G:qC->Prop} {g:FG} {F:FS} {r r1 r2:QC} {st s2:qC} {p:PV} {ps:List PV} (h:G st) (h1:g p r=some r1) (h2:F r1 st = .nx r2 s2):Qa G g F (p::ps) r st=Qa G g F ps r2 s2:=by
 rw [Qa,AG h,h1]
 dsimp only
 rw [h2]
section
variable {F G:FS} {f:FE} {fl:FL} {fi:FI} {g:FG} {t:FT} {r r':QC} {st st':qC} {p:PV} {l:List PV} {w:ItP} {i:Nat}
theorem WD (h:F r st = .nx r' st'):qS F G r st=G r' st':=by unfold qS;rw [h]
theorem qAL (h:F r st = .rt p st'):qS F G r st = .rt p st':=by unfold qS;rw [h]
theorem qIy {x:Exc} (h:F r st = .ex x st'):qS F G r st = .ex x st':=by unfold qS;rw [h]
theorem qJJ {x:Exc} (h:f r st = .ex x st'):WN f r st = .ex x st':=by unfold WN;rw [h];rfl
theorem qIt {x:Exc} {n N:Nat} {B:FS} (hl:l.length=n) (h:B (QZ N l) st = .ex x st'):QD n N B l st = .ex x st':=by unfold QD;rw [AG hl,h];rfl
theorem qGu (h:f r st = .ok p st'):WN f r st = .nx r st':=by unfold WN;rw [h];rfl
theorem zx (h:f r st = .ok p st'):ql i f r st = .nx (r.set i (some p)) st':=by unfold ql;rw [h];rfl
theorem qFK (h:fl r st = .ok l st'):WO i fl r st = .nx (r.set i (some (.ref st'.length))) (st'++[.l l]):=by unfold WO;rw [h];rfl
theorem yu (h:f r st = .ok p st'):qe f r st = .rt p st':=by unfold qe;rw [h];rfl
theorem qAd (h:fl r st = .ok l st'):yR fl r st = .rt (.ref st'.length) (st'++[.l l]):=by unfold yR;rw [h];rfl
theorem qDE (h:fi r st = .ok w st'):wn fi g F r st=Qa w.G g F w.l r st':=by unfold wn;rw [h];rfl
theorem qHj (h:t r st = .ok true st'):Qb t F G r st=F r st':=by unfold Qb;rw [h];rfl
theorem qHV (h:t r st = .ok false st'):Qb t F G r st=G r st':=by unfold Qb;rw [h];rfl
theorem qIj (h:fl r st = .ok l st'):vFz fl r st = .ok (.lst l) st':=by unfold vFz;rw [h];rfl
theorem zZ {k:List PV->qC->Rs PV} {fa:FA} (h:fa r st = .ok l st'):qH k fa r st=k l st':=by unfold qH;rw [h];rfl
theorem qAe {fa:FA} {st2:qC} (h:f r st = .ok p st') (h2:fa r st' = .ok l st2):qA f fa r st = .ok (p::l) st2:=by unfold qA;rw [h];show (fa r st').bind _=_;rw [h2];rfl
theorem QL {k:PV->PV->qC->Rs PV} {fb:FE} {q:PV} {st2:qC} (h:f r st = .ok p st') (h2:fb r st' = .ok q st2):qG k f fb r st=k p q st2:=by unfold qG;rw [h];show (fb r st').bind _=_;rw [h2];rfl
theorem qB6 {b:Bool} (h:f r st = .ok (.bl b) st'):Qc f r st = .ok b st':=by unfold Qc;rw [h];rfl
theorem qHg {b:Bool} (h:t r st = .ok b st'):wQ t r st = .ok (!b) st':=by unfold wQ;rw [h];rfl
theorem qAh {b:Bool} (h:f r st = .ok (.bl b) st'):vTB f r st = .ok b st':=by unfold vTB;rw [h];rfl
theorem WX {n N:Nat} {B:FS} (hl:l.length=n) (h:B (QZ N l) st = .rt p st'):QD n N B l st = .ok p st':=by unfold QD;rw [AG hl,h];rfl
end
section
variable {F G:FS} {f fb fo fi2:FE} {fl:FL} {fi:FI} {fa:FA} {g:FG} {t u:FT} {r r1 r':QC} {st s1 s2 s3:qC} {p q z:PV} {l m:List PV} {w:ItP} {i:Nat} {b c:Bool} {x:Exc} {o:RS} {R:Rs PV}
theorem qU {k:PV->PV->qC->Rs PV} (h:f r st = .ok p s1) (h2:fb r s1 = .ok q s2) (h3:k p q s2=R):qG k f fb r st=R:=by rw [QL h h2];exact h3
theorem qK {k:List PV->qC->Rs PV} (h:fa r st = .ok l s1) (h2:k l s1=R):qH k fa r st=R:=by rw [zZ h];exact h2
theorem qk:qD r st = .ok [] st:=rfl
theorem qL (h:f r st = .ok p s1) (h2:fa r s1 = .ok l s2):qA f fa r st = .ok (p::l) s2:=qAe h h2
theorem W8 (h:fa r st = .ok l s1) (hl:l.length≤sizeLine):wa fa r st = .ok (.tup l) s1:=by unfold wa;rw [h];exact AG hl
theorem w6 (h:fl r st = .ok l s1):vFz fl r st = .ok (.lst l) s1:=qIj h
theorem qD9 (h:f r st = .ok p s1) (h2:fb r s1 = .ok q s2) (e1:asL s2 p=some l) (e2:asL s2 q=some m) (hl:l.length + m.length≤sizeLine):yE f fb r st = .ok (l++m) s2:=by
 unfold yE;rw [h];show (fb r s1).bind _=_;rw [h2];show (match asL s2 p with |some l=>_ |none=>_)=_;rw [e1];dsimp only;rw [e2];dsimp only;rw [AG hl]
theorem wE (h:f r st = .ok (.bl b) s1):Qc f r st = .ok b s1:=qB6 h
theorem Ql (h:f r st = .ok (.bl b) s1):vTB f r st = .ok b s1:=qAh h
theorem w_not (h:t r st = .ok b s1):wQ t r st = .ok (!b) s1:=qHg h
theorem qGl (h:t r st = .ok true s1):Wz t u r st = .ok true s1:=by unfold Wz;rw [h];rfl
theorem Wc (h:t r st = .ok false s1) (h2:u r s1 = .ok b s2):Wz t u r st = .ok b s2:=by unfold Wz;rw [h];exact h2
theorem jS (h:t r st = .ok false s1):zB t u r st = .ok false s1:=by unfold zB;rw [h];rfl
theorem Z5 (h:t r st = .ok true s1) (h2:u r s1 = .ok b s2):zB t u r st = .ok b s2:=by unfold zB;rw [h];exact h2
theorem qY (h:F r st = .nx r' s1) (h2:G r' s1=o):qS F G r st=o:=by rw [WD h];exact h2
theorem Wn (h:F r st = .rt p s1):qS F G r st = .rt p s1:=qAL h
theorem Qq (h:f r st = .ok p s1):ql i f r st = .nx (r.set i (some p)) s1:=zx h
theorem jZ (h:fl r st = .ok l s1):WO i fl r st = .nx (r.set i (some (.ref s1.length))) (s1++[.l l]):=qFK h
theorem yZ (h:f r st = .ok p s1):WN f r st = .nx r s1:=qGu h
theorem Qr (h:f r st = .ok p s1):qe f r st = .rt p s1:=yu h
theorem Ws (h:t r st = .ok true s1) (h2:F r s1=o):Qb t F G r st=o:=by rw [qHj h];exact h2
theorem QJ (h:t r st = .ok false s1) (h2:G r s1=o):Qb t F G r st=o:=by rw [qHV h];exact h2
theorem qFb (h:t r st = .ok true s1) (h2:f r s1=R):vIf t f fb r st=R:=by unfold vIf;rw [h];exact h2
theorem qFN (h:t r st = .ok false s1) (h2:fb r s1=R):vIf t f fb r st=R:=by unfold vIf;rw [h];exact h2
theorem W7 (h:fi r st = .ok w s1) (h2:Qa w.G g F w.l r s1=o):wn fi g F r st=o:=by rw [qDE h];exact h2
theorem Qh {Gd:qC->Prop} (h:Gd st):Qa Gd g F [] r st = .nx r st:=Yg h
theorem Wh {Gd:qC->Prop} {ps:List PV} (h:Gd st) (h1:g p r=some r1) (h2:F r1 st = .nx r' s2) (h3:Qa Gd g F ps r' s2=o):Qa Gd g F (p::ps) r st=o:=by rw [yV h h1 h2];exact h3
theorem qEE {r1:QC} (h:f r st = .ok p s1) (h2:g p r=some r1):YW f g r st = .nx r1 s1:=by unfold YW;rw [h];show (match g p r with |some r'=>RS.nx r' s1 |none=>RS.no)=_;rw [h2]
theorem qDs {j:Nat} (h:fa r st = .ok [p,q] s1):Zj i j fa r st = .nx ((r.set i (some p)).set j (some q)) s1:=by unfold Zj;rw [h];rfl
theorem Qe {n N:Nat} {B:FS} (hl:l.length=n) (h:B (QZ N l) st = .rt p s1):QD n N B l st = .ok p s1:=WX hl h
theorem qB9 {n N:Nat} {B:FS} (hl:l.length=n) (h:B (QZ N l) st = .nx r1 s1):QD n N B l st = .ok .non s1:=by unfold QD;rw [AG hl,h];rfl
theorem sz {n:Nat} (h:Nat.ble n 1000=true):n≤sizeLine:=Am (Nat.le_of_ble_eq_true h) (by decide)
theorem qAj {i j:Int} (h:0 < j):w4 (.int i) (.int j) st = .ok (.int (i % j)) st:=by unfold w4 gI;dsimp only;rw [AG h]
theorem Wo {i j:Int}:QE (.int i) (.int j) st = .ok (.int (i + j)) st:=rfl
theorem jB {i j:Int}:WQ (.int i) (.int j) st = .ok (.int (i - j)) st:=rfl
theorem w_lt {i j:Int}:gLt (.int i) (.int j) st = .ok (.bl (decide (i < j))) st:=rfl
theorem qJD {i j:Int}:gLe (.int i) (.int j) st = .ok (.bl (decide (i≤j))) st:=rfl
theorem qIB {i j:Int}:gGt (.int i) (.int j) st = .ok (.bl (decide (i > j))) st:=rfl
theorem qGy {i j:Int} (h:i < j):gLt (.int i) (.int j) st = .ok (.bl true) st:=by rw [w_lt,AS h]
theorem qG3 {i j:Int} (h:¬ i < j):gLt (.int i) (.int j) st = .ok (.bl false) st:=by rw [w_lt,Aa h]
theorem qCj {i j:Int} (h:i > j):gGt (.int i) (.int j) st = .ok (.bl true) st:=by rw [qIB,AS h]
theorem qCy {i j:Int} (h:¬ i > j):gGt (.int i) (.int j) st = .ok (.bl false) st:=by rw [qIB,Aa h]
theorem YI {i:Int} (h:zg st p=some l) (h2:atI l i=some z):gIx p (.int i) st = .ok z st:=by unfold gIx;simp only [h,h2]
theorem zF (h:zg st p=some l) {n:Int} (hn:(l.length:Int)=n):wg [p] st = .ok (.int n) st:=by unfold wg;simp only [h];rw [hn]
theorem ZC {n:Nat} (h:st[n]? = some (.l l)):zg st (.ref n)=some l:=by unfold zg asL;simp only [h]
theorem wH {n:Nat} (h:st[n]? = some (.l l)):asL st (.ref n)=some l:=by unfold asL;simp only [h]
theorem YC {n:Nat} (h:r[n]? = some (some p)):qB n r st = .ok p st:=by unfold qB;rw [h]
theorem qDR {k:Int} (h:fl r st = .ok l s1) (h2:f r s1 = .ok (.int k) s2) (h0:0≤k) (h1:l.length * k.toNat≤sizeLine) (hk:k < 2 ^ 63):y0 fl f r st = .ok (List.replicate k.toNat l).flatten s2:=by
 unfold y0;rw [h];show (f r s1).bind _=_;rw [h2];show (if -(2 ^ 63)≤k∧k < 2 ^ 63∧l.length * k.toNat≤sizeLine then Rs.ok (List.replicate k.toNat l).flatten s2 else Rs.no)=_;rw [AG ⟨by omega,hk,h1⟩]
theorem qFM {n j:Nat} {k:Int} {v:PV} (h:st[n]? = some (.l l)) (hj:ixN l.length k=some j):zi st (.ref n) (.int k) v=some (st.set n (.l (l.set j v))):=by unfold zi;simp only [h,hj]
theorem ZB {n:Nat} {k:Int} (h0:0≤k) (h1:k < n):ixN n k=some k.toNat:=by unfold ixN;rw [AG h0,AG (by omega)]
theorem wN {Gd:qC->Prop} {k:PV->qC->Rs (List PV)} (h:Gd st):qm Gd k [] st = .ok [] st:=by unfold qm;exact AG h
theorem WT {Gd:qC->Prop} {k:PV->qC->Rs (List PV)} {ps:List PV} (hG:Gd st) (h:k p st = .ok l s1) (h2:qm Gd k ps s1 = .ok m s2):qm Gd k (p::ps) st = .ok (l++m) s2:=by
 rw [qm,AG hG,h];show (qm Gd k ps s1).bind _=_;rw [h2];rfl
theorem yh (h:g p r=some r') (hf:f r' st = .ok q s1):QG ⟨fi,g,[]⟩ (QR [] f) r p st = .ok [q] s1:=by
 unfold QG;show (match g p r with |none=>_ |some r'=>_)=_;rw [h];show (QR [] f) r' st=_;unfold QR;rw [hf];rfl
theorem yv {caps:List Nat} {n:Nat} {ts:List FT} {gs:List GenF} (hfi:fi r st = .ok w s1) (h:qm w.G (QG ⟨fi,g,ts⟩ (QR gs f) (w5 caps n r)) w.l s1 = .ok l s2) (hl:l.length≤sizeLine):qh caps n fi g ts gs f r st = .ok l s2:=by
 unfold qh;rw [hfi];show (match qm w.G (QG ⟨fi,g,ts⟩ (QR gs f) (w5 caps n r)) w.l s1 with | .ok l s'=>if l.length≤sizeLine then Rs.ok l s' else Rs.no |_=>Rs.no)=_;rw [h];exact AG hl
theorem WU (h:zg st p=some l):wF [p] st = .ok (.tup l) st:=by unfold wF;simp only [h]
theorem yD (h:f r st = .ok (.lst l) s1):q9 f r st = .ok ⟨l,fun _=>True⟩ s1:=by unfold q9;rw [h];rfl
theorem Qo (h:f r st = .ok (.tup l) s1):q9 f r st = .ok ⟨l,fun _=>True⟩ s1:=by unfold q9;rw [h];rfl
end
abbrev CE:=QC->Option PV
section
variable {F G:FS} {f fb fc fo fi2:FE} {fl:FL} {fi:FI} {fa:FL} {g:FG} {t u:FT} {c d e:CE} {co cp:CO} {f1 f2:FO} {r r':QC} {st s1 s2 s3:qC} {p q z:PV} {l:List PV} {n:Nat} {o:RS}
theorem yG (h:f r st = .ok (.ref n) s1) (h2:s1[n]? = some (.l l)):q9 f r st = .ok ⟨l,fun s=>s[n]? = some (.l l)⟩ s1:=by
 unfold q9;rw [h];show qFf (.ref n) s1=_;unfold qFf;dsimp only;rw [wH h2]
theorem qJR (h:st[n]? = some (.l l)):lk st (.ref n)=true:=by unfold lk;dsimp only;rw [h]
end
end EV
end
section
namespace EV
open PySem ET
abbrev qN:=Int×Int
def cP (c:qN):PV := .tup [.int c.1,.int c.2]
def cL (c:qN):List Int:=[c.1,c.2]
def lC:List Int->qN
 |[x,y]=>(x,y)
 |_=>(0,0)
theorem qCt:∀ l:List qN,nrs (l.map cP)=true
 |[]=>rfl
 |c::l=>by rw [AU,nrs,qCt l];rfl
theorem J5:∀ l:List qN,deps (l.map cP)≤1
 |[]=>A6 _
 |c::l=>by
  rw [AU,deps]
  have:=J5 l
  have h:dep (cP c)=1:=rfl
  omega
theorem qF3 (a b:qN):peq (cP a) (cP b)=decide (a=b):=by
 obtain ⟨a1,a2⟩:=a
 obtain ⟨b1,b2⟩:=b
 show ((a1==b1)&&((a2==b2)&&true))=_
 rw [Bool.and_true]
 by_cases h1:a1=b1
 ·by_cases h2:a2=b2
  ·subst h1;subst h2;simp
  ·rw [BB.mpr h2,B2];exact (Aa (by simp [h2])).symm
 ·rw [BB.mpr h1,Bool.false_and];exact (Aa (by simp [h1])).symm
theorem qF0 (c:qN):∀ l:List qN,pin (cP c) (l.map cP)=decide (c∈l)
 |[]=>rfl
 |d::l=>by
  rw [AU,pin,qF3,qF0 c l]
  by_cases h:d=c
  ·subst h;rw [AS rfl,Bool.true_or];exact (AS AE).symm
  ·rw [Aa h,Bool.false_or]
   refine decide_eq_decide.mpr ⟨fun q=>AB _ q,fun q => ?_⟩
   rcases AL.mp q with z |z
   ·exact absurd z.symm h
   ·exact z
theorem qGq {neg:Bool} {c:qN} {l:List qN} {q:PV} {st:qC} (h:zg st q=some (l.map cP)):gIn neg (cP c) q st = .ok (.bl (if neg then !decide (c∈l) else decide (c∈l))) st:=by
 unfold gIn
 rw [h]
 dsimp only
 rw [AG ⟨qCt l,rfl,Am (J5 l) (by decide)⟩]
 show Rs.ok (PV.bl (if neg then !pin (cP c) (l.map cP) else pin (cP c) (l.map cP))) st=_
 rw [qF0]
theorem eq_nil {l:List qN} {st:qC}:gEq (.lst (l.map cP)) (.lst []) st = .ok (.bl l.isEmpty) st:=by
 have h1:zC (.lst (l.map cP)) (.lst [])=true:=by
  show (nrs (l.map cP)&&true&&decide (deps (l.map cP) + 1≤yq))=true
  rw [qCt,AS (Am (BX (J5 l)) (by decide))];rfl
 show (if zC (.lst (l.map cP)) (.lst [])=true then Rs.ok (PV.bl (peq (PV.lst (l.map cP)) (PV.lst []))) st else Rs.no)=_
 rw [AG h1]
 cases l <;> rfl
theorem qHJ (c:qN):jC (cP c)=some (cL c):=rfl
theorem Jw:∀ l:List qN,wC jC (l.map cP)=some (l.map cL)
 |[]=>rfl
 |c::l=>by rw [AU,wC,qHJ];dsimp only;rw [Jw l];rfl
theorem Y4:∀ (vs acc:List (List Int)),acc.Nodup->(vs.foldl ddTS acc).Nodup
 |[],acc,h=>h
 |k::vs,acc,h=>by
  rw [BF]
  refine Y4 vs _ ?_
  unfold ddTS
  split
  ·exact h
  ·rename_i q
   exact List.nodup_append.mpr ⟨h,by simp,fun a ha b hb=>by rw [Ai.mp hb];intro z;subst z;exact q ha⟩
theorem qA5:∀ (vs acc:List (List Int)) (x:List Int),x∈vs.foldl ddTS acc ↔ x∈acc∨x∈vs
 |[],acc,x=>by simp
 |k::vs,acc,x=>by
  rw [BF,qA5 vs _ x]
  unfold ddTS
  split
  ·rename_i q
   constructor
   ·rintro (h |h)
    ·exact .inl h
    ·exact .inr (AB _ h)
   ·rintro (h |h)
    ·exact .inl h
    ·rcases AL.mp h with rfl |h
     ·exact .inl q
     ·exact .inr h
  ·simp only [Ar,AL,Al,or_false]
   constructor
   ·rintro ((h |h) |h)
    ·exact .inl h
    ·exact .inr (.inl h)
    ·exact .inr (.inr h)
   ·rintro (h |h |h)
    ·exact .inl (.inl h)
    ·exact .inl (.inr h)
    ·exact .inr h
def We (l:List qN):List qN:=(srt (l.map cL)).map lC
def ZE (l:List qN):List qN:=(srt (ddT (l.map cL))).map lC
theorem YY (c:qN):lC (cL c)=c:=rfl
theorem qDP {l:List (List Int)} {m:List qN} (h:∀ x∈l,x∈m.map cL):l.map Zr=(l.map lC).map cP:=by
 rw [Ak]
 refine Ap fun x hx => ?_
 obtain ⟨c,_,rfl⟩:=Ae.mp (h x hx)
 rfl
theorem qEt (l:List qN):(srt (l.map cL)).map Zr=(We l).map cP:=qDP fun x hx=>(srt_perm _).mem_iff.mp hx
theorem ddT_in {l:List qN} {x:List Int}:x∈ddT (l.map cL) ↔ x∈l.map cL:=by
 unfold ddT;rw [qA5];simp
theorem qEo (l:List qN):(srt (ddT (l.map cL))).map Zr=(ZE l).map cP:=qDP fun x hx=>ddT_in.mp ((srt_perm _).mem_iff.mp hx)
theorem mem_cL {l:List qN} {c:qN}:cL c∈l.map cL ↔ c∈l:=by
 rw [Ae]
 constructor
 ·rintro ⟨d,hd,e⟩
  have:d=c:=by rw [← YY d,e,YY]
  rw [← this];exact hd
 ·intro h;exact ⟨c,h,rfl⟩
theorem mem_srtC {l:List qN} {c:qN}:c∈We l ↔ c∈l:=by
 unfold We
 rw [Ae]
 constructor
 ·rintro ⟨x,hx,rfl⟩
  obtain ⟨d,hd,rfl⟩:=Ae.mp ((srt_perm _).mem_iff.mp hx)
  exact hd
 ·intro h;exact ⟨cL c,(srt_perm _).mem_iff.mpr (mem_cL.mpr h),rfl⟩
theorem mem_sddC {l:List qN} {c:qN}:c∈ZE l ↔ c∈l:=by
 unfold ZE
 rw [Ae]
 constructor
 ·rintro ⟨x,hx,rfl⟩
  obtain ⟨d,hd,rfl⟩:=Ae.mp (ddT_in.mp ((srt_perm _).mem_iff.mp hx))
  exact hd
 ·intro h;exact ⟨cL c,(srt_perm _).mem_iff.mpr (ddT_in.mpr (mem_cL.mpr h)),rfl⟩
theorem qCw (l:List qN):(We l).length=l.length:=by unfold We;rw [AC,(srt_perm _).length_eq,AC]
theorem qBJ (l:List qN):(ddT (l.map cL)).length≤l.length:=by
 have:=je (l.map cL) []
 have z:([]:List (List Int)).length=0:=rfl
 rw [AC] at this
 unfold ddT;omega
theorem JW (l:List qN):(ZE l).length≤l.length:=by unfold ZE;rw [AC,(srt_perm _).length_eq];exact qBJ l
def clt (a b:qN):Prop:=a.1 < b.1∨(a.1=b.1∧a.2 < b.2)
instance (a b:qN):Decidable (clt a b):=by unfold clt;infer_instance
theorem qIl (a b:qN):lxb (cL a) (cL b)=decide (clt a b):=by
 obtain ⟨a1,a2⟩:=a
 obtain ⟨b1,b2⟩:=b
 show (if a1 < b1 then true else if b1 < a1 then false else (if a2 < b2 then true else if b2 < a2 then false else false))=_
 by_cases h1:a1 < b1
 ·rw [AG h1];exact (AS (.inl h1)).symm
 ·rw [AH h1]
  by_cases h2:b1 < a1
  ·rw [AG h2];exact (Aa (by unfold clt;simp;omega)).symm
  ·rw [AH h2]
   by_cases h3:a2 < b2
   ·rw [AG h3];exact (AS (.inr ⟨by simp;omega,h3⟩)).symm
   ·rw [AH h3]
    have:(if b2 < a2 then false else false)=false:=by split <;> rfl
    rw [this]
    exact (Aa (by unfold clt;simp;omega)).symm
theorem Y5 (l:List qN):(ZE l).Pairwise clt:=by
 have h1:=ZQ (ddT (l.map cL))
 have h2:(srt (ddT (l.map cL))).Nodup:=(srt_perm _).nodup_iff.mpr (Y4 _ _ List.nodup_nil)
 have h3:(srt (ddT (l.map cL))).Pairwise (fun a b=>lxb b a=false∧a≠b):=h1.and h2
 unfold ZE
 rw [BN]
 refine List.Pairwise.imp_of_mem ?_ h3
 intro x y hx hy ⟨p,q⟩
 obtain ⟨c,_,rfl⟩:=Ae.mp (ddT_in.mp ((srt_perm _).mem_iff.mp hx))
 obtain ⟨d,_,rfl⟩:=Ae.mp (ddT_in.mp ((srt_perm _).mem_iff.mp hy))
 rw [YY,YY]
 rw [qIl] at p
 have p:=of_decide_eq_false p
 have hne:c≠d:=fun z=>q (by rw [z])
 unfold clt at p ⊢
 have:¬ (c.1=d.1∧c.2=d.2):=fun z=>hne (Prod.ext z.1 z.2)
 omega
theorem qDM {l:List qN} {q:PV} {st:qC} (h:zg st q=some (l.map cP)) (hl:l.length≤63):YD q st = .ok (.lst ((ZE l).map cP)) st:=by
 unfold YD
 rw [h]
 dsimp only
 rw [Jw]
 dsimp only
 rw [AG ⟨by rw [AC];omega,by have:=qBJ l;omega⟩,qEo]
theorem qDd {l:List qN} {q:PV} {st:qC} (h:asL st q=some (l.map cP)) (hl:l.length≤63):ZR q st = .ok (.lst ((We l).map cP)) st:=by
 unfold ZR
 rw [h]
 dsimp only
 rw [Jw]
 dsimp only
 rw [AG (by rw [AC];omega),qEt]
section
variable {F G:FS} {f fb fo fi2:FE} {fl:FL} {fi:FI} {fa:FA} {g:FG} {t u:FT} {r r1 r':QC} {st s1 s2 s3 s4:qC} {p q z:PV} {l m:List PV} {w:ItP} {n:Nat}
theorem qDj (h:f r st = .ok p s1) {R:Rs PV} (h2:YD p s1=R):ja f r st=R:=by unfold ja;rw [h];exact h2
theorem qDz (h:f r st = .ok p s1) {R:Rs PV} (h2:ZR p s1=R):ZU f r st=R:=by unfold ZU;rw [h];exact h2
theorem qEy {k:Int} (h:fo r st = .ok (.ref n) s1) (hk:lk s1 (.ref n)=true) (h2:f r s1 = .ok (.int k) s2) (h3:s2[n]? = some (.l l)) (h0:0≤k∧k < 1048576) (h4:l[k.toNat]? = some p):yd fo f r st = .ok p (s2.set n (.l (l.eraseIdx k.toNat))):=by
 unfold yd;rw [h];show (if lk s1 (.ref n)=true then _ else _)=_;rw [AG hk,h2]
 show (match PV.int k,s2[n]? with | .int k,some (.l xs)=>if 0≤k∧k < 1048576 then match xs[k.toNat]? with |some y=>Rs.ok y (s2.set n (.l (xs.eraseIdx k.toNat))) |none => .no else .no |_,_ => .no)=_
 rw [h3];dsimp only;rw [AG h0,h4]
theorem qCT {k x y:Int} (h:fo r st = .ok (.ref n) s1) (h2:fi2 r s1 = .ok (.int k) s2) (h3:s2[n]? = some (.l l)) (h0:0≤k) (hx:l[k.toNat]? = some (.int x)) (h4:f r s2 = .ok (.int y) s3) (h5:s3[n]? = some (.l m)) (hm:k.toNat < m.length):zp fo fi2 f r st = .nx r (s3.set n (.l (m.set k.toNat (.int (x + y))))):=by
 unfold zp;rw [h];show (fi2 r s1).bindS _=_;rw [h2];show (match qB1 s2 (.ref n) (.int k) with |some x=>_ |none=>_)=_
 have hg:qB1 s2 (.ref n) (.int k)=some x:=by unfold qB1;dsimp only;rw [h3];dsimp only;rw [AG h0,hx]
 rw [hg];show (f r s2).bindS _=_;rw [h4]
 show (match zi s3 (.ref n) (.int k) (.int (x + y)) with |some s4=>RS.nx r s4 |none => .no)=_
 rw [qFM h5 (ZB h0 (by omega))]
theorem qIu (h:fl r st = .ok l s1):vMk fl r st = .ok (.ref s1.length) (s1++[.l l]):=by unfold vMk;rw [h];rfl
theorem qFm {a b:Option Int} {f1 f2:FO} (h:f r st = .ok p s1) (h1:f1 r s1 = .ok a s2) (h2:f2 r s2 = .ok b s3) (h3:asL s3 p=some l):qAB f f1 f2 r st = .ok (.lst (qAC l a b)) s3:=by
 unfold qAB;rw [h];show (f1 r s1).bind _=_;rw [h1];show (f2 r s2).bind _=_;rw [h2];show (match asL s3 p with |some l=>_ |none=>_)=_;rw [h3]
theorem Y3 {Gd:qC->Prop} {ps:List PV} (h:Gd st) (h1:g p r=some r1) (h2:F r1 st = .rt z s2):Qa Gd g F (p::ps) r st = .rt z s2:=by
 rw [Qa,AG h,h1]
 dsimp only
 rw [h2]
theorem qBA {k:Int} (h:f r st = .ok (.int k) s1):zK f r st = .ok (some k) s1:=by unfold zK;rw [h];rfl
end
end EV
end
noncomputable section
namespace K15
open PySem EV
def qD3:PV->Bool
 | .non=>true | .bl _=>true | .int _=>true | .str _=>true | .tup _=>true | .lst _=>true | .dct=>true |_=>false
def isInt:PV->Bool
 | .int _=>true
 |_=>false
theorem J1 {a:Ad} {v:PV} {st:qC} (h:qD3 v=true):zz a [v] st = .ok (.bl (isInt v)) st:=by
 cases v <;> first |rfl |cases h
def Zb (lo hi:Int):PV->Bool
 | .int i=>decide (lo≤i)&&decide (i≤hi)
 |_=>false
theorem yp {a:Ad} {v:PV} {st:qC} {lo hi:Int} (h:qD3 v=true):qo a [v,.int lo,.int hi] st = .ok (.bl (Zb lo hi v)) st:=by
 refine WX rfl ?_
 unfold wR
 refine (yu (p := .bl (Zb lo hi v)) (st':=st) ?_)
 unfold jL
 rw [zZ (l:=[v]) (st':=st) rfl,J1 h]
 cases v with
 |int i =>
  show (match (PV.bl (decide (lo≤i))) with | .bl true=>Rs.ok (PV.bl (decide (i≤hi))) st | .bl false=>Rs.ok (.bl false) st |_ => .no)=_
  unfold Zb
  dsimp only
  cases decide (lo≤i) <;> rfl
 |_=>rfl
theorem Ji {a:Ad} {v:PV} {st:qC} (h:qD3 v=true):WY a [v] st = .ok (.bl (Zb 2 5 v)) st:=by
 refine WX rfl ?_
 unfold zE
 refine (yu (p := .bl (Zb 2 5 v)) (st':=st) ?_)
 rw [zZ (l:=[v,.int 2,.int 5]) (st':=st) rfl]
 exact yp h
theorem jo {f:PV->Bool}:∀ l:List PV,wC pbl (l.map fun p => .bl (f p))=some (l.map f)
 |[]=>rfl
 |p::l=>by simp only [AU,wC,pbl,jo l]
theorem Wt {i j:Int} {st:qC}:gEq (.int i) (.int j) st = .ok (.bl (i==j)) st:=rfl
theorem Qu {n:Nat} (h:n≤100000):n≤sizeLine:=Am h (by decide)
def qX (L:Int):List Int:=(List.range L.toNat).map fun (i:Nat)=>(i:Int)
theorem qDv {L:Int}:Zs 0 L=(qX L).map PV.int:=by
 unfold Zs qX
 rw [Ak,Int.sub_zero]
 refine Ap fun i _ => ?_
 show PV.int (0 + (i:Int))=PV.int i
 rw [Int.zero_add]
theorem upto_mem {L i:Int}:i∈qX L ↔ 0≤i∧i < L:=by
 unfold qX
 rw [Ae]
 constructor
 ·rintro ⟨j,hj,rfl⟩;rw [BE] at hj;omega
 ·rintro ⟨h1,h2⟩;exact ⟨i.toNat,by rw [BE];omega,by omega⟩
theorem QA {L:Int}:(qX L).length=L.toNat:=by simp [qX]
theorem W6 {l:List Int} {L i:Int} (hl:l.length=L.toNat) (h0:0≤i) (h1:i < L):L2.atI (l.map PV.int) i=some (.int (l.getD i.toNat 0)):=by
 unfold L2.atI L2.ixN
 rw [AC,AG h0,AG (by omega)]
 show (l.map PV.int)[i.toNat]? = _
 have hi:i.toNat < l.length:=by omega
 rw [Ag,AI hi,AJ,AI hi]
 rfl
theorem qHP {l:List Int} {L i:Int} {st:qC} (hl:l.length=L.toNat) (h0:0≤i) (h1:i < L):gIx (.lst (l.map PV.int)) (.int i) st = .ok (.int (l.getD i.toNat 0)) st:=by
 unfold gIx
 simp only [zg,asL,W6 hl h0 h1]
theorem qAI {i j:Int} {st:qC} (h:-(2 ^ 64) < j∧j < 2 ^ 64):zL (.int i) (.int j) st = .ok (.int (i * j)) st:=by
 unfold zL gI
 dsimp only
 rw [AG (.inr h)]
theorem jd {i j:Int} {st:qC} (h:0 < j):w4 (.int i) (.int j) st = .ok (.int (i % j)) st:=by
 unfold w4 gI
 dsimp only
 rw [AG h]
theorem qGT {i j:Int} {st:qC} (h:0 < j) (h2:j < 1073741824):qFC (.int i) (.int j) st = .ok (.int (i / j)) st:=by
 unfold qFC gI
 dsimp only
 rw [AG ⟨h,h2⟩]
theorem qE0 {i j:Int} {st:qC} (h:0 < j) (h2:j < 2 ^ 64):qBL (.int i) (.int j) st = .ok (.int (i / j)) st:=by
 unfold qBL gI;dsimp only;rw [AG ⟨h,h2⟩]
theorem Qn {a:Ad} {st j:qC} {x m:Int} (h0:0 < m) (h1:m < 2 ^ 64):qT a [.ref st.length,.int m] (st ++ .l [.int x]::j) = .ok (.int (x % m)) (st ++ .l [.int (x / m)]::j):=by
 have hs:(st++SO.l [.int x]::j)[st.length]? = some (.l [.int x]):=by simp
 have hg:gIx (.ref st.length) (.int 0) (st++SO.l [.int x]::j) = .ok (.int x) (st++SO.l [.int x]::j):=by
  unfold gIx
  simp only [zg,asL,hs]
  rfl
 refine WX rfl ?_
 unfold zy
 rw [WD (zx (p := .int (x % m)) (st':=st++SO.l [.int x]::j) (r:=QZ 3 [.ref st.length,.int m]) ?_),WD (r':=[some (.ref st.length),some (.int m),some (.int (x % m))]) (st':=st++SO.l [.int (x / m)]::j) ?_]
 ·rfl
 ·unfold qEB
  rw [QL (p := .int x) (q := .int m) (st':=st++SO.l [.int x]::j) (st2:=st++SO.l [.int x]::j) ?_ rfl,qE0 h0 h1]
  ·show (match zi (st++SO.l [.int x]::j) (.ref st.length) (.int 0) (.int (x / m)) with |some s4=>RS.nx _ s4 |none=>RS.no)=_
   have:zi (st++SO.l [.int x]::j) (.ref st.length) (.int 0) (.int (x / m))=some (st++SO.l [.int (x / m)]::j):=by
    unfold zi
    simp only [hs]
    show some ((st++SO.l [.int x]::j).set st.length (.l [.int (x / m)]))=_
    rw [Bw _ _ (AM _),Br];rfl
   rw [this];rfl
  ·rw [QL (p := .ref st.length) (q := .int 0) rfl rfl];exact hg
 ·rw [QL (p := .int x) (q := .int m) (st':=st++SO.l [.int x]::j) (st2:=st++SO.l [.int x]::j) ?_ rfl,jd h0]
  rw [QL (p := .ref st.length) (q := .int 0) rfl rfl];exact hg
theorem qEu {a:Ad} {ns:List Int} {k:Int} {st:qC} (h0:0≤k):∃ c,Ww a [.lst (ns.map PV.int),.int k] st = .ok (.int c) st:=by
 by_cases hk:k < (ns.length:Int)
 ·refine ⟨ns.getD k.toNat 0,WX rfl ?_⟩
  unfold Wr
  rw [qAL (p := .int (ns.getD k.toNat 0)) (st':=st) (r:=QZ 2 [.lst (ns.map PV.int),.int k]) ?_]
  rw [qHj (st':=st) ?_,yu (p := .int (ns.getD k.toNat 0)) (st':=st) ?_]
  ·rw [QL (p := .lst (ns.map PV.int)) (q := .int k) rfl rfl,qHP (L:=ns.length) (by omega) h0 hk]
  ·refine qAh ?_
   rw [QL (p := .int k) (q := .int ns.length) rfl ?_]
   ·show Rs.ok (PV.bl (decide (k < (ns.length:Int)))) st=_
    rw [AS hk]
   ·rw [zZ (l:=[.lst (ns.map PV.int)]) rfl]
    show Rs.ok (PV.int ((ns.map PV.int).length:Int)) st=_
    rw [AC]
 ·refine ⟨6151 * k + 29,WX rfl ?_⟩
  unfold Wr
  rw [WD (r':=QZ 2 [.lst (ns.map PV.int),.int k]) (st':=st) (r:=QZ 2 [.lst (ns.map PV.int),.int k]) ?_]
  ·rw [yu (p := .int (6151 * k + 29)) (st':=st) ?_]
   rw [QL (p := .int (6151 * k)) (q := .int 29) (st':=st) (st2:=st) ?_ rfl]
   ·rfl
   ·rw [QL (p := .int 6151) (q := .int k) rfl rfl]
    unfold zL gI
    dsimp only
    rw [AG (.inl ⟨by decide,by decide⟩)]
  ·rw [qHV (st':=st) ?_]
   ·rfl
   ·refine qAh ?_
    rw [QL (p := .int k) (q := .int ns.length) rfl ?_]
    ·show Rs.ok (PV.bl (decide (k < (ns.length:Int)))) st=_
     rw [Aa hk]
    ·rw [zZ (l:=[.lst (ns.map PV.int)]) rfl]
     show Rs.ok (PV.int ((ns.map PV.int).length:Int)) st=_
     rw [AC]
theorem qA0 {i j:Int} {st:qC} (h:-(2 ^ 64) < i∧i < 2 ^ 64):zL (.int i) (.int j) st = .ok (.int (i * j)) st:=by
 unfold zL gI
 dsimp only
 rw [AG (.inl h)]
def jA:FS:=(qS (ql 4 (qG w4 (qG QE (qG QE (qG QE (qG zL (qB 4) (vC (.int 48271))) (qG zL (qG zL (vC (.int 7)) (qB 5)) (qB 5))) (qG zL (vC (.int 11)) (qB 1))) (vC (.int 1))) (vC (.int 2147483647)))) (ql 3 (qG QE (qG zL (qB 3) (vC (.int 2147483647))) (qB 4))))
theorem Ja {s:PV} {c k:Int} {st:qC}:∀ (js:List Int) (n m:Int) (x:Option PV),(∀ j∈js,0≤j∧j < 24) -> ∃ n' m' x',Qa (fun _=>True) (QB 5) jA (js.map PV.int) [some s,some (.int k),some (.int c),some (.int n),some (.int m),x] st = .nx [some s,some (.int k),some (.int c),some (.int n'),some (.int m'),x'] st
 |[],n,m,x,_=>⟨n,m,x,by rw [List.map_nil,Yg trivial]⟩
 |j::js,n,m,x,h=>by
  have hj:=h j AE
  have e:jA [some s,some (.int k),some (.int c),some (.int n),some (.int m),some (.int j)] st = .nx [some s,some (.int k),some (.int c),some (.int (n * 2147483647 + (m * 48271 + 7 * j * j + 11 * k + 1) % 2147483647)),some (.int ((m * 48271 + 7 * j * j + 11 * k + 1) % 2147483647)),some (.int j)] st:=by
   unfold jA
   rw [WD (zx (p := .int ((m * 48271 + 7 * j * j + 11 * k + 1) % 2147483647)) (st':=st) ?_),zx (p := .int (n * 2147483647 + (m * 48271 + 7 * j * j + 11 * k + 1) % 2147483647)) (st':=st) ?_]
   ·rfl
   ·rw [QL (p := .int (n * 2147483647)) (q := .int ((m * 48271 + 7 * j * j + 11 * k + 1) % 2147483647)) (st':=st) (st2:=st) ?_ rfl]
    ·rfl
    ·rw [QL (p := .int n) (q := .int 2147483647) rfl rfl,qAI ⟨by decide,by decide⟩]
   ·rw [QL (p := .int (m * 48271 + 7 * j * j + 11 * k + 1)) (q := .int 2147483647) (st':=st) (st2:=st) ?_ rfl,jd (by decide)]
    rw [QL (p := .int (m * 48271 + 7 * j * j + 11 * k)) (q := .int 1) (st':=st) (st2:=st) ?_ rfl]
    ·rfl
    rw [QL (p := .int (m * 48271 + 7 * j * j)) (q := .int (11 * k)) (st':=st) (st2:=st) ?_ ?_]
    ·rfl
    ·rw [QL (p := .int (m * 48271)) (q := .int (7 * j * j)) (st':=st) (st2:=st) ?_ ?_]
     ·rfl
     ·rw [QL (p := .int m) (q := .int 48271) rfl rfl,qAI ⟨by decide,by decide⟩]
     ·rw [QL (p := .int (7 * j)) (q := .int j) (st':=st) (st2:=st) ?_ rfl,qAI ⟨by omega,by omega⟩]
      rw [QL (p := .int 7) (q := .int j) rfl rfl,qA0 ⟨by decide,by decide⟩]
    ·rw [QL (p := .int 11) (q := .int k) rfl rfl,qA0 ⟨by decide,by decide⟩]
  obtain ⟨n',m',x',e2⟩:=Ja js _ _ (some (.int j)) fun q hq=>h q (AB _ hq)
  exact ⟨n',m',x',by rw [AU,yV (r1:=[some s,some (.int k),some (.int c),some (.int n),some (.int m),some (.int j)]) trivial rfl e];exact e2⟩
theorem qGJ {a:Ad} {ns:List Int} {k:Int} {st:qC} (h0:0≤k):∃ x,zc a [.lst (ns.map PV.int),.int k] st = .ok (.ref st.length) (st++[.l [.int x]]):=by
 obtain ⟨c,hc⟩:=qEu (a:=a) (ns:=ns) (k:=k) (st:=st) h0
 have h1:ql 2 (qH (Ww a) (qA (qB 0) (qA (qB 1) qD))) (QZ 6 [.lst (ns.map PV.int),.int k]) st = .nx [some (.lst (ns.map PV.int)),some (.int k),some (.int c),none,none,none] st:=by
  rw [zx (p := .int c) (st':=st) ?_]
  ·rfl
  ·rw [zZ (l:=[.lst (ns.map PV.int),.int k]) rfl];exact hc
 have ht:∀ b:Bool,(c % 2==0)=b->vTB (qG gEq (qG w4 (qB 2) (vC (.int 2))) (vC (.int 0))) [some (.lst (ns.map PV.int)),some (.int k),some (.int c),none,none,none] st = .ok b st:=by
  intro b hb
  refine qAh ?_
  rw [QL (p := .int (c % 2)) (q := .int 0) (st':=st) (st2:=st) ?_ rfl,Wt,hb]
  rw [QL (p := .int c) (q := .int 2) rfl rfl,jd (by decide)]
 cases hb:(c % 2==0) with
 |true =>
  refine ⟨c / 2,WX rfl ?_⟩
  unfold zd
  rw [WD h1,qAL (p := .ref st.length) (st':=st++[.l [.int (c / 2)]]) ?_]
  rw [qHj (ht true hb),qAd (l:=[.int (c / 2)]) (st':=st) ?_]
  unfold wT
  rw [qAe (p := .int (c / 2)) (l:=[]) (st':=st) (st2:=st) ?_ rfl]
  ·rfl
  ·rw [QL (p := .int c) (q := .int 2) rfl rfl,qGT (by decide) (by decide)]
 |false =>
  obtain ⟨n',m',x',e⟩:=Ja (s := .lst (ns.map PV.int)) (c:=c) (k:=k) (st:=st) (qX 24) 0 (c % 2147483647) none fun j hj=>upto_mem.mp hj
  refine ⟨n',WX rfl ?_⟩
  unfold zd
  rw [WD h1,WD (r':=[some (.lst (ns.map PV.int)),some (.int k),some (.int c),none,none,none]) (st':=st) (by rw [qHV (ht false hb)];rfl),WD (zx (p := .int 0) (st':=st) rfl),WD (zx (p := .int (c % 2147483647)) (st':=st) ?_),WD (r':=[some (.lst (ns.map PV.int)),some (.int k),some (.int c),some (.int n'),some (.int m'),x']) (st':=st) ?_,qAd (l:=[.int n']) (st':=st) rfl]
  ·rw [qDE (w:=⟨(qX 24).map PV.int,fun _=>True⟩) (st':=st) rfl]
   exact e
  ·rw [QL (p := .int c) (q := .int 2147483647) rfl rfl,jd (by decide)]
theorem itN {L:Int} {r:QC} {st s1:qC} {f:FA} (h1:0≤L) (h2:L≤1000) (hf:f r st = .ok [.int L] s1):(QO f) r st = .ok ⟨(qX L).map PV.int,fun _=>True⟩ s1:=by
 unfold QO
 rw [hf]
 show jJ [.int L] s1=_
 unfold jJ
 dsimp only
 rw [AG (by omega),qDv]
theorem qg {x m:Int} (h:0 < m):0≤x % m∧x % m < m:=⟨Int.emod_nonneg _ (by omega),Int.emod_lt_of_pos _ h⟩
def wB (r c w L:Int):List qN:=(qX L).map fun k=>if w=0 then (r,c + k) else (r + k,c)
theorem qAy {r c w L:Int}:(wB r c w L).length=L.toNat:=by unfold wB;rw [AC,QA]
theorem qDn {a:Ad} {r c w L:Int} {st:qC} (h1:0≤L) (h2:L≤1000):WS a [.tup [.int r,.int c,.int w],.int L] st = .ok (.lst ((wB r c w L).map cP)) st:=by
 refine Qe rfl ?_
 unfold zH
 refine qY (qEE (r1:=[some (.tup [.int r,.int c,.int w]),some (.int L),some (.int r),some (.int c),some (.int w)]) rfl rfl) ?_
 have hl:(qX L).length≤sizeLine:=by rw [QA];exact Qu (by omega)
 by_cases hw:w=0
 ·subst hw
  let F:PV->PV:=fun p=>match p with | .int k=>cP (r,c + k) |_ => .non
  have e:(wB r c 0 L).map cP=((qX L).map PV.int).map F:=by
   unfold wB
   rw [Ak,Ak]
   exact Ap fun k _=>by show cP (if (0:Int)=0 then (r,c + k) else (r + k,c))=_;rw [AG rfl];rfl
  rw [e]
  refine Wn (Ws (Ql (qU (p := .int 0) (q := .int 0) rfl rfl (by rw [Wt,Aq]))) (Qr (w6 (QQ (F:=F) (itN h1 h2 rfl) trivial (by rw [AC];exact hl) fun p hp => ?_))))
  obtain ⟨k,_,rfl⟩:=Ae.mp hp
  exact ⟨[some (.int r),some (.int c),some (.int k)],rfl,W8 (qL rfl (qL (qU rfl rfl Wo) qk)) (sz rfl)⟩
 ·let F:PV->PV:=fun p=>match p with | .int k=>cP (r + k,c) |_ => .non
  have e:(wB r c w L).map cP=((qX L).map PV.int).map F:=by
   unfold wB
   rw [Ak,Ak]
   exact Ap fun k _=>by show cP (if w=0 then (r,c + k) else (r + k,c))=_;rw [AH hw];rfl
  rw [e]
  refine qY (QJ (Ql (qU (p := .int w) (q := .int 0) rfl rfl (by rw [Wt,BB.mpr hw]))) rfl) (Qr (w6 (QQ (F:=F) (itN h1 h2 rfl) trivial (by rw [AC];exact hl) fun p hp => ?_)))
  obtain ⟨k,_,rfl⟩:=Ae.mp hp
  exact ⟨[some (.int c),some (.int r),some (.int k)],rfl,W8 (qL (qU rfl rfl Wo) (qL rfl qk)) (sz rfl)⟩
theorem Jh {d:qN->Bool} {l:List qN} {c:PV->Bool} (h:∀ x∈l,c (cP x)=d x):(l.map cP).filter c=(l.filter d).map cP:=by
 induction l with
 |nil=>rfl
 |cons x l ih =>
  rw [AU,Bn,Bn,h x AE,ih fun y hy=>h y (AB _ hy)]
  cases d x <;> rfl
def unC:PV->qN
 | .tup [.int x,.int y]=>(x,y)
 |_=>(0,0)
theorem qEw {st j:qC} {b:SO} {i:Nat} {o:SO} (h:j[i]? = some o):(st++b::j)[st.length + 1 + i]? = some o:=by
 rw [Ac (by omega),show st.length + 1 + i - st.length=i + 1 by omega,List.getElem?_cons_succ];exact h
def In8 (c:qN):Prop:=0≤c.1∧c.1≤7∧0≤c.2∧c.2≤7
inductive Put (L:Int):List qN->Prop
 |nil:Put L []
 |cons {fd:List qN} {r c w:Int}:Put L fd->(∀ x∈wB r c w L,In8 x)->(∀ x∈wB r c w L,x ∉ fd)->Put L (fd++wB r c w L)
theorem Put.in8 {L:Int} {fd:List qN} (h:Put L fd):∀ c∈fd,In8 c:=by
 induction h with
 |nil=>exact fun c hc=>(Al hc).elim
 |cons _ h2 _ ih=>exact fun c hc=>(Ar.mp hc).elim (ih c) (h2 c)
def Z7 (a:Ad):FS:=(qS (ql 4 (qH (qT a) (qA (qB 0) (qA (vC (.int 2)) qD)))) (qS (Zj 5 6 (qA (qH (qT a) (qA (qB 0) (qA (qG WQ (vC (.int 9)) (qG gIx (vFz (wT (qA (vC (.int 1)) (qA (qB 1) qD)))) (qB 4))) qD))) (qA (qH (qT a) (qA (qB 0) (qA (qG WQ (vC (.int 9)) (qG gIx (vFz (wT (qA (qB 1) (qA (vC (.int 1)) qD)))) (qB 4))) qD))) qD))) (qS (ql 7 (qH (WS a) (qA (wa (qA (qB 5) (qA (qB 6) (qA (qB 4) qD)))) (qA (qB 1) qD)))) (Qb (zB (vTB (qG gEq (vFz (qh [2] 1 (q9 (qB 7)) (qq 1) [(vTB (qG (gIn false) (qB 1) (qB 0)))] [] (qB 1))) (vFz (wT qD)))) (vTB (qG gLe (qG QE (qH wg (qA (qB 2) qD)) (qB 1)) (vC (.int 40))))) (WO 2 (yE (qB 2) (qB 7))) q8))))
theorem qED {a:Ad} {st j:qC} {x L:Int} {i:Nat} {fd:List qN} {x3 x4 x5 x6 x7:Option PV} (hL1:2≤L) (hL2:L≤5) (hj:j[i]? = some (.l (fd.map cP))) (hf:fd.length≤40) (hb:Put L fd) :
  ∃ (y:Int) (g:qC) (i':Nat) (fd':List qN) (y4 y5 y6 y7:Option PV),(j++g)[i']? = some (.l (fd'.map cP))∧(i'=i∨i'=j.length)∧fd'.length≤40∧fd'≠[]∧Put L fd' ∧
   Z7 a [some (.ref st.length),some (.int L),some (.ref (st.length + 1 + i)),x3,x4,x5,x6,x7] (st ++ .l [.int x]::j) = .nx [some (.ref st.length),some (.int L),some (.ref (st.length + 1 + i')),x3,y4,y5,y6,y7] (st ++ .l [.int y]::(j++g)):=by
 have t1:=Qn (a:=a) (st:=st) (j:=j) (x:=x) (m:=2) (by decide) (by decide)
 have hw:=qg (x:=x) (m:=2) (by decide)
 generalize hwe:x % 2=w at t1 hw
 have hm:∃ m1 m2:Int,0 < m1∧m1 < 10∧0 < m2∧m2 < 10∧((w=0∧m1≤8∧m2≤9 - L)∨(w≠0∧m1≤9 - L∧m2≤8))∧(∀ s,qG WQ (vC (.int 9)) (qG gIx (vFz (wT (qA (vC (.int 1)) (qA (qB 1) qD)))) (qB 4)) [some (.ref st.length),some (.int L),some (.ref (st.length + 1 + i)),x3,some (.int w),x5,x6,x7] s = .ok (.int m1) s) ∧ ∀ s,qG WQ (vC (.int 9)) (qG gIx (vFz (wT (qA (qB 1) (qA (vC (.int 1)) qD)))) (qB 4)) [some (.ref st.length),some (.int L),some (.ref (st.length + 1 + i)),x3,some (.int w),x5,x6,x7] s = .ok (.int m2) s:=by
  have:w=0∨w=1:=by omega
  rcases this with rfl |rfl
  ·exact ⟨9 - 1,9 - L,by decide,by decide,by omega,by omega,.inl ⟨rfl,by omega,by omega⟩,fun s=>rfl,fun s=>rfl⟩
  ·exact ⟨9 - L,9 - 1,by omega,by omega,by decide,by decide,.inr ⟨by decide,by omega,by omega⟩,fun s=>rfl,fun s=>rfl⟩
 obtain ⟨m1,m2,hm1,hm1',hm2,hm2',hmw,e1,e2⟩:=hm
 have hrow:=qg (x:=x / 2) hm1
 have hcol:=qg (x:=x / 2 / m1) hm2
 have t2:=Qn (a:=a) (st:=st) (j:=j) (x:=x / 2) (m:=m1) hm1 (by omega)
 have t3:=Qn (a:=a) (st:=st) (j:=j) (x:=x / 2 / m1) (m:=m2) hm2 (by omega)
 generalize x / 2 % m1=row at t2 hrow
 generalize x / 2 / m1 % m2=col at t3 hcol
 generalize x / 2 / m1 / m2=y at t3
 have hS:(st++SO.l [.int y]::j)[st.length + 1 + i]? = some (.l (fd.map cP)):=qEw hj
 have hcl:(wB row col w L).length=L.toNat:=qAy
 let C:List qN:=wB row col w L
 have hCb:∀ c∈C,In8 c:=fun c hc=>by
  obtain ⟨k,hk,rfl⟩:=Ae.mp (show c∈wB row col w L from hc)
  have:=upto_mem.mp hk
  unfold In8
  by_cases h0:w=0
  ·rw [AG h0];dsimp only;omega
  ·rw [AH h0];dsimp only;omega
 have hd:qh [2] 1 (q9 (qB 7)) (qq 1) [(vTB (qG (gIn false) (qB 1) (qB 0)))] [] (qB 1) [some (.ref st.length),some (.int L),some (.ref (st.length + 1 + i)),x3,some (.int w),some (.int row),some (.int col),some (.lst (C.map cP))] (st ++ .l [.int y]::j) = .ok ((C.filter fun c=>decide (c∈fd)).map cP) (st ++ .l [.int y]::j):=by
  rw [Wu (w:=⟨C.map cP,fun _=>True⟩) (c:=fun p=>decide (unC p∈fd)) (yD rfl) trivial (by rw [AC];show (wB row col w L).length≤_;rw [hcl];exact Qu (by omega)) fun p hp => ?_]
  ·rw [Jh (d:=fun c=>decide (c∈fd)) fun x _=>rfl]
  ·obtain ⟨c,_,rfl⟩:=Ae.mp hp
   exact ⟨[some (.ref (st.length + 1 + i)),some (cP c)],rfl,Ql (qU rfl rfl (qGq (ZC hS))),rfl⟩
 have pre:∀ {o:RS},(Qb (zB (vTB (qG gEq (vFz (qh [2] 1 (q9 (qB 7)) (qq 1) [(vTB (qG (gIn false) (qB 1) (qB 0)))] [] (qB 1))) (vFz (wT qD)))) (vTB (qG gLe (qG QE (qH wg (qA (qB 2) qD)) (qB 1)) (vC (.int 40))))) (WO 2 (yE (qB 2) (qB 7))) q8) [some (.ref st.length),some (.int L),some (.ref (st.length + 1 + i)),x3,some (.int w),some (.int row),some (.int col),some (.lst (C.map cP))] (st ++ .l [.int y]::j)=o ->
   Z7 a [some (.ref st.length),some (.int L),some (.ref (st.length + 1 + i)),x3,x4,x5,x6,x7] (st ++ .l [.int x]::j)=o:=fun {o} h=>by
  unfold Z7
  refine qY (Qq (p := .int w) (qK (l:=[.ref st.length,.int 2]) rfl t1)) ?_
  refine qY (qDs (p := .int row) (q := .int col) (qL (qK (l:=[.ref st.length,.int m1]) (qL rfl (qL (e1 _) qk)) t2) (qL (qK (l:=[.ref st.length,.int m2]) (qL rfl (qL (e2 _) qk)) t3) qk))) ?_
  exact qY (Qq (p := .lst (C.map cP)) (qK (l:=[.tup [.int row,.int col,.int w],.int L]) rfl (qDn (by omega) (by omega)))) h
 have hE:vTB (qG gEq (vFz (qh [2] 1 (q9 (qB 7)) (qq 1) [(vTB (qG (gIn false) (qB 1) (qB 0)))] [] (qB 1))) (vFz (wT qD))) [some (.ref st.length),some (.int L),some (.ref (st.length + 1 + i)),x3,some (.int w),some (.int row),some (.int col),some (.lst (C.map cP))] (st ++ .l [.int y]::j) = .ok (C.filter fun c=>decide (c∈fd)).isEmpty (st ++ .l [.int y]::j) :=
  Ql (qU (w6 hd) rfl eq_nil)
 have hL40:vTB (qG gLe (qG QE (qH wg (qA (qB 2) qD)) (qB 1)) (vC (.int 40))) [some (.ref st.length),some (.int L),some (.ref (st.length + 1 + i)),x3,some (.int w),some (.int row),some (.int col),some (.lst (C.map cP))] (st ++ .l [.int y]::j) = .ok (decide ((fd.length:Int) + L≤40)) (st ++ .l [.int y]::j) :=
  Ql (qU (qU (qK (qL rfl qk) (zF (ZC hS) (by rw [AC]))) rfl Wo) rfl qJD)
 by_cases hc:(C.filter fun c=>decide (c∈fd)).isEmpty=true∧(fd.length:Int) + L≤40
 ·rw [hc.1] at hE
  rw [AS hc.2] at hL40
  refine ⟨y,[.l ((fd++C).map cP)],j.length,fd++C,some (.int w),some (.int row),some (.int col),some (.lst (C.map cP)),by simp,.inr rfl,?_,?_,.cons hb hCb (fun x hx q=>by have:=List.filter_eq_nil_iff.mp (List.isEmpty_iff.mp hc.1) x hx;simp [q] at this),pre ?_⟩
  ·rw [AY];show fd.length + (wB row col w L).length≤40;rw [hcl];omega
  ·intro z
   have z1:=B3 List.length z
   rw [AY,Bv] at z1
   have z2:C.length=L.toNat:=hcl
   omega
  ·refine Ws (Z5 hE hL40) ?_
   have hcat:yE (qB 2) (qB 7) [some (.ref st.length),some (.int L),some (.ref (st.length + 1 + i)),x3,some (.int w),some (.int row),some (.int col),some (.lst (C.map cP))] (st ++ .l [.int y]::j) = .ok ((fd++C).map cP) (st ++ .l [.int y]::j):=by
    rw [qD9 (l:=fd.map cP) (m:=C.map cP) rfl rfl (wH hS) rfl (by rw [AC,AC];show fd.length + (wB row col w L).length≤_;rw [hcl];exact Qu (by omega)),Bi]
   rw [jZ hcat]
   have e1:(st++SO.l [.int y]::j).length=st.length + 1 + j.length:=by simp;omega
   rw [e1,Aj]
   rfl
 ·refine ⟨y,[],i,fd,some (.int w),some (.int row),some (.int col),some (.lst (C.map cP)),by rw [A8];exact hj,.inl rfl,hf,?_,hb,pre ?_⟩
  ·intro z
   subst z
   refine hc ⟨?_,by show (0:Int) + L≤40;omega⟩
   rw [List.isEmpty_iff,List.filter_eq_nil_iff]
   intro c _
   simp
  ·rw [A8]
   by_cases h1:(C.filter fun c=>decide (c∈fd)).isEmpty=true
   ·rw [h1] at hE
    rw [Aa (fun z=>hc ⟨h1,z⟩)] at hL40
    exact QJ (Z5 hE hL40) rfl
   ·rw [show (C.filter fun c=>decide (c∈fd)).isEmpty=false by cases h:(C.filter fun c=>decide (c∈fd)).isEmpty with |true=>exact absurd h h1 |false=>rfl] at hE
    exact QJ (jS hE) rfl
theorem JA {a:Ad} {st:qC} {L:Int} (hL1:2≤L) (hL2:L≤5):∀ (n0:Nat) (ks:List PV) (x:Int) (j:qC) (i:Nat) (fd:List qN) (x3 x4 x5 x6 x7:Option PV),j[i]? = some (.l (fd.map cP))->n0≤i->fd.length≤40->Put L fd->(ks≠[]∨fd≠[]) ->
  ∃ (y:Int) (g:qC) (i':Nat) (fd':List qN) (y3 y4 y5 y6 y7:Option PV),(j++g)[i']? = some (.l (fd'.map cP))∧n0≤i'∧fd'.length≤40∧fd'≠[]∧Put L fd' ∧
   Qa (fun _=>True) (QB 3) (Z7 a) ks [some (.ref st.length),some (.int L),some (.ref (st.length + 1 + i)),x3,x4,x5,x6,x7] (st ++ .l [.int x]::j) = .nx [some (.ref st.length),some (.int L),some (.ref (st.length + 1 + i')),y3,y4,y5,y6,y7] (st ++ .l [.int y]::(j++g))
 |n0,[],x,j,i,fd,x3,x4,x5,x6,x7,hj,hi,hf,hb,h=>⟨x,[],i,fd,x3,x4,x5,x6,x7,by rw [A8];exact hj,hi,hf,h.resolve_left (fun z=>z rfl),hb,by rw [A8];exact Qh trivial⟩
 |n0,k::ks,x,j,i,fd,x3,x4,x5,x6,x7,hj,hi,hf,hb,h=>by
  obtain ⟨y,g,i1,fd1,y4,y5,y6,y7,h1,hi1,h2,h3,hb1,h4⟩:=qED (a:=a) (st:=st) (j:=j) (x:=x) (x3:=some k) (x4:=x4) (x5:=x5) (x6:=x6) (x7:=x7) hL1 hL2 hj hf hb
  obtain ⟨z,g2,i2,fd2,z3,z4,z5,z6,z7,q1,qi,q2,q3,qb,q4⟩:=JA (a:=a) hL1 hL2 n0 ks y (j++g) i1 fd1 (some k) y4 y5 y6 y7 h1 (by have:=(AO.mp hj).1;omega) h2 hb1 (.inr h3)
  refine ⟨z,g++g2,i2,fd2,z3,z4,z5,z6,z7,by rw [← Aj];exact q1,qi,q2,q3,qb,?_⟩
  rw [← Aj]
  exact Wh trivial rfl h4 q4
theorem jG {a:Ad} {st j:qC} {x L:Int} (hL1:2≤L) (hL2:L≤5):∃ (y:Int) (g:qC) (i:Nat) (fd:List qN),(j++g)[i]? = some (.l (fd.map cP))∧j.length≤i∧fd.length≤40∧fd≠[]∧Put L fd ∧
  Wp a [.ref st.length,.int L] (st ++ .l [.int x]::j) = .ok (.ref (st.length + 1 + i)) (st ++ .l [.int y]::(j++g)):=by
 have hn:=qg (x:=x) (m:=8) (by decide)
 have t1:=Qn (a:=a) (st:=st) (j:=j++[.l []]) (x:=x) (m:=8) (by decide) (by decide)
 obtain ⟨y,g,i,fd,y3,y4,y5,y6,y7,h1,hi,h2,h3,hb,h4⟩:=JA (a:=a) (st:=st) hL1 hL2 j.length ((qX (1 + x % 8)).map PV.int) (x / 8) (j++[.l []]) j.length [] none none none none none (by simp) (AM _) (A6 _) .nil (.inl (fun z=>by
  have:=B3 List.length z
  rw [AC,QA] at this
  simp at this;omega))
 refine ⟨y,[.l []]++g,i,fd,by rw [← Aj];exact h1,hi,h2,h3,hb,Qe rfl ?_⟩
 unfold ZP
 have e1:(st++SO.l [.int x]::j).length=st.length + 1 + j.length:=by simp;omega
 have e2:st++SO.l [.int x]::j++[SO.l []]=st++SO.l [.int x]::(j++[.l []]):=by rw [Aj];rfl
 refine qY (r':=[some (.ref st.length),some (.int L),some (.ref (st.length + 1 + j.length)),none,none,none,none,none]) (s1:=st++SO.l [.int x]::(j++[.l []])) ?_ ?_
 ·rw [jZ (l:=[]) (s1:=st ++ .l [.int x]::j) rfl,e1,e2];rfl
 rw [← Aj j]
 exact qY (W7 (itN (L:=1 + x % 8) (by omega) (by omega) (qL (qU rfl (qK (l:=[.ref st.length,.int 8]) rfl t1) Wo) qk)) h4) (Qr rfl)
theorem qF8 {l:List qN} {n:Nat} (hn:n≤1000):qAC (l.map cP) none (some (n:Int))=(l.take n).map cP:=by
 have h1:HT.sIx (l.map cP).length 0 none=0:=rfl
 have h2:HT.sIx (l.map cP).length (l.map cP).length (some (n:Int))=min n (l.map cP).length:=HT.sIx_nat _ _ _
 unfold qAC
 rw [h1,h2,List.drop_zero,Nat.sub_zero,List.map_take]
 by_cases h:n≤(l.map cP).length
 ·rw [Nat.min_eq_left h]
 ·rw [Nat.min_eq_right (by omega),List.take_length,List.take_of_length_le (by omega)]
def qGF (a:Ad):FT:=(Wz (vTB (qG gEq (qB 1) (vC (.int 1)))) (vTB (qG gNe (qH (qT a) (qA (qB 2) (qA (qG gIx (vFz (wT (qA (vC (.int 4)) (qA (vC (.int 1)) (qA (vC (.int 9)) qD))))) (qB 1)) qD))) (vC (.int 1)))))
theorem qEI {fi:FI} {g:FG} {t:FT} {f:FE} {r r':QC} {st s1 s2:qC} {p q:PV} (h:g p r=some r') (ht:t r' st = .ok true s1) (hf:f r' s1 = .ok q s2):QG ⟨fi,g,[t]⟩ (QR [] f) r p st = .ok [q] s2:=by
 unfold QG;show (match g p r with |none=>_ |some r'=>_)=_;rw [h];show (wA [t] r' st).bind _=_;unfold wA wA;rw [ht];show (QR [] f) r' s1=_;unfold QR;rw [hf];rfl
theorem qD5 {fi:FI} {g:FG} {t:FT} {f:FE} {r r':QC} {st s1:qC} {p:PV} (h:g p r=some r') (ht:t r' st = .ok false s1):QG ⟨fi,g,[t]⟩ (QR [] f) r p st = .ok [] s1:=by
 unfold QG;show (match g p r with |none=>_ |some r'=>_)=_;rw [h];show (wA [t] r' st).bind _=_;unfold wA wA;rw [ht];rfl
theorem Yi {a:Ad} {st j:qC} {fi:FI} {rw' wy:Int} (hw:0≤wy∧wy≤2):∀ (ks:List Int) (x:Int),∃ (cs:List qN) (y:Int),cs.length≤ks.length∧(∀ c∈cs,c.1=rw'∧c.2∈ks)∧(cs.map (·.2)).Sublist ks∧qm (fun _=>True) (QG ⟨fi,qq 3,[qGF a]⟩ (QR [] (wa (qA (qB 0) (qA (qB 3) qD)))) [some (.int rw'),some (.int wy),some (.ref st.length),none]) (ks.map PV.int) (st ++ .l [.int x]::j) = .ok (cs.map cP) (st ++ .l [.int y]::j)
 |[],x=>⟨[],x,AM _,fun c hc=>(Al hc).elim,List.Sublist.slnil,wN trivial⟩
 |k::ks,x=>by
  have hm:∃ m:Int,0 < m∧m < 10 ∧ ∀ s,qG gIx (vFz (wT (qA (vC (.int 4)) (qA (vC (.int 1)) (qA (vC (.int 9)) qD))))) (qB 1) [some (.int rw'),some (.int wy),some (.ref st.length),some (.int k)] s = .ok (.int m) s:=by
   have:wy=0∨wy=1∨wy=2:=by omega
   rcases this with rfl |rfl |rfl
   ·exact ⟨4,by decide,by decide,fun s=>rfl⟩
   ·exact ⟨1,by decide,by decide,fun s=>rfl⟩
   ·exact ⟨9,by decide,by decide,fun s=>rfl⟩
  obtain ⟨m,hm1,hm2,em⟩:=hm
  have key:∃ (b:Bool) (y:Int),qGF a [some (.int rw'),some (.int wy),some (.ref st.length),some (.int k)] (st ++ .l [.int x]::j) = .ok b (st ++ .l [.int y]::j):=by
   by_cases h1:wy=1
   ·exact ⟨true,x,qGl (Ql (qU (p := .int wy) (q := .int 1) rfl rfl (by rw [Wt,CF.mpr h1])))⟩
   ·have t1:=Qn (a:=a) (st:=st) (j:=j) (x:=x) (m:=m) hm1 (by omega)
    exact ⟨_,x / m,Wc (Ql (qU (p := .int wy) (q := .int 1) rfl rfl (by rw [Wt,BB.mpr h1]))) (Ql (qU (qK (l:=[.ref st.length,.int m]) (qL rfl (qL (em _) qk)) t1) rfl rfl))⟩
  obtain ⟨b,y,eb⟩:=key
  obtain ⟨cs,z,h1,h2,h4,h3⟩:=Yi (a:=a) (st:=st) (j:=j) (fi:=fi) (rw':=rw') hw ks y
  cases b with
  |true =>
   refine ⟨(rw',k)::cs,z,by rw [AT,AT];omega,fun c hc => ?_,by rw [AU];exact h4.cons₂ _,?_⟩
   ·rcases AL.mp hc with q |q
    ·rw [q];exact ⟨rfl,AE⟩
    ·exact ⟨(h2 c q).1,AB _ (h2 c q).2⟩
   ·exact WT (l:=[cP (rw',k)]) trivial (qEI (r':=[some (.int rw'),some (.int wy),some (.ref st.length),some (.int k)]) rfl eb (W8 (qL rfl (qL rfl qk)) (sz rfl))) h3
  |false =>
   refine ⟨cs,z,by rw [AT];omega,fun c hc=>⟨(h2 c hc).1,AB _ (h2 c hc).2⟩,h4.cons _,?_⟩
   exact WT (l:=[]) trivial (qD5 (r':=[some (.int rw'),some (.int wy),some (.ref st.length),some (.int k)]) rfl eb) h3
def qCQ (a:Ad):FS:=(ql 5 (vFz (yE (qB 5) (vFz (qh [6,2,0] 1 (QO (qA (qB 4) qD)) (qq 3) [qGF a] [] (wa (qA (qB 0) (qA (qB 3) qD))))))))
theorem qA3 {a:Ad} {st j:qC} {L wy hi wd:Int} (hw:0≤wy∧wy≤2) (hwd:1≤wd∧wd≤8):∀ (rs:List Int) (x:Int) (fd:List qN) (x6:Option PV),fd.length + 8 * rs.length≤64->rs.Pairwise (· < ·)->(∀ c∈fd,∀ r∈rs,c.1 < r)->fd.Pairwise clt->(∀ c∈fd,In8 c)->(∀ r∈rs,0≤r∧r≤7) ->
  ∃ (y:Int) (fd':List qN) (y6:Option PV),fd'.length≤64∧fd'.Pairwise clt∧(∀ c∈fd',In8 c) ∧
   Qa (fun _=>True) (QB 6) (qCQ a) (rs.map PV.int) [some (.ref st.length),some (.int L),some (.int wy),some (.int hi),some (.int wd),some (.lst (fd.map cP)),x6] (st ++ .l [.int x]::j) = .nx [some (.ref st.length),some (.int L),some (.int wy),some (.int hi),some (.int wd),some (.lst (fd'.map cP)),y6] (st ++ .l [.int y]::j)
 |[],x,fd,x6,h,_,_,hp,hb,_=>⟨x,fd,x6,by simpa using h,hp,hb,Qh trivial⟩
 |r::rs,x,fd,x6,h,hr,hlt,hp,hb,hrb=>by
  obtain ⟨cs,y,h1,h2,h4,h3⟩:=Yi (a:=a) (st:=st) (j:=j) (fi:=QO (qA (qB 4) qD)) (rw':=r) hw (qX wd) x
  rw [QA] at h1
  have hcl:cs.length≤8:=by omega
  rw [AT] at h
  have hr0:=hrb r AE
  have hcs:cs.Pairwise clt:=by
   have p1:(qX wd).Pairwise (· < ·):=by
    unfold qX
    rw [BN]
    exact List.pairwise_lt_range.imp fun h=>by omega
   have p2:(cs.map (·.2)).Pairwise (· < ·):=p1.sublist h4
   rw [BN] at p2
   refine List.Pairwise.imp_of_mem ?_ p2
   intro c d hc hd hcd
   exact .inr ⟨by rw [(h2 c hc).1,(h2 d hd).1],hcd⟩
  have hcat:(fd++cs).Pairwise clt:=List.pairwise_append.mpr ⟨hp,hcs,fun c hc d hd => .inl (by rw [(h2 d hd).1];exact hlt c hc r AE)⟩
  have hbb:∀ c∈fd++cs,In8 c:=fun c hc=>by
   rcases Ar.mp hc with q |q
   ·exact hb c q
   ·have:=upto_mem.mp (h2 c q).2
    have:=(h2 c q).1
    unfold In8
    omega
  obtain ⟨z,fd',y6,q1,q2,q3,q4⟩:=qA3 (a:=a) (st:=st) (j:=j) (L:=L) (hi:=hi) hw hwd rs y (fd++cs) (some (.int r)) (by rw [AY];omega) (Bb.mp hr).2 (fun c hc r' hr'=>by
   rcases Ar.mp hc with q |q
   ·exact hlt c q r' (AB _ hr')
   ·rw [(h2 c q).1];exact (Bb.mp hr).1 r' hr') hcat hbb fun r' hr'=>hrb r' (AB _ hr')
  refine ⟨z,fd',y6,q1,q2,q3,?_⟩
  refine Wh (r1:=[some (.ref st.length),some (.int L),some (.int wy),some (.int hi),some (.int wd),some (.lst (fd.map cP)),some (.int r)]) trivial rfl ?_ q4
  unfold qCQ
  refine Qq (p := .lst ((fd++cs).map cP)) (w6 ?_)
  rw [Bi]
  exact qD9 (l:=fd.map cP) (m:=cs.map cP) rfl (w6 (yv (w:=⟨(qX wd).map PV.int,fun _=>True⟩) (itN (by omega) (by omega) rfl) h3 (by rw [AC];exact Qu (by omega)))) rfl rfl (by rw [AC,AC];exact Qu (by omega))
structure Flr (F:List qN):Prop where
 len:F.length≤40
 ris:F.Pairwise clt
 b:∀ c∈F,In8 c
theorem Yr {a:Ad} {st j:qC} {fi:FI}:∀ (ks:List PV) (x:Int),∃ (cs:List qN) (y:Int),cs.length=ks.length∧(∀ c∈cs,In8 c)∧qm (fun _=>True) (QG ⟨fi,qq 1,[]⟩ (QR [] (wa (qA (qH (qT a) (qA (qB 0) (qA (vC (.int 8)) qD))) (qA (qH (qT a) (qA (qB 0) (qA (vC (.int 8)) qD))) qD)))) [some (.ref st.length),none]) ks (st ++ .l [.int x]::j) = .ok (cs.map cP) (st ++ .l [.int y]::j)
 |[],x=>⟨[],x,rfl,fun c hc=>(Al hc).elim,wN trivial⟩
 |k::ks,x=>by
  have t1:=Qn (a:=a) (st:=st) (j:=j) (x:=x) (m:=8) (by decide) (by decide)
  have t2:=Qn (a:=a) (st:=st) (j:=j) (x:=x / 8) (m:=8) (by decide) (by decide)
  obtain ⟨cs,y,h1,h2,h3⟩:=Yr (a:=a) (st:=st) (j:=j) (fi:=fi) ks (x / 8 / 8)
  refine ⟨(x % 8,x / 8 % 8)::cs,y,by rw [AT,AT,h1],fun c hc => ?_,?_⟩
  ·rcases AL.mp hc with q |q
   ·rw [q];show 0≤x % 8∧x % 8≤7∧0≤x / 8 % 8∧x / 8 % 8≤7;omega
   ·exact h2 c q
  ·exact WT (l:=[cP (x % 8,x / 8 % 8)]) trivial (yh (r':=[some (.ref st.length),some k]) rfl (W8 (qL (qK (l:=[.ref st.length,.int 8]) rfl t1) (qL (qK (l:=[.ref st.length,.int 8]) rfl t2) qk)) (sz rfl))) h3
theorem qHp {st j:qC} {b o:SO} {i:Nat} (h:i < j.length):(st++b::j).set (st.length + 1 + i) o=st++b::j.set i o:=by
 rw [Bw _ _ (by omega),show st.length + 1 + i - st.length=i + 1 by omega,List.set_cons_succ]
theorem qHm {l:List qN} {k:Nat}:(l.map cP).eraseIdx k=(l.eraseIdx k).map cP:=by
 induction l generalizing k with
 |nil=>rfl
 |cons c l ih =>
  cases k with
  |zero=>rfl
  |succ k=>rw [AU,List.eraseIdx_cons_succ,List.eraseIdx_cons_succ,AU,ih]
theorem qDl {a:Ad} {st j:qC} {x L:Int} (hL1:2≤L) (hL2:L≤5):∃ (F:List qN) (y:Int) (g:qC),Flr F∧wp a [.ref st.length,.int L] (st ++ .l [.int x]::j) = .ok (.tup (F.map cP)) (st ++ .l [.int y]::(j++g)):=by
 have t1:=Qn (a:=a) (st:=st) (j:=j) (x:=x) (m:=6) (by decide) (by decide)
 have t2:=Qn (a:=a) (st:=st) (j:=j) (x:=x / 6) (m:=8) (by decide) (by decide)
 have t3:=Qn (a:=a) (st:=st) (j:=j) (x:=x / 6 / 8) (m:=8) (by decide) (by decide)
 have hwy:=qg (x:=x) (m:=6) (by decide)
 have hhi:=qg (x:=x / 6) (m:=8) (by decide)
 have hwd:=qg (x:=x / 6 / 8) (m:=8) (by decide)
 generalize x % 6=wy at t1 hwy
 generalize x / 6 % 8=hi at t2 hhi
 generalize x / 6 / 8 % 8=wd at t3 hwd
 generalize x / 6 / 8 / 8=y at t3
 have pre:∀ {F:PV} {s:qC} {R:FS},R [some (.ref st.length),some (.int L),some (.int wy),some (.int (1 + hi)),some (.int (1 + wd)),none,none] (st ++ .l [.int y]::j) = .rt F s->qS (ql 2 (qH (qT a) (qA (qB 0) (qA (vC (.int 6)) qD)))) (qS (Zj 3 4 (qA (qG QE (vC (.int 1)) (qH (qT a) (qA (qB 0) (qA (vC (.int 8)) qD)))) (qA (qG QE (vC (.int 1)) (qH (qT a) (qA (qB 0) (qA (vC (.int 8)) qD)))) qD))) R) (QZ 7 [.ref st.length,.int L]) (st ++ .l [.int x]::j) = .rt F s:=fun {F s R} h=>by
  refine qY (Qq (p := .int wy) (qK (l:=[.ref st.length,.int 6]) rfl t1)) ?_
  exact qY (qDs (p := .int (1 + hi)) (q := .int (1 + wd)) (qL (qU rfl (qK (l:=[.ref st.length,.int 8]) rfl t2) Wo) (qL (qU rfl (qK (l:=[.ref st.length,.int 8]) rfl t3) Wo) qk))) h
 by_cases h2:wy > 2
 ·obtain ⟨z,g,i,fd,h3,hij,h4,h5,hb,h6⟩:=jG (a:=a) (st:=st) (j:=j) (x:=y) hL1 hL2
  have hS:∀ q,(st++SO.l [.int q]::(j++g))[st.length + 1 + i]? = some (.l (fd.map cP)):=fun q=>qEw h3
  by_cases h7:wy=5
  ·subst h7
   have hfl:0 < (fd.length:Int):=by
    have:fd.length≠0:=fun q=>h5 (Bj q)
    omega
   have t4:=Qn (a:=a) (st:=st) (j:=j++g) (x:=z) (m:=(fd.length:Int)) hfl (by omega)
   have hk:=qg (x:=z) hfl
   generalize z % (fd.length:Int)=k at t4 hk
   generalize z / (fd.length:Int)=z2 at t4
   have hil:i < (j++g).length:=(AO.mp h3).1
   have hkl:k.toNat < fd.length:=by omega
   have hpop:yd (qB 5) (qH (qT a) (qA (qB 0) (qA (qH wg (qA (qB 5) qD)) qD))) [some (.ref st.length),some (.int L),some (.int 5),some (.int (1 + hi)),some (.int (1 + wd)),some (.ref (st.length + 1 + i)),none] (st ++ .l [.int z]::(j++g)) = .ok (cP fd[k.toNat]) (st ++ .l [.int z2]::((j++g).set i (.l ((fd.eraseIdx k.toNat).map cP)))):=by
    rw [qEy (n:=st.length + 1 + i) (p:=cP fd[k.toNat]) (l:=fd.map cP) rfl (qJR (hS z)) (qK (l:=[.ref st.length,.int (fd.length:Int)]) (qL rfl (qL (qK (qL rfl qk) (zF (ZC (hS z)) (by rw [AC]))) qk)) t4) (hS z2) ⟨hk.1,by omega⟩ (by rw [Ag,AI hkl];rfl),qHp hil,qHm]
   have t5:=Qn (a:=a) (st:=st) (j:=(j++g).set i (.l ((fd.eraseIdx k.toNat).map cP))) (x:=z2) (m:=2) (by decide) (by decide)
   have hn:=qg (x:=z2) (m:=2) (by decide)
   obtain ⟨cs,y2,c1,c2,c3⟩:=Yr (a:=a) (st:=st) (j:=(j++g).set i (.l ((fd.eraseIdx k.toNat).map cP))) (fi:=QO (qA (qH (qT a) (qA (qB 0) (qA (vC (.int 2)) qD))) qD)) ((qX (z2 % 2)).map PV.int) (z2 / 2)
   rw [AC,QA] at c1
   have hS2:∀ q,(st++SO.l [.int q]::(j++g).set i (.l ((fd.eraseIdx k.toNat).map cP)))[st.length + 1 + i]? = some (.l ((fd.eraseIdx k.toNat).map cP)):=fun q=>qEw (BU hil)
   have hel:(fd.eraseIdx k.toNat).length=fd.length - 1:=by rw [List.length_eraseIdx_of_lt hkl]
   have hall:(fd.eraseIdx k.toNat++cs).length≤40:=by rw [AY,hel];omega
   refine ⟨ZE (fd.eraseIdx k.toNat++cs),y2,g.set (i - j.length) (.l ((fd.eraseIdx k.toNat).map cP)),⟨Am (JW _) hall,Y5 _,fun c hc => ?_⟩,Qe rfl ?_⟩
   ·rcases Ar.mp (mem_sddC.mp hc) with q |q
    ·exact hb.in8 c (List.mem_of_mem_eraseIdx q)
    ·exact c2 c q
   ·unfold wo
    refine pre (Wn (Ws (Ql (qU rfl rfl (qCj (by decide)))) ?_))
    refine qY (Qq (p := .ref (st.length + 1 + i)) (qK (l:=[.ref st.length,.int L]) rfl h6)) ?_
    have hcat:yE (qB 5) (vFz (qh [0] 1 (QO (qA (qH (qT a) (qA (qB 0) (qA (vC (.int 2)) qD))) qD)) (qq 1) [] [] (wa (qA (qH (qT a) (qA (qB 0) (qA (vC (.int 8)) qD))) (qA (qH (qT a) (qA (qB 0) (qA (vC (.int 8)) qD))) qD))))) [some (.ref st.length),some (.int L),some (.int 5),some (.int (1 + hi)),some (.int (1 + wd)),some (.ref (st.length + 1 + i)),none] (st ++ .l [.int z2]::((j++g).set i (.l ((fd.eraseIdx k.toNat).map cP)))) = .ok ((fd.eraseIdx k.toNat++cs).map cP) (st ++ .l [.int y2]::((j++g).set i (.l ((fd.eraseIdx k.toNat).map cP)))):=by
     rw [Bi]
     exact qD9 (l:=(fd.eraseIdx k.toNat).map cP) (m:=cs.map cP) rfl (w6 (yv (w:=⟨(qX (z2 % 2)).map PV.int,fun _=>True⟩) (itN (by omega) (by omega) (qL (qK (l:=[.ref st.length,.int 2]) rfl t5) qk)) c3 (by rw [AC];exact Qu (by omega)))) (wH (hS2 _)) rfl (by rw [AC,AC];exact Qu (by rw [hel];omega))
    refine qY (r':=[some (.ref st.length),some (.int L),some (.int 5),some (.int (1 + hi)),some (.int (1 + wd)),some (.lst ((fd.eraseIdx k.toNat++cs).map cP)),none]) (Ws (Ql (qU rfl rfl rfl)) (qY (yZ hpop) (Qq (w6 hcat)))) ?_
    rw [show (j++g).set i (.l ((fd.eraseIdx k.toNat).map cP))=j++g.set (i - j.length) (.l ((fd.eraseIdx k.toNat).map cP)) from Bw _ _ hij]
    exact Qr (qK (l:=[.lst ((ZE (fd.eraseIdx k.toNat++cs)).map cP)]) (qL (qDj rfl (qDM rfl (by omega))) qk) (WU rfl))
  ·refine ⟨ZE fd,z,g,⟨Am (JW _) h4,Y5 _,fun c hc=>hb.in8 c (mem_sddC.mp hc)⟩,Qe rfl ?_⟩
   unfold wo
   refine pre (Wn (Ws (Ql (qU rfl rfl (qCj h2))) ?_))
   refine qY (Qq (p := .ref (st.length + 1 + i)) (qK (l:=[.ref st.length,.int L]) rfl h6)) ?_
   refine qY (QJ (Ql (qU (p := .int wy) (q := .int 5) rfl rfl (by rw [Wt,BB.mpr h7]))) rfl) ?_
   exact Qr (qK (l:=[.lst ((ZE fd).map cP)]) (qL (qDj rfl (qDM (ZC (hS z)) (by omega))) qk) (WU rfl))
 ·obtain ⟨z,fd,y6,f1,f2,f3,f4⟩:=qA3 (a:=a) (st:=st) (j:=j) (L:=L) (hi:=1 + hi) (wy:=wy) (wd:=1 + wd) (by omega) (by omega) (qX (1 + hi)) y [] none (by rw [Bv,QA];omega) (by
   unfold qX
   rw [BN]
   exact List.pairwise_lt_range.imp fun h=>by omega) (fun c hc=>(Al hc).elim) List.Pairwise.nil (fun c hc=>(Al hc).elim) fun r hr=>by have:=upto_mem.mp hr;omega
  have fin:∀ (n:Nat) (s:qC),n≤40->vIf (vTB (qG gLt (qB 2) (vC (.int 2)))) (qAB (qB 5) yY (zK (vC (.int 40)))) (qAB (qB 5) yY (zK (qH (qT a) (qA (qB 0) (qA (vC (.int 8)) qD))))) [some (.ref st.length),some (.int L),some (.int wy),some (.int (1 + hi)),some (.int (1 + wd)),some (.lst (fd.map cP)),y6] (st ++ .l [.int z]::j) = .ok (.lst ((fd.take n).map cP)) s->wp a [.ref st.length,.int L] (st ++ .l [.int x]::j) = .ok (.tup ((fd.take n).map cP)) s:=fun n s hn h=>by
   refine Qe rfl ?_
   unfold wo
   refine pre (qY (QJ (Ql (qU rfl rfl (qCy h2))) rfl) (qY (Qq (p := .lst []) rfl) (qY (W7 (itN (L:=1 + hi) (by omega) (by omega) rfl) f4) ?_)))
   exact Qr (qK (qL h qk) (WU rfl))
  have ok:∀ n:Nat,n≤40->Flr (fd.take n):=fun n hn=>⟨by rw [B4];omega,f2.sublist (List.take_sublist _ _),fun c hc=>f3 c (List.mem_of_mem_take hc)⟩
  by_cases h8:wy < 2
  ·refine ⟨fd.take 40,z,[],ok 40 (AM _),?_⟩
   rw [A8]
   refine fin 40 _ (AM _) (qFb (Ql (qU rfl rfl (qGy h8))) ?_)
   rw [qFm (l:=fd.map cP) rfl rfl (qBA rfl) rfl,← qF8 (n:=40) (by decide)]
   rfl
  ·have t4:=Qn (a:=a) (st:=st) (j:=j) (x:=z) (m:=8) (by decide) (by decide)
   have hn:=qg (x:=z) (m:=8) (by decide)
   refine ⟨fd.take (z % 8).toNat,z / 8,[],ok _ (by omega),?_⟩
   rw [A8]
   refine fin _ _ (by omega) (qFN (Ql (qU rfl rfl (qG3 h8))) ?_)
   rw [qFm (l:=fd.map cP) rfl rfl (qBA (qK (l:=[.ref st.length,.int 8]) rfl t4)) rfl,← qF8 (n:=(z % 8).toNat) (by omega),show (((z % 8).toNat:Nat):Int)=z % 8 by omega]
theorem z9 {a:Ad} {L:Int} {st:qC} (h1:2≤L) (h2:L≤5):Qx a [.int L] st = .ok .non st:=by
 have e:WY a [.int L] st = .ok (.bl true) st:=by
  rw [Ji rfl]
  show Rs.ok (PV.bl (decide (2≤L)&&decide (L≤5))) st=_
  rw [AS h1,AS h2];rfl
 exact qB9 rfl (QJ (w_not (b:=true) (wE (qK (l:=[.int L]) rfl e))) rfl)
theorem map_set {t:List Int} {k:Nat} {v:Int}:(t.map PV.int).set k (.int v)=(t.set k v).map PV.int:=by rw [List.map_set]
theorem qBM {t:List Int} {k:Nat} (h:k < t.length):(t.map PV.int)[k]? = some (.int (t.getD k 0)):=by
 rw [Ag,AI h,AJ,AI h];rfl
theorem Jq {L:Int} (hL:0≤L):(List.replicate L.toNat [PV.int 0]).flatten=(List.replicate L.toNat (0:Int)).map PV.int:=by
 generalize L.toNat=n
 induction n with
 |zero=>rfl
 |succ n ih=>rw [A0,BQ,ih,A0,AU];rfl
def rs (L:Int) (i k:Int) (F:List qN):Int:=((F.filter fun c=>decide (c.1 % L=i)&&decide (c.2 % L=k)).length:Int)
def QI (L:Int) (F:List qN):List (List Int):=(qX L).map fun i=>(qX L).map fun k=>rs L i k F
def YQ (L:Int) (t:List (List Int)) (c:qN):List (List Int):=t.set (c.1 % L).toNat ((t.getD (c.1 % L).toNat []).set (c.2 % L).toNat ((t.getD (c.1 % L).toNat []).getD (c.2 % L).toNat 0 + 1))
def Qm (t:List (List Int)):qC:=t.map fun r=>SO.l (r.map PV.int)
def QY (n:Nat) (L:Int):List PV:=(List.range L.toNat).map fun i=>PV.ref (n + i)
def Sq (L:Int) (t:List (List Int)):Prop:=t.length=L.toNat ∧ ∀ r∈t,r.length=L.toNat
theorem Sq.row {L:Int} {t:List (List Int)} (h:Sq L t) {i:Nat} (hi:i < L.toNat):(t.getD i []).length=L.toNat:=by
 have:i < t.length:=by rw [h.1];exact hi
 rw [AJ,AI this]
 exact h.2 _ (B7 this)
theorem jO {L:Int} {t:List (List Int)} {c:qN} (hL:0 < L) (h:Sq L t):Sq L (YQ L t c):=by
 have hk:=qg (x:=c.1) hL
 unfold YQ
 refine ⟨by rw [CD];exact h.1,fun r hr => ?_⟩
 rcases List.mem_or_eq_of_mem_set hr with q |q
 ·exact h.2 r q
 ·rw [q,CD];exact h.row (by omega)
def qCX:FS:=(zp (qG gIx (qB 2) (qG w4 (qB 3) (qB 1))) (qG w4 (qB 4) (qB 1)) (vC (.int 1)))
theorem Yb {st:qC} {L:Int} {v0:PV} (hL:0 < L):∀ (F:List qN) (t:List (List Int)) (x3 x4:Option PV),Sq L t -> ∃ y3 y4,Qa (fun _=>True) (Wl 2 (qz (QB 3) (qz (QB 4) Wy))) qCX (F.map cP) [some v0,some (.int L),some (.ref (st.length + L.toNat)),x3,x4] (st++Qm t++[.l (QY st.length L)]) = .nx [some v0,some (.int L),some (.ref (st.length + L.toNat)),y3,y4] (st++Qm (F.foldl (YQ L) t)++[.l (QY st.length L)])
 |[],t,x3,x4,h=>⟨x3,x4,Qh trivial⟩
 |c::F,t,x3,x4,h=>by
  have hi:=qg (x:=c.1) hL
  have hk:=qg (x:=c.2) hL
  obtain ⟨y3,y4,e⟩:=Yb (st:=st) (v0:=v0) hL F (YQ L t c) (some (.int c.1)) (some (.int c.2)) (jO hL h)
  refine ⟨y3,y4,Wh (r1:=[some v0,some (.int L),some (.ref (st.length + L.toNat)),some (.int c.1),some (.int c.2)]) trivial rfl ?_ e⟩
  have hrl:(Qm t).length=L.toNat:=by unfold Qm;rw [AC];exact h.1
  have hs2:(st++Qm t++[SO.l (QY st.length L)])[st.length + L.toNat]? = some (.l (QY st.length L)):=by
   rw [Ac (by rw [AY,hrl];exact AM _),AY,hrl,Br];rfl
  have hil:(c.1 % L).toNat < L.toNat:=by omega
  have hs:(st++Qm t++[SO.l (QY st.length L)])[st.length + (c.1 % L).toNat]? = some (.l ((t.getD (c.1 % L).toNat []).map PV.int)):=by
   have hit:(c.1 % L).toNat < t.length:=by rw [h.1];exact hil
   rw [Ab (by rw [AY,hrl];omega),Ac (by omega),Nat.add_sub_cancel_left]
   unfold Qm
   rw [Ag,AI hit,AJ,AI hit];rfl
  have hix:gIx (.ref (st.length + L.toNat)) (.int (c.1 % L)) (st++Qm t++[SO.l (QY st.length L)]) = .ok (.ref (st.length + (c.1 % L).toNat)) (st++Qm t++[SO.l (QY st.length L)]):=by
   refine YI (ZC hs2) ?_
   unfold L2.atI
   have hrf:(QY st.length L).length=L.toNat:=by unfold QY;simp
   rw [hrf,ZB hi.1 (by omega)]
   show (QY st.length L)[(c.1 % L).toNat]? = _
   unfold QY
   rw [Ag,B8 hil];rfl
  have hkl:(c.2 % L).toNat < (t.getD (c.1 % L).toNat []).length:=by rw [h.row hil];omega
  have:=qCT (fo:=qG gIx (qB 2) (qG w4 (qB 3) (qB 1))) (fi2:=qG w4 (qB 4) (qB 1)) (f:=vC (.int 1)) (r:=[some v0,some (.int L),some (.ref (st.length + L.toNat)),some (.int c.1),some (.int c.2)]) (st:=st++Qm t++[SO.l (QY st.length L)]) (n:=st.length + (c.1 % L).toNat) (k:=c.2 % L) (qU rfl (qU rfl rfl (qAj hL)) hix) (qU rfl rfl (qAj hL)) hs hk.1 (qBM hkl) rfl hs (by rw [AC];exact hkl)
  unfold qCX
  rw [this,map_set,List.set_append_left _ _ (by rw [AY,hrl];omega),Bw _ _ (by omega),Nat.add_sub_cancel_left]
  rw [show Qm (YQ L t c)=(Qm t).set (c.1 % L).toNat (.l (((t.getD (c.1 % L).toNat []).set (c.2 % L).toNat ((t.getD (c.1 % L).toNat []).getD (c.2 % L).toNat 0 + 1)).map PV.int)) from List.map_set]
theorem qE2 {L:Int} {t:List (List Int)} {c:qN} {i k:Nat} (hi:(c.1 % L).toNat < t.length) (hk:(c.2 % L).toNat < (t.getD (c.1 % L).toNat []).length):((YQ L t c).getD i []).getD k 0=(t.getD i []).getD k 0 + (if (c.1 % L).toNat=i∧(c.2 % L).toNat=k then 1 else 0):=by
 unfold YQ
 rw [AJ (l:=t.set _ _),List.getElem?_set]
 by_cases h:(c.1 % L).toNat=i
 ·rw [AG h,AG hi]
  subst h
  show (((t.getD (c.1 % L).toNat []).set (c.2 % L).toNat _).getD k 0)=_
  rw [AJ,List.getElem?_set]
  by_cases h2:(c.2 % L).toNat=k
  ·rw [AG h2,AG hk,AG ⟨rfl,h2⟩,h2];rfl
  ·rw [AH h2,AH (fun z=>h2 z.2),Int.add_zero];exact (AJ ..).symm
 ·rw [AH h,AH (fun z=>h z.1),Int.add_zero,AJ (l:=t)]
theorem j7 {L:Int} (hL:0 < L):∀ (F:List qN) (t:List (List Int)),Sq L t->Sq L (F.foldl (YQ L) t)
 |[],t,h=>h
 |c::F,t,h=>by rw [BF];exact j7 hL F _ (jO hL h)
theorem JB {L:Int} (hL:0 < L) {i k:Int} (h0:0≤i) (h1:0≤k):∀ (F:List qN) (t:List (List Int)),Sq L t->((F.foldl (YQ L) t).getD i.toNat []).getD k.toNat 0=(t.getD i.toNat []).getD k.toNat 0 + rs L i k F
 |[],t,hl=>by unfold rs;simp
 |c::F,t,hl=>by
  have hi:=qg (x:=c.1) hL
  have hk:=qg (x:=c.2) hL
  have hit:(c.1 % L).toNat < t.length:=by rw [hl.1];omega
  have hkt:(c.2 % L).toNat < (t.getD (c.1 % L).toNat []).length:=by rw [hl.row (by omega)];omega
  rw [BF,JB hL h0 h1 F _ (jO hL hl),qE2 hit hkt]
  unfold rs
  rw [Bn]
  by_cases q:c.1 % L=i∧c.2 % L=k
  ·rw [AG (by rw [q.1,q.2];exact ⟨rfl,rfl⟩),AG (by rw [AS q.1,AS q.2];rfl),AT];omega
  ·rw [AH (fun z=>q ⟨by omega,by omega⟩),AH (by rw [Ay];exact fun z=>q ⟨BC z.1,BC z.2⟩)];omega
def zh (L:Int):List (List Int):=List.replicate L.toNat (List.replicate L.toNat 0)
theorem yy (L:Int):Sq L (zh L):=⟨by unfold zh;simp,fun r hr=>by rw [List.eq_of_mem_replicate hr];simp⟩
theorem qG2 {L:Int} {t u:List (List Int)} (h1:Sq L t) (h2:Sq L u) (h:∀ i k:Nat,i < L.toNat->k < L.toNat->(t.getD i []).getD k 0=(u.getD i []).getD k 0):t=u:=by
 refine List.ext_getElem (by rw [h1.1,h2.1]) fun i hi hi' => ?_
 have hi1:i < L.toNat:=by rw [← h1.1];exact hi
 have r1:=h1.row hi1
 have r2:=h2.row hi1
 have e1:t.getD i []=t[i]:=by rw [AJ,AI hi];rfl
 have e2:u.getD i []=u[i]:=by rw [AJ,AI hi'];rfl
 rw [e1] at r1
 rw [e2] at r2
 refine List.ext_getElem (by rw [r1,r2]) fun k hk hk' => ?_
 have:=h i k hi1 (by rw [← r1];exact hk)
 rw [e1,e2,AJ,AJ,AI hk,AI hk'] at this
 exact this
theorem ye (L:Int) (F:List qN):Sq L (QI L F):=⟨by unfold QI;rw [AC,QA],fun r hr=>by
 unfold QI at hr
 obtain ⟨i,_,rfl⟩:=Ae.mp hr
 rw [AC,QA]⟩
theorem yA {L:Int} {i:Nat} (hi:i < L.toNat):(qX L)[i]? = some (i:Int):=by
 unfold qX
 rw [Ag,B8 hi];rfl
theorem qC8 {L:Int} {F:List qN} {i k:Nat} (hi:i < L.toNat) (hk:k < L.toNat):((QI L F).getD i []).getD k 0=rs L i k F:=by
 unfold QI
 rw [AJ,AJ,Ag,yA hi]
 show ((qX L).map fun k=>rs L (i:Int) k F)[k]?.getD 0=_
 rw [Ag,yA hk];rfl
theorem qDk {L:Int} (hL:0 < L) (F:List qN):F.foldl (YQ L) (zh L)=QI L F:=by
 refine qG2 (j7 hL F _ (yy L)) (ye L F) fun i k hi hk => ?_
 have:=JB hL (i:=(i:Int)) (k:=(k:Int)) (by omega) (by omega) F (zh L) (yy L)
 rw [A5,A5] at this
 rw [this,qC8 hi hk]
 have e0:((zh L).getD i []).getD k 0=0:=by
  unfold zh
  rw [AJ,AJ,BK,AG hi]
  show (List.replicate L.toNat (0:Int))[k]?.getD 0=0
  rw [BK];split <;> rfl
 rw [e0,Int.zero_add]
theorem JR {L:Int} {fi:FI} (h1:2≤L) (h2:L≤5):∀ (n:Nat) (ks:List PV) (st:qC),ks.length=n->qm (fun _=>True) (QG ⟨fi,qq 1,[]⟩ (QR [] (vMk (y0 (wT (qA (vC (.int 0)) qD)) (qB 0)))) [some (.int L),none]) ks st = .ok ((List.range n).map fun i=>PV.ref (st.length + i)) (st++Qm (List.replicate n (List.replicate L.toNat 0)))
 |0,ks,st,h=>by
  rw [Bj h]
  rw [wN trivial]
  simp [Qm]
 |n + 1,ks,st,h=>by
  cases ks with
  |nil=>cases h
  |cons k ks =>
   have ih:=JR (fi:=fi) h1 h2 n ks (st++[.l ((List.replicate L.toNat (0:Int)).map PV.int)]) (by simpa using h)
   have:=WT (Gd:=fun _=>True) (k:=QG ⟨fi,qq 1,[]⟩ (QR [] (vMk (y0 (wT (qA (vC (.int 0)) qD)) (qB 0)))) [some (.int L),none]) (p:=k) (l:=[.ref st.length]) (st:=st) trivial (yh (r':=[some (.int L),some k]) rfl (qIu (l:=(List.replicate L.toNat (0:Int)).map PV.int) (s1:=st) (by
    rw [← Jq (by omega)]
    exact qDR (l:=[.int 0]) rfl rfl (by omega) (by show 1 * L.toNat≤_;exact Qu (by omega)) (by omega)))) ih
   rw [this]
   congr 1
   ·rw [CH,AU,Ak,AY,Bt]
    show _::_=_::_
    congr 1
    exact Ap fun i _=>by show PV.ref (st.length + 1 + i)=PV.ref (st.length + (i + 1));rw [Nat.add_assoc,Nat.add_comm 1 i]
   ·rw [Aj,A0];rfl
theorem zD {a:Ad} {F:List qN} {L:Int} {st:qC} (h1:2≤L) (h2:L≤5):wP a [.tup (F.map cP),.int L] st = .ok (.ref (st.length + L.toNat)) (st++Qm (QI L F)++[.l (QY st.length L)]):=by
 obtain ⟨y3,y4,e⟩:=Yb (st:=st) (L:=L) (v0 := .tup (F.map cP)) (by omega) F (zh L) none none (yy L)
 rw [qDk (by omega)] at e
 have hm:=JR (L:=L) (fi:=QO (qA (qB 1) qD)) h1 h2 L.toNat ((qX L).map PV.int) st (by rw [AC,QA])
 have hc:qh [1] 1 (QO (qA (qB 1) qD)) (qq 1) [] [] (vMk (y0 (wT (qA (vC (.int 0)) qD)) (qB 0))) (QZ 5 [.tup (F.map cP),.int L]) st = .ok (QY st.length L) (st++Qm (zh L)) :=
  yv (itN (by omega) (by omega) rfl) hm (by unfold QY;rw [AC,List.length_range];exact Qu (by omega))
 have hl:(st++Qm (zh L)).length=st.length + L.toNat:=by rw [AY];unfold Qm zh;simp
 have hset:=jZ (i:=2) hc
 rw [hl] at hset
 exact Qe rfl (qY (yZ (qK rfl (z9 h1 h2))) (qY hset (qY (W7 (Qo rfl) e) (Qr rfl))))
def hu (L:Int) (c:qN):Int:=(c.1 + c.2) % L
def YK (L:Int) (t:List Int) (c:qN):List Int:=t.set (hu L c).toNat (t.getD (hu L c).toNat 0 + 1)
def QV (L:Int) (F:List qN):List Int:=(qX L).map fun h=>((F.filter fun c=>decide (hu L c=h)).length:Int)
def qDQ:FS:=(zp (qB 2) (qG w4 (qG QE (qB 3) (qB 4)) (qB 1)) (vC (.int 1)))
theorem Jn {st:qC} {L:Int} {v0:PV} (hL:0 < L):∀ (F:List qN) (t:List Int) (x3 x4:Option PV),t.length=L.toNat -> ∃ y3 y4,Qa (fun _=>True) (Wl 2 (qz (QB 3) (qz (QB 4) Wy))) qDQ (F.map cP) [some v0,some (.int L),some (.ref st.length),x3,x4] (st++[.l (t.map PV.int)]) = .nx [some v0,some (.int L),some (.ref st.length),y3,y4] (st++[.l ((F.foldl (YK L) t).map PV.int)])
 |[],t,x3,x4,h=>⟨x3,x4,Qh trivial⟩
 |c::F,t,x3,x4,h=>by
  have hk:=qg (x:=c.1 + c.2) hL
  obtain ⟨y3,y4,e⟩:=Jn (st:=st) (v0:=v0) hL F (YK L t c) (some (.int c.1)) (some (.int c.2)) (by unfold YK;rw [CD];exact h)
  refine ⟨y3,y4,Wh (r1:=[some v0,some (.int L),some (.ref st.length),some (.int c.1),some (.int c.2)]) trivial rfl ?_ e⟩
  have hs:(st++[SO.l (t.map PV.int)])[st.length]? = some (.l (t.map PV.int)):=by simp
  have hkl:(hu L c).toNat < t.length:=by unfold hu;omega
  have:=qCT (fo:=qB 2) (fi2:=qG w4 (qG QE (qB 3) (qB 4)) (qB 1)) (f:=vC (.int 1)) (r:=[some v0,some (.int L),some (.ref st.length),some (.int c.1),some (.int c.2)]) (st:=st++[SO.l (t.map PV.int)]) (n:=st.length) (k:=hu L c) rfl (qU (qU rfl rfl Wo) rfl (qAj hL)) hs hk.1 (qBM hkl) rfl hs (by rw [AC];exact hkl)
  unfold qDQ
  rw [this,map_set,Bw _ _ (AM _),Br]
  rfl
theorem qE4 {L:Int} {t:List Int} {c:qN} {i:Nat} (hl:(hu L c).toNat < t.length):(YK L t c).getD i 0=t.getD i 0 + (if (hu L c).toNat=i then 1 else 0):=by
 unfold YK
 rw [AJ,List.getElem?_set]
 by_cases h:(hu L c).toNat=i
 ·rw [AG h,AG (by omega),AG h,h];rfl
 ·rw [AH h,AH h,Int.add_zero,AJ]
theorem JT {L:Int}:∀ (F:List qN) (t:List Int),(F.foldl (YK L) t).length=t.length
 |[],t=>rfl
 |c::F,t=>by rw [BF,JT F];unfold YK;rw [CD]
theorem qAc {L:Int} (hL:0 < L) {h:Int} (h0:0≤h):∀ (F:List qN) (t:List Int),t.length=L.toNat->(F.foldl (YK L) t).getD h.toNat 0=t.getD h.toNat 0 + ((F.filter fun c=>decide (hu L c=h)).length:Int)
 |[],t,hl=>by simp
 |c::F,t,hl=>by
  have hk:=qg (x:=c.1 + c.2) hL
  have hkl:(hu L c).toNat < t.length:=by unfold hu;omega
  rw [BF,qAc hL h0 F _ (by unfold YK;rw [CD];exact hl),qE4 hkl,Bn]
  by_cases q:hu L c=h
  ·rw [AG (by rw [q]),AG (by rw [AS q]),AT];omega
  ·rw [AH (fun z=>q (by unfold hu at z ⊢;omega)),AH (by rw [Aa q];simp)];omega
theorem qFT {L:Int} (hL:0 < L) (F:List qN):F.foldl (YK L) (List.replicate L.toNat 0)=QV L F:=by
 refine List.ext_getElem? fun i => ?_
 have hl:=JT (L:=L) F (List.replicate L.toNat 0)
 rw [List.length_replicate] at hl
 by_cases hi:i < L.toNat
 ·have:=qAc hL (h:=(i:Int)) (by omega) F (List.replicate L.toNat 0) (by simp)
  rw [A5] at this
  unfold QV
  rw [Ag,AI (by rw [hl];exact hi),AI (by rw [QA];exact hi)]
  rw [AJ,AI (by rw [hl];exact hi)] at this
  have e0:(List.replicate L.toNat (0:Int)).getD i 0=0:=by rw [AJ,BK];split <;> rfl
  rw [e0,Int.zero_add] at this
  have e1:(qX L)[i]'(by rw [QA];exact hi)=(i:Int):=by unfold qX;simp
  show some _=some _
  rw [e1]
  exact B3 some this
 ·rw [CM (by omega),CM (by unfold QV;rw [AC,QA];omega)]
theorem Zz {a:Ad} {F:List qN} {L:Int} {st:qC} (h1:2≤L) (h2:L≤5):wG a [.tup (F.map cP),.int L] st = .ok (.ref st.length) (st++[.l ((QV L F).map PV.int)]):=by
 obtain ⟨y3,y4,e⟩:=Jn (st:=st) (L:=L) (v0 := .tup (F.map cP)) (by omega) F (List.replicate L.toNat 0) none none (by simp)
 rw [qFT (by omega)] at e
 refine Qe rfl (qY (yZ (qK rfl (z9 h1 h2))) (qY (jZ (l:=(List.replicate L.toNat (0:Int)).map PV.int) (s1:=st) ?_) (qY (W7 (Qo rfl) e) (Qr rfl))))
 rw [← Jq (by omega)]
 exact qDR (l:=[.int 0]) rfl rfl (by omega) (by show 1 * L.toNat≤_;exact Qu (by omega)) (by omega)
def qCe (st:qC) (n:Nat) (R:List (List Int)):Prop := ∀ (i:Nat) (r:List Int),R[i]? = some r->st[n + i]? = some (.l (r.map PV.int))
theorem qEp {A B:qC} {R:List (List Int)} {n:Nat} (h:A.length=n):qCe (A++Qm R++B) n R:=fun i r hr=>by
 have hi:=(AO.mp hr).1
 have hl:(Qm R).length=R.length:=by unfold Qm;rw [AC]
 rw [Ab (by rw [AY,hl];omega),Ac (by omega),show n + i - A.length=i by omega]
 unfold Qm
 rw [Ag,hr];rfl
theorem qHQ {S:qC} {m n:Nat} {L:Int} {i:Nat} (h:S[m]? = some (.l (QY n L))) (hi:i < L.toNat):gIx (.ref m) (.int (i:Int)) S = .ok (.ref (n + i)) S:=by
 refine YI (ZC h) ?_
 unfold L2.atI
 have hrf:(QY n L).length=L.toNat:=by unfold QY;simp
 rw [hrf,ZB (by omega) (by omega)]
 show (QY n L)[((i:Int)).toNat]? = _
 rw [A5]
 unfold QY
 rw [Ag,B8 hi];rfl
def rc (R:List (List Int)) (i k:Int):Int:=(R.getD i.toNat []).getD k.toNat 0
def bad (R:List (List Int)) (i k:Int):Bool := !(rc R i k + rc R 0 0==rc R i 0 + rc R 0 k)
def apF (L:Int) (R:List (List Int)):List Int->Option (Int×Int)
 |[]=>none
 |i::is=>match (qX L).find? (bad R i) with
  |some k=>some (i,k)
  |none=>apF L R is
def apP:Option (Int×Int)->PV
 |some c=>cP c
 |none => .non
structure Tb (S:qC) (m n:Nat) (L:Int) (R:List (List Int)):Prop where
 top:S[m]? = some (.l (QY n L))
 rows:qCe S n R
 sq:Sq L R
theorem qC6 {S:qC} {m n:Nat} {L:Int} {R:List (List Int)} (T:Tb S m n L R) {i:Int} (h0:0≤i) (h1:i < L):gIx (.ref m) (.int i) S = .ok (.ref (n + i.toNat)) S:=by
 have:=qHQ (i:=i.toNat) T.top (by omega)
 rw [show ((i.toNat:Nat):Int)=i by omega] at this
 exact this
theorem Jx {S:qC} {m n:Nat} {L:Int} {R:List (List Int)} (T:Tb S m n L R) {i:Int} (h0:0≤i) (h1:i < L):S[n + i.toNat]? = some (.l ((R.getD i.toNat []).map PV.int)):=by
 have hi:i.toNat < R.length:=by rw [T.sq.1];omega
 have:=T.rows i.toNat _ (AI hi)
 rw [this,AJ,AI hi];rfl
theorem Wa {S:qC} {m n:Nat} {L:Int} {R:List (List Int)} (T:Tb S m n L R) {i k:Int} {r:QC} {f fi fk:FE} (hf:f r S = .ok (.ref m) S) (hi:fi r S = .ok (.int i) S) (hk:fk r S = .ok (.int k) S) (h0:0≤i) (h1:i < L) (h2:0≤k) (h3:k < L):qG gIx (qG gIx f fi) fk r S = .ok (.int (rc R i k)) S:=by
 refine qU (qU hf hi (qC6 T h0 h1)) hk (YI (ZC (Jx T h0 h1)) ?_)
 exact W6 (L:=L) (T.sq.row (by omega)) h2 h3
theorem qGa {i j:Int} {st:qC}:gNe (.int i) (.int j) st = .ok (.bl (!(i==j))) st:=rfl
def qH9:FS:=(qS (ql 5 (qG QE (qG gIx (qG gIx (qB 2) (qB 3)) (vC (.int 0))) (qG gIx (qG gIx (qB 2) (vC (.int 0))) (qB 4)))) (Qb (vTB (qG gNe (qG QE (qG gIx (qG gIx (qB 2) (qB 3)) (qB 4)) (qG gIx (qG gIx (qB 2) (vC (.int 0))) (vC (.int 0)))) (qB 5))) (qe (wa (qA (qB 3) (qA (qB 4) qD)))) q8))
theorem qFn {S:qC} {m n:Nat} {L:Int} {R:List (List Int)} (T:Tb S m n L R) {v0:PV} {i:Int} (h0:0≤i) (h1:i < L):∀ (ks:List Int) (x4 x5:Option PV),(∀ k∈ks,0≤k∧k < L) -> ∃ y4 y5,Qa (fun _=>True) (QB 4) qH9 (ks.map PV.int) [some v0,some (.int L),some (.ref m),some (.int i),x4,x5] S=match ks.find? (bad R i) with |some k => .rt (cP (i,k)) S |none => .nx [some v0,some (.int L),some (.ref m),some (.int i),y4,y5] S
 |[],x4,x5,_=>⟨x4,x5,Qh trivial⟩
 |k::ks,x4,x5,h=>by
  have hk:=h k AE
  obtain ⟨y4,y5,e⟩:=qFn T (v0:=v0) h0 h1 ks (some (.int k)) (some (.int (rc R i 0 + rc R 0 k))) fun q hq=>h q (AB _ hq)
  refine ⟨y4,y5,?_⟩
  rw [CY]
  have e1:qG QE (qG gIx (qG gIx (qB 2) (qB 3)) (vC (.int 0))) (qG gIx (qG gIx (qB 2) (vC (.int 0))) (qB 4)) [some v0,some (.int L),some (.ref m),some (.int i),some (.int k),x5] S = .ok (.int (rc R i 0 + rc R 0 k)) S :=
   qU (Wa T rfl rfl rfl h0 h1 (by omega) (by omega)) (Wa T rfl rfl rfl (by omega) (by omega) hk.1 hk.2) Wo
  have e2:vTB (qG gNe (qG QE (qG gIx (qG gIx (qB 2) (qB 3)) (qB 4)) (qG gIx (qG gIx (qB 2) (vC (.int 0))) (vC (.int 0)))) (qB 5)) [some v0,some (.int L),some (.ref m),some (.int i),some (.int k),some (.int (rc R i 0 + rc R 0 k))] S = .ok (bad R i k) S :=
   Ql (qU (qU (Wa T rfl rfl rfl h0 h1 hk.1 hk.2) (Wa T rfl rfl rfl (by omega) (by omega) (by omega) (by omega)) Wo) rfl qGa)
  cases hb:bad R i k with
  |true =>
   rw [hb] at e2
   exact Y3 (r1:=[some v0,some (.int L),some (.ref m),some (.int i),some (.int k),x5]) trivial rfl (qY (Qq e1) (Ws e2 (Qr (W8 (qL rfl (qL rfl qk)) (sz rfl)))))
  |false =>
   rw [hb] at e2
   exact Wh (r1:=[some v0,some (.int L),some (.ref m),some (.int i),some (.int k),x5]) trivial rfl (qY (Qq e1) (QJ e2 rfl)) e
def qID:FS:=(wn (QO (qA (qB 1) qD)) (QB 4) qH9)
theorem qEM {S:qC} {m n:Nat} {L:Int} {R:List (List Int)} (T:Tb S m n L R) {v0:PV} (hL:0 < L) (h5:L≤5):∀ (is:List Int) (x3 x4 x5:Option PV),(∀ k∈is,0≤k∧k < L) -> ∃ y3 y4 y5,Qa (fun _=>True) (QB 3) qID (is.map PV.int) [some v0,some (.int L),some (.ref m),x3,x4,x5] S=match apF L R is with |some c => .rt (cP c) S |none => .nx [some v0,some (.int L),some (.ref m),y3,y4,y5] S
 |[],x3,x4,x5,_=>⟨x3,x4,x5,Qh trivial⟩
 |i::is,x3,x4,x5,h=>by
  have hi:=h i AE
  obtain ⟨z4,z5,e1⟩:=qFn T (v0:=v0) hi.1 hi.2 (qX L) x4 x5 fun k hk=>upto_mem.mp hk
  obtain ⟨y3,y4,y5,e⟩:=qEM T (v0:=v0) hL h5 is (some (.int i)) z4 z5 fun q hq=>h q (AB _ hq)
  refine ⟨y3,y4,y5,?_⟩
  unfold apF
  cases hf:(qX L).find? (bad R i) with
  |some k =>
   rw [hf] at e1
   exact Y3 (r1:=[some v0,some (.int L),some (.ref m),some (.int i),x4,x5]) trivial rfl (W7 (itN (by omega) (by omega) rfl) e1)
  |none =>
   rw [hf] at e1
   exact Wh (r1:=[some v0,some (.int L),some (.ref m),some (.int i),x4,x5]) trivial rfl (W7 (itN (by omega) (by omega) rfl) e1) e
def rsS (st:qC) (L:Int) (F:List qN):qC:=st++Qm (QI L F)++[.l (QY st.length L)]
theorem YG {st:qC} {L:Int} {F:List qN} (h5:0≤L):Tb (rsS st L F) (st.length + L.toNat) st.length L (QI L F):=by
 have hrl:(Qm (QI L F)).length=L.toNat:=by unfold Qm;rw [AC];exact (ye L F).1
 refine ⟨?_,qEp rfl,ye L F⟩
 unfold rsS
 rw [Ac (by rw [AY,hrl];exact AM _),AY,hrl,Br];rfl
def apr (L:Int) (F:List qN):Option (Int×Int):=apF L (QI L F) (qX L)
theorem ZI {a:Ad} {F:List qN} {L:Int} {st:qC} (h1:2≤L) (h2:L≤5):QU a [.tup (F.map cP),.int L] st = .ok (apP (apr L F)) (rsS st L F):=by
 obtain ⟨y3,y4,y5,e⟩:=qEM (YG (st:=st) (F:=F) (show 0≤L by omega)) (v0 := .tup (F.map cP)) (by omega) h2 (qX L) none none none fun k hk=>upto_mem.mp hk
 refine Qe rfl (qY (Qq (qK rfl (zD h1 h2))) ?_)
 unfold apr
 cases hf:apF L (QI L F) (qX L) with
 |some c=>rw [hf] at e;exact Wn (W7 (itN (by omega) (by omega) rfl) e)
 |none=>rw [hf] at e;exact qY (W7 (itN (by omega) (by omega) rfl) e) (Qr rfl)
def hdF (L:Int) (R:List (List Int)):List Int:=(qX L).map fun i=>rc R i 0
def tlF (R:List (List Int)):List Int:=(R.getD 0 []).map fun x=>x - rc R 0 0
theorem Yu {n:Nat} {L:Int}:QY n L=(qX L).map fun i=>PV.ref (n + i.toNat):=by
 unfold QY qX
 rw [Ak]
 exact Ap fun i _=>by show PV.ref (n + i)=PV.ref (n + ((i:Int)).toNat);rw [A5]
theorem qEf {S:qC} {m n:Nat} {L:Int} {R:List (List Int)} (T:Tb S m n L R) (hL:0 < L) (h5:L≤5) {r:QC} {f:FE} (hf:f r S = .ok (.ref m) S):qh [] 1 (q9 f) (qq 0) [] [] (qG gIx (qB 0) (vC (.int 0))) r S = .ok ((hdF L R).map PV.int) S:=by
 let G:PV->PV:=fun p=>match p with | .ref q => .int (rc R ((q - n:Nat):Int) 0) |_ => .non
 have e:(hdF L R).map PV.int=(QY n L).map G:=by
  rw [Yu,Ak]
  unfold hdF
  rw [Ak]
  refine Ap fun i hi => ?_
  have:=upto_mem.mp hi
  show PV.int (rc R i 0)=PV.int (rc R ((n + i.toNat - n:Nat):Int) 0)
  rw [show ((n + i.toNat - n:Nat):Int)=i by omega]
 rw [e]
 refine QQ (F:=G) (yG hf T.top) T.top (by show (QY n L).length≤_;unfold QY;rw [AC,List.length_range];exact Qu (by omega)) fun p hp => ?_
 have hp:p∈QY n L:=hp
 rw [Yu] at hp
 obtain ⟨i,hi,rfl⟩:=Ae.mp hp
 have hi:=upto_mem.mp hi
 refine ⟨[some (.ref (n + i.toNat))],rfl,qU rfl rfl ?_⟩
 refine (YI (ZC (Jx T hi.1 hi.2)) (W6 (L:=L) (T.sq.row (by omega)) (A3 0) hL)).trans ?_
 show Rs.ok (PV.int (rc R i 0)) S=Rs.ok (PV.int (rc R ((n + i.toNat - n:Nat):Int) 0)) S
 rw [show ((n + i.toNat - n:Nat):Int)=i by omega]
theorem qEs {S:qC} {m n:Nat} {L:Int} {R:List (List Int)} (T:Tb S m n L R) (hL:0 < L) (h5:L≤5) {j:Nat} {r:QC} (hr:r[j]? = some (some (.ref m))):qh [j] 1 (q9 (qG gIx (qB j) (vC (.int 0)))) (qq 1) [] [] (qG WQ (qB 1) (qG gIx (qG gIx (qB 0) (vC (.int 0))) (vC (.int 0)))) r S = .ok ((tlF R).map PV.int) S:=by
 have h0:=Jx T (A3 0) hL
 have e1:qG gIx (qB j) (vC (.int 0)) r S = .ok (.ref (n + 0)) S:=qU (YC hr) rfl (qC6 T (A3 0) hL)
 let G:PV->PV:=fun p=>match p with | .int x => .int (x - rc R 0 0) |_ => .non
 have e:(tlF R).map PV.int=((R.getD 0 []).map PV.int).map G:=by unfold tlF;rw [Ak,Ak];rfl
 rw [e]
 have hcap:w5 [j] 1 r=[some (.ref m),none]:=by
  unfold w5
  simp [hr]
 refine QQ (F:=G) (yG e1 h0) h0 (by show ((R.getD 0 []).map PV.int).length≤_;rw [AC,T.sq.row (show 0 < L.toNat by omega)];exact Qu (by omega)) fun p hp => ?_
 obtain ⟨x,_,rfl⟩:=Ae.mp (show p∈(R.getD 0 []).map PV.int from hp)
 refine ⟨[some (.ref m),some (.int x)],by rw [hcap];rfl,?_⟩
 exact qU rfl (Wa T rfl rfl rfl (A3 0) hL (A3 0) hL) jB
theorem qDG {S X:qC} {m n:Nat} {L:Int} {R:List (List Int)} (T:Tb S m n L R):Tb (S++X) m n L R:=by
 have up:∀ (k:Nat) (o:SO),S[k]? = some o->(S++X)[k]? = some o:=fun k o h=>by rw [Ab (AO.mp h).1];exact h
 exact ⟨up _ _ T.top,fun i r hr=>up _ _ (T.rows i r hr),T.sq⟩
def smP (L:Int) (F:List qN):PV:=match apr L F with
 |some _ => .non
 |none => .tup [.lst ((hdF L (QI L F)).map PV.int),.lst ((tlF (QI L F)).map PV.int)]
theorem Ys {st:qC} {L:Int} {F:List qN}:∃ X,rsS st L F=st++X:=⟨Qm (QI L F)++[.l (QY st.length L)],by unfold rsS;rw [Aj]⟩
theorem qBF {a:Ad} {F:List qN} {L:Int} {st:qC} (h1:2≤L) (h2:L≤5):∃ X,Wi a [.tup (F.map cP),.int L] st = .ok (smP L F) (st++X):=by
 have ea:=ZI (a:=a) (F:=F) (L:=L) (st:=st) h1 h2
 obtain ⟨X,eX⟩:=Ys (st:=st) (L:=L) (F:=F)
 unfold smP
 cases hf:apr L F with
 |some c =>
  rw [hf,eX] at ea
  exact ⟨X,Qe rfl (Wn (Ws (Ql (qU (p:=cP c) (q := .non) (qK rfl ea) rfl rfl)) (Qr rfl)))⟩
 |none =>
  rw [hf,eX] at ea
  obtain ⟨Y,eY⟩:=Ys (st:=st++X) (L:=L) (F:=F)
  have T:=YG (st:=st++X) (F:=F) (L:=L) (by omega)
  have er:wP a [.tup (F.map cP),.int L] (st++X) = .ok (.ref ((st++X).length + L.toNat)) (rsS (st++X) L F):=zD h1 h2
  rw [eY,Aj] at er
  rw [eY,Aj] at T
  exact ⟨X++Y,Qe rfl (qY (QJ (Ql (qU (p := .non) (q := .non) (qK rfl ea) rfl rfl)) rfl) (qY (Qq (qK rfl er)) (Qr (W8 (qL (w6 (qEf T (by omega) h2 rfl)) (qL (w6 (qEs T (by omega) h2 (j:=2) rfl)) qk)) (sz rfl)))))⟩
def ind (p q i k:Int):Int:=if p=i∧q=k then 1 else 0
def one (p q:Int):Int:=if p=q then 1 else 0
theorem Zy {L i k:Int} {c:qN} {F:List qN}:rs L i k (c::F)=ind (c.1 % L) (c.2 % L) i k + rs L i k F:=by
 unfold rs ind
 rw [Bn]
 by_cases q:c.1 % L=i∧c.2 % L=k
 ·rw [AG (by rw [AS q.1,AS q.2];rfl),AG q,AT];omega
 ·rw [AH (by rw [Ay];exact fun z=>q ⟨BC z.1,BC z.2⟩),AH q];omega
theorem yx {L i k:Int}:∀ F:List qN,rs L i k F=(F.map fun c=>ind (c.1 % L) (c.2 % L) i k).sum
 |[]=>rfl
 |c::F=>by rw [Zy,AU,CB,yx F]
theorem jX {L i k:Int} {F G:List qN}:rs L i k (F++G)=rs L i k F + rs L i k G:=by
 rw [yx,yx,yx,Bi,List.sum_append]
theorem ZN {L i k:Int} {F G:List qN} (h:F.Perm G):rs L i k F=rs L i k G:=by
 unfold rs
 rw [(h.filter _).length_eq]
def hq (L h:Int) (F:List qN):Int:=((F.filter fun c=>decide (hu L c=h)).length:Int)
theorem jf {L h:Int} {c:qN} {F:List qN}:hq L h (c::F)=one (hu L c) h + hq L h F:=by
 unfold hq one
 rw [Bn]
 by_cases q:hu L c=h
 ·rw [AG (AS q),AG q,AT];omega
 ·rw [AH (by rw [Aa q];simp),AH q];omega
theorem yk {L h:Int}:∀ F:List qN,hq L h F=(F.map fun c=>one (hu L c) h).sum
 |[]=>rfl
 |c::F=>by rw [jf,AU,CB,yk F]
theorem qGw {L h:Int} {F G:List qN}:hq L h (F++G)=hq L h F + hq L h G:=by
 rw [yk,yk,yk,Bi,List.sum_append]
theorem qE9 {L h:Int} {F G:List qN} (p:F.Perm G):hq L h F=hq L h G:=by
 unfold hq
 rw [(p.filter _).length_eq]
theorem Z8 {f g:Int->Int}:∀ l:List Int,(l.map fun i=>f i + g i).sum=(l.map f).sum + (l.map g).sum
 |[]=>rfl
 |x::l=>by rw [AU,CB,Z8 l,AU,AU,CB,CB];omega
theorem qJM:∀ L p q i k:Fin 6,2≤L.val->p.val < L.val->q.val < L.val->i.val < L.val->k.val < L.val->((qX (L.val:Int)).map fun t=>ind (p.val:Int) (((q.val:Int) + t) % (L.val:Int)) (i.val:Int) (k.val:Int)).sum=one (p.val:Int) (i.val:Int):=by decide +kernel
theorem qIx:∀ L q h:Fin 6,2≤L.val->q.val < L.val->h.val < L.val->((qX (L.val:Int)).map fun t=>one (((q.val:Int) + t) % (L.val:Int)) (h.val:Int)).sum=1:=by decide +kernel
theorem qI0:∀ L p q h:Fin 6,2≤L.val->p.val < L.val->q.val < L.val->h.val < L.val->((qX (L.val:Int)).map fun i=>ind (p.val:Int) (q.val:Int) i (((h.val:Int) - i) % (L.val:Int))).sum=one (((p.val:Int) + (q.val:Int)) % (L.val:Int)) (h.val:Int):=by decide +kernel
theorem qI3:∀ L r:Fin 6,2≤L.val->r.val < L.val->((qX (L.val:Int)).map fun h=>one (r.val:Int) h).sum=1:=by decide +kernel
theorem n0 {x:Int} (h:0≤x):((x.toNat:Nat):Int)=x:=by omega
theorem t1 {L p q i k:Int} (a1:2≤L) (a2:L≤5) (b1:0≤p) (b2:p < L) (c1:0≤q) (c2:q < L) (d1:0≤i) (d2:i < L) (e1:0≤k) (e2:k < L):((qX L).map fun t=>ind p ((q + t) % L) i k).sum=one p i:=by
 have:=qJM ⟨L.toNat,by omega⟩ ⟨p.toNat,by omega⟩ ⟨q.toNat,by omega⟩ ⟨i.toNat,by omega⟩ ⟨k.toNat,by omega⟩ (by show 2≤L.toNat;omega) (by show p.toNat < L.toNat;omega) (by show q.toNat < L.toNat;omega) (by show i.toNat < L.toNat;omega) (by show k.toNat < L.toNat;omega)
 dsimp only at this
 rw [n0 (show 0≤L by omega),n0 b1,n0 c1,n0 d1,n0 e1] at this
 exact this
theorem t3 {L q h:Int} (a1:2≤L) (a2:L≤5) (c1:0≤q) (c2:q < L) (d1:0≤h) (d2:h < L):((qX L).map fun t=>one ((q + t) % L) h).sum=1:=by
 have:=qIx ⟨L.toNat,by omega⟩ ⟨q.toNat,by omega⟩ ⟨h.toNat,by omega⟩ (by show 2≤L.toNat;omega) (by show q.toNat < L.toNat;omega) (by show h.toNat < L.toNat;omega)
 dsimp only at this
 rw [n0 (show 0≤L by omega),n0 c1,n0 d1] at this
 exact this
theorem t4 {L p q h:Int} (a1:2≤L) (a2:L≤5) (b1:0≤p) (b2:p < L) (c1:0≤q) (c2:q < L) (d1:0≤h) (d2:h < L):((qX L).map fun i=>ind p q i ((h - i) % L)).sum=one ((p + q) % L) h:=by
 have:=qI0 ⟨L.toNat,by omega⟩ ⟨p.toNat,by omega⟩ ⟨q.toNat,by omega⟩ ⟨h.toNat,by omega⟩ (by show 2≤L.toNat;omega) (by show p.toNat < L.toNat;omega) (by show q.toNat < L.toNat;omega) (by show h.toNat < L.toNat;omega)
 dsimp only at this
 rw [n0 (show 0≤L by omega),n0 b1,n0 c1,n0 d1] at this
 exact this
theorem t5 {L r:Int} (a1:2≤L) (a2:L≤5) (b1:0≤r) (b2:r < L):((qX L).map fun h=>one r h).sum=1:=by
 have:=qI3 ⟨L.toNat,by omega⟩ ⟨r.toNat,by omega⟩ (by show 2≤L.toNat;omega) (by show r.toNat < L.toNat;omega)
 dsimp only at this
 rw [n0 (show 0≤L by omega),n0 b1] at this
 exact this
theorem t6 {L h:Int} (f:Int->Int) (a1:2≤L) (a2:L≤5) (d1:0≤h) (d2:h < L):((qX L).map fun i=>f ((h - i) % L)).sum=((qX L).map f).sum:=by
 have hL:L=2∨L=3∨L=4∨L=5:=by omega
 have hh:h=0∨h=1∨h=2∨h=3∨h=4:=by omega
 rcases hL with rfl |rfl |rfl |rfl <;> rcases hh with rfl |rfl |rfl |rfl |rfl <;> first |omega |(simp [qX,List.range_succ,List.range_zero];omega) |simp [qX,List.range_succ,List.range_zero]
theorem Zd {L h:Int} (a1:2≤L) (a2:L≤5) (d1:0≤h) (d2:h < L):∀ F:List qN,((qX L).map fun i=>rs L i ((h - i) % L) F).sum=hq L h F
 |[]=>by
  have:((qX L).map fun i=>rs L i ((h - i) % L) [])=(qX L).map fun _=>(0:Int):=rfl
  rw [this]
  show _=(0:Int)
  generalize qX L=l
  induction l with
  |nil=>rfl
  |cons x l ih=>rw [AU,CB,ih];rfl
 |c::F=>by
  have hL:0 < L:=by omega
  rw [jf,← Zd a1 a2 d1 d2 F,show ((qX L).map fun i=>rs L i ((h - i) % L) (c::F))=(qX L).map fun i=>ind (c.1 % L) (c.2 % L) i ((h - i) % L) + rs L i ((h - i) % L) F from Ap fun i _=>Zy,Z8,t4 a1 a2 (qg hL).1 (qg hL).2 (qg hL).1 (qg hL).2 d1 d2]
  unfold hu
  rw [← Int.add_emod]
theorem qAw {L:Int} (a1:2≤L) (a2:L≤5):∀ F:List qN,(QV L F).sum=(F.length:Int)
 |[]=>by
  show ((qX L).map fun h=>hq L h []).sum=0
  have:((qX L).map fun h=>hq L h [])=(qX L).map fun _=>(0:Int):=rfl
  rw [this]
  generalize qX L=l
  induction l with
  |nil=>rfl
  |cons x l ih=>rw [AU,CB,ih];rfl
 |c::F=>by
  have hL:0 < L:=by omega
  have ih:=qAw a1 a2 F
  show ((qX L).map fun h=>hq L h (c::F)).sum=_
  rw [show ((qX L).map fun h=>hq L h (c::F))=(qX L).map fun h=>one (hu L c) h + hq L h F from Ap fun i _=>jf,Z8,show ((qX L).map (one (hu L c))).sum=1 from t5 a1 a2 (qg hL).1 (qg hL).2,AT]
  have ih:((qX L).map fun h=>hq L h F).sum=(F.length:Int):=ih
  rw [ih];omega
theorem Y7 {L r c w i k:Int} (a1:2≤L) (a2:L≤5) (d1:0≤i) (d2:i < L) (e1:0≤k) (e2:k < L):rs L i k (wB r c w L)=if w=0 then one (r % L) i else one (c % L) k:=by
 have hL:0 < L:=by omega
 rw [yx]
 unfold wB
 rw [Ak]
 by_cases h:w=0
 ·rw [AG h,← t1 a1 a2 (qg hL).1 (qg hL).2 (qg (x:=c) hL).1 (qg hL).2 d1 d2 e1 e2]
  congr 1
  refine Ap fun t _ => ?_
  show ind ((if w=0 then (r,c + t) else (r + t,c)).1 % L) ((if w=0 then (r,c + t) else (r + t,c)).2 % L) i k=_
  rw [AG h,Int.emod_add_emod]
 ·rw [AH h,← t1 a1 a2 (qg hL).1 (qg hL).2 (qg (x:=r) hL).1 (qg hL).2 e1 e2 d1 d2]
  congr 1
  refine Ap fun t _ => ?_
  show ind ((if w=0 then (r,c + t) else (r + t,c)).1 % L) ((if w=0 then (r,c + t) else (r + t,c)).2 % L) i k=_
  rw [AH h,Int.emod_add_emod]
  unfold ind
  by_cases q:(r + t) % L=i∧c % L=k
  ·rw [AG q,AG ⟨q.2,q.1⟩]
  ·rw [AH q,AH fun z=>q ⟨z.2,z.1⟩]
theorem qGv {L r c w h:Int} (a1:2≤L) (a2:L≤5) (d1:0≤h) (d2:h < L):hq L h (wB r c w L)=1:=by
 have hL:0 < L:=by omega
 rw [yk]
 unfold wB
 rw [Ak,← t3 a1 a2 (qg (x:=r + c) hL).1 (qg hL).2 d1 d2]
 congr 1
 refine Ap fun t _ => ?_
 show one (hu L (if w=0 then (r,c + t) else (r + t,c))) h=_
 rw [Int.emod_add_emod]
 unfold hu
 by_cases q:w=0
 ·rw [AG q,show r + (c + t)=r + c + t by omega]
 ·rw [AH q,show r + t + c=r + c + t by omega]
def det (L i k:Int) (F:List qN):Int:=rs L i k F + rs L 0 0 F - rs L i 0 F - rs L 0 k F
theorem Wb {L i k:Int} {F:List qN} (h0:0≤i) (h1:i < L) (h2:0≤k) (h3:k < L):rc (QI L F) i k=rs L i k F:=by
 have:=qC8 (L:=L) (F:=F) (i:=i.toNat) (k:=k.toNat) (by omega) (by omega)
 rw [n0 h0,n0 h2] at this
 exact this
theorem Z9 {L i k:Int} {F:List qN} (h0:0≤i) (h1:i < L) (h2:0≤k) (h3:k < L):bad (QI L F) i k = !decide (det L i k F=0):=by
 unfold bad det
 rw [Wb h0 h1 h2 h3,Wb (A3 0) (by omega) (A3 0) (by omega),Wb h0 h1 (A3 0) (by omega),Wb (A3 0) (by omega) h2 h3]
 by_cases q:rs L i k F + rs L 0 0 F=rs L i 0 F + rs L 0 k F
 ·rw [CF.mpr q,AS (by omega)]
 ·rw [BB.mpr q,Aa (by omega)]
theorem zt {f g:Int->Bool}:∀ {l:List Int},(∀ x∈l,f x=g x)->l.find? f=l.find? g
 |[],_=>rfl
 |x::l,h=>by rw [CY,CY,h x AE,zt fun y hy=>h y (AB _ hy)]
theorem Yc {L:Int} {R S:List (List Int)} (h:∀ i k,0≤i->i < L->0≤k->k < L->bad R i k=bad S i k):∀ {is:List Int},(∀ i∈is,0≤i∧i < L)->apF L R is=apF L S is
 |[],_=>rfl
 |i::is,hi=>by
  have h0:=hi i AE
  unfold apF
  rw [zt (f:=bad R i) (g:=bad S i) fun k hk=>h i k h0.1 h0.2 (upto_mem.mp hk).1 (upto_mem.mp hk).2,Yc h fun q hq=>hi q (AB _ hq)]
theorem YR {L:Int} {F G:List qN} (h:∀ i k,0≤i->i < L->0≤k->k < L->det L i k F=det L i k G):apr L F=apr L G :=
 Yc (fun i k a b c d=>by rw [Z9 a b c d,Z9 a b c d,h i k a b c d]) fun i hi=>upto_mem.mp hi
theorem qAk {f:Int->Bool}:∀ {l:List Int},l.find? f=none -> ∀ x∈l,f x=false
 |[],_,x,hx=>(Al hx).elim
 |y::l,h,x,hx=>by
  rw [CY] at h
  cases e:f y with
  |true=>rw [e] at h;cases h
  |false =>
   rw [e] at h
   rcases AL.mp hx with rfl |hx
   ·exact e
   ·exact qAk h x hx
theorem qD2 {L:Int} {R:List (List Int)}:∀ {is:List Int},apF L R is=none -> ∀ i∈is,∀ k,0≤k->k < L->bad R i k=false
 |[],_,i,hi=>(Al hi).elim
 |j::is,h,i,hi=>by
  unfold apF at h
  cases e:(qX L).find? (bad R j) with
  |some k=>rw [e] at h;cases h
  |none =>
   rw [e] at h
   rcases AL.mp hi with rfl |hi
   ·exact fun k k0 k1=>qAk e k (upto_mem.mpr ⟨k0,k1⟩)
   ·exact qD2 h i hi
theorem qCL {L:Int} {F:List qN} (h:apr L F=none) {i k:Int} (a:0≤i) (b:i < L) (c:0≤k) (d:k < L):det L i k F=0:=by
 have:=qD2 h i (upto_mem.mpr ⟨a,b⟩) k c d
 rw [Z9 a b c d] at this
 by_cases q:det L i k F=0
 ·exact q
 ·rw [Aa q] at this;cases this
theorem qIm {L:Int} {F:List qN} (h:∀ i k,0≤i->i < L->0≤k->k < L->det L i k F=0):apr L F=none:=by
 have:apr L F=apr L []:=YR fun i k a b c d=>by rw [h i k a b c d];rfl
 rw [this]
 have e:∀ is:List Int,(∀ i∈is,0≤i∧i < L)->apF L (QI L []) is=none:=fun is=>by
  induction is with
  |nil=>intro _;rfl
  |cons i is ih =>
   intro hi
   have h0:=hi i AE
   unfold apF
   rw [zt (g:=fun _=>false) fun k hk=>by rw [Z9 h0.1 h0.2 (upto_mem.mp hk).1 (upto_mem.mp hk).2];rfl,show (qX L).find? (fun _=>false)=none by
    generalize qX L=l
    induction l with
    |nil=>rfl
    |cons x l ih=>rw [CY,ih]]
   exact ih fun q hq=>hi q (AB _ hq)
 exact e _ fun i hi=>upto_mem.mp hi
theorem qBE {L r c w i k:Int} (a1:2≤L) (a2:L≤5) (d1:0≤i) (d2:i < L) (e1:0≤k) (e2:k < L):det L i k (wB r c w L)=0:=by
 unfold det
 rw [Y7 a1 a2 d1 d2 e1 e2,Y7 a1 a2 (A3 0) (by omega) (A3 0) (by omega),Y7 a1 a2 d1 d2 (A3 0) (by omega),Y7 a1 a2 (A3 0) (by omega) e1 e2]
 by_cases h:w=0
 ·rw [AG h,AG h,AG h,AG h];omega
 ·rw [AH h,AH h,AH h,AH h];omega
theorem qAm {L i k:Int} {F G:List qN}:det L i k (F++G)=det L i k F + det L i k G:=by
 unfold det
 rw [jX,jX,jX,jX];omega
theorem JP {L i k:Int} {F G:List qN} (h:F.Perm G):det L i k F=det L i k G:=by
 unfold det
 rw [ZN h,ZN h,ZN h,ZN h]
theorem Put.det0 {L:Int} (a1:2≤L) (a2:L≤5) {fd:List qN} (h:Put L fd) {i k:Int} (d1:0≤i) (d2:i < L) (e1:0≤k) (e2:k < L):det L i k fd=0:=by
 induction h with
 |nil=>rfl
 |cons _ _ _ ih=>rw [qAm,ih,qBE a1 a2 d1 d2 e1 e2];rfl
theorem ZX {r c w L:Int}:(wB r c w L).Nodup:=by
 unfold wB qX
 rw [Ak]
 refine BN.mpr (List.nodup_range.imp fun {x y} hne h=>hne ?_)
 have h:(if w=0 then (r,c + (x:Int)) else (r + (x:Int),c))=(if w=0 then (r,c + (y:Int)) else (r + (y:Int),c)):=h
 by_cases q:w=0
 ·rw [AG q,AG q] at h
  have:=(B1 h).2
  omega
 ·rw [AH q,AH q] at h
  have:=(B1 h).1
  omega
theorem Put.nodup {L:Int} {fd:List qN} (h:Put L fd):fd.Nodup:=by
 induction h with
 |nil=>exact List.nodup_nil
 |cons _ _ h3 ih=>exact List.nodup_append.mpr ⟨ih,ZX,fun x hx y hy e=>h3 y hy (by rw [← e];exact hx)⟩
theorem Y1 {L:Int} {F:List qN} (a1:2≤L) (a2:L≤5) (h0:apr L F=none) {h:Int} (d1:0≤h) (d2:h < L):hq L h F=((qX L).map fun i=>rs L i 0 F).sum + ((qX L).map fun k=>rs L 0 k F - rs L 0 0 F).sum:=by
 have hL:0 < L:=by omega
 rw [← Zd a1 a2 d1 d2 F,← t6 (fun k=>rs L 0 k F - rs L 0 0 F) a1 a2 d1 d2,← Z8]
 congr 1
 refine Ap fun i hi => ?_
 have hi:=upto_mem.mp hi
 have:=qCL h0 hi.1 hi.2 (qg (x:=h - i) hL).1 (qg hL).2
 unfold det at this
 omega
def qBp (F C:List qN):List qN:=F.filter fun c => !decide (c∈C)
theorem Yx {F C:List qN} (hF:F.Nodup) (hC:C.Nodup) (hs:∀ c∈C,c∈F):F.Perm (C++qBp F C):=by
 refine (List.filter_append_perm (fun c=>decide (c∈C)) F).symm.trans (List.Perm.append ?_ (List.Perm.refl _))
 refine ET.perm_of_nodup (hF.filter _) hC fun x => ?_
 rw [CC]
 exact ⟨fun z=>BC z.2,fun z=>⟨hs x z,AS z⟩⟩
theorem qDL {L r c w:Int} {F:List qN} (a1:2≤L) (a2:L≤5) (hF:F.Nodup) (hs:∀ x∈wB r c w L,x∈F):apr L (qBp F (wB r c w L))=apr L F :=
 YR fun i k a b c d=>by rw [JP (Yx hF ZX hs),qAm,qBE a1 a2 a b c d,Int.zero_add]
theorem qEY {L r c w h:Int} {F:List qN} (a1:2≤L) (a2:L≤5) (hF:F.Nodup) (hs:∀ x∈wB r c w L,x∈F) (d1:0≤h) (d2:h < L):hq L h F - hq L h (qBp F (wB r c w L))=1:=by
 rw [qE9 (Yx hF ZX hs),qGw,qGv a1 a2 d1 d2];omega
def swp (c:qN):qN:=(c.2,c.1)
theorem qC3 {L i k:Int}:∀ F:List qN,rs L i k (F.map swp)=rs L k i F
 |[]=>rfl
 |c::F=>by
  rw [AU,Zy,Zy,qC3 F]
  congr 1
  unfold ind
  show (if c.2 % L=i∧c.1 % L=k then (1:Int) else 0)=_
  by_cases q:c.2 % L=i∧c.1 % L=k
  ·rw [AG q,AG ⟨q.2,q.1⟩]
  ·rw [AH q,AH fun z=>q ⟨z.2,z.1⟩]
theorem Yp (l:List qN):(We l).Perm l:=by
 unfold We
 have:=(ET.srt_perm (l.map cL)).map lC
 rw [Ak,show (lC ∘ cL:qN->qN)=id from rfl,List.map_id] at this
 exact this
theorem qDT:∀ (kss acc:List (List Int)),(acc++kss).Nodup->kss.foldl ET.ddTS acc=acc++kss
 |[],acc,_=>by rw [A8];rfl
 |k::kss,acc,h=>by
  rw [BF]
  have hk:k ∉ acc:=fun z=>(List.nodup_append.mp h).2.2 k z k AE rfl
  unfold ET.ddTS
  rw [AH hk]
  have e:acc++k::kss=acc++[k]++kss:=by rw [Aj];rfl
  rw [e] at h ⊢
  exact qDT kss (acc++[k]) h
theorem qER {l:List qN} (h:l.Nodup):We l=ZE l:=by
 unfold We ZE ET.ddT
 rw [qDT (l.map cL) [] (by
  rw [List.nil_append]
  exact BN.mpr (h.imp fun {x y} hne e=>hne (by rw [← YY x,e,YY])))]
 rfl
theorem Put.flr {L:Int} {fd:List qN} (h:Put L fd) (hl:fd.length≤40):Flr (We fd) :=
 ⟨by rw [qCw];exact hl,by rw [qER h.nodup];exact Y5 _,fun c hc=>h.in8 c (mem_srtC.mp hc)⟩
theorem qHH {c d:qN} (h:clt c d):c≠d:=by
 intro e
 subst e
 unfold clt at h
 omega
theorem Flr.nodup {F:List qN} (h:Flr F):F.Nodup:=h.ris.imp qHH
theorem jh {f:PV->Bool} {l:List PV} {st:qC}:yQ [.lst (l.map fun p => .bl (f p))] st = .ok (.bl (l.all f)) st:=by
 unfold yQ YU
 simp only [asL]
 rw [jo]
 show Rs.ok (PV.bl ((l.map f).all id)) st=_
 rw [List.all_map]
 rfl
theorem itR {lo hi:Int} {r:QC} {st s1:qC} {f:FA} (h1:0≤lo) (h2:lo≤1000) (h3:0≤hi) (h4:hi≤1000) (hf:f r st = .ok [.int lo,.int hi] s1):(Jo f) r st = .ok ⟨Zs lo hi,fun _=>True⟩ s1:=by
 unfold Jo
 rw [hf]
 show jb [.int lo,.int hi] s1=_
 unfold jb
 dsimp only
 rw [AG ⟨by omega,by omega,by omega,by omega⟩]
theorem qBl {a:Ad} {F:List qN} {st:qC} (hF:F.length≤40):zl a [.tup (F.map cP)] st = .ok (.tup ((We (F.map swp)).map cP)) st:=by
 let G:PV->PV:=fun p=>cP (swp (unC p))
 have e:=QQ (caps:=[]) (n:=2) (fi:=q9 (qB 0)) (g:=Wl 2 (qz (qq 0) (qz (qq 1) Wy))) (f:=wa (qA (qB 1) (qA (qB 0) qD))) (r:=QZ 1 [.tup (F.map cP)]) (st:=st) (w:=⟨F.map cP,fun _=>True⟩) (F:=G) (Qo rfl) trivial (by rw [AC];exact Qu (by omega)) fun p hp=>by
  obtain ⟨c,_,rfl⟩:=Ae.mp hp
  exact ⟨[some (.int c.1),some (.int c.2)],rfl,W8 (qL rfl (qL rfl qk)) (sz rfl)⟩
 have e2:(F.map cP).map G=(F.map swp).map cP:=by rw [Ak,Ak];rfl
 exact Qe rfl (Qr (qK (qL (qDz (w6 e) (qDd (l:=F.map swp) (by show some ((F.map cP).map G)=_;rw [e2]) (by rw [AC];omega))) qk) (WU rfl)))
theorem qC0 {a:Ad} {c:qN} {st:qC} (h:In8 c):WB a [cP c] st = .ok (.bl true) st:=by
 unfold In8 at h
 have e:=QQ (caps:=[]) (n:=1) (fi:=q9 (qB 0)) (g:=qq 0) (f:=qH (qo a) (qA (qB 0) (qA (vC (.int 0)) (qA (vC (.int 7)) qD)))) (r:=QZ 1 [cP c]) (st:=st) (w:=⟨[.int c.1,.int c.2],fun _=>True⟩) (F:=fun p => .bl (Zb 0 7 p)) (Qo rfl) trivial (sz rfl) fun p hp=>⟨[some p],rfl,qK rfl (yp (by
  rcases AL.mp hp with rfl |hp
  ·rfl
  ·rw [Ai.mp hp];rfl))⟩
 refine Qe rfl (qY (QJ (Wc (w_not (b:=true) (wE (qK (l:=[cP c,.ty "tuple"]) rfl rfl))) (Ql (qU (p := .int 2) (q := .int 2) (qK (l:=[cP c]) rfl (zF rfl rfl)) rfl rfl))) rfl) (Qr (qK (qL (w6 e) qk) ?_)))
 rw [jh]
 show Rs.ok (PV.bl ((decide (0≤c.1)&&decide (c.1≤7))&&((decide (0≤c.2)&&decide (c.2≤7))&&true))) st=_
 rw [AS h.1,AS h.2.1,AS h.2.2.1,AS h.2.2.2]
 rfl
theorem qJG {c d:qN} {st:qC} (h:clt c d):qBs (cP c) (cP d) st = .ok (.bl true) st:=by
 show (if zC (cP c) (cP d)=true then (match plts [.int c.1,.int c.2] [.int d.1,.int d.2] with |some r=>Rs.ok (PV.bl r) st |none => .no) else .no)=_
 have h0:zC (cP c) (cP d)=true:=rfl
 rw [AG h0]
 have:plts [.int c.1,.int c.2] [.int d.1,.int d.2]=some true:=by
  show (if (c.1==d.1)=true then (if (c.2==d.2)=true then some false else some (decide (c.2 < d.2))) else some (decide (c.1 < d.1)))=_
  rcases h with h |h
  ·rw [AH (by rw [CF];omega),AS h]
  ·rw [AG (CF.mpr h.1),AH (by rw [CF];omega),AS h.2]
 rw [this]
theorem qIS {F:List qN} {i:Nat} {st:qC} (h:i < F.length):gIx (.tup (F.map cP)) (.int (i:Int)) st = .ok (cP F[i]) st:=by
 refine YI rfl ?_
 unfold L2.atI
 rw [ZB (by omega) (by rw [AC];omega),Option.bind_some,A5,Ag,AI h]
 rfl
theorem qCE {a:Ad} {F:List qN} {st:qC} (hF:Flr F):wq a [.tup (F.map cP)] st = .ok (.bl true) st:=by
 have h40:=hF.len
 have e:=QQ (caps:=[0]) (n:=1) (fi:=Jo (qA (vC (.int 1)) (qA (qH wg (qA (qB 0) qD)) qD))) (g:=qq 1) (f:=qG qBs (qG gIx (qB 0) (qG WQ (qB 1) (vC (.int 1)))) (qG gIx (qB 0) (qB 1))) (r:=QZ 1 [.tup (F.map cP)]) (st:=st) (w:=⟨Zs 1 (F.length:Int),fun _=>True⟩) (F:=fun _ => .bl true) (itR (by decide) (by decide) (by omega) (by omega) (qL rfl (qL (qK (l:=[.tup (F.map cP)]) rfl (zF rfl (by rw [AC]))) qk))) trivial (by unfold Zs;rw [AC,List.length_range];exact Qu (by omega)) fun p hp=>by
  obtain ⟨i,hi,rfl⟩:=Ae.mp hp
  have hi:=BE.mp hi
  have h1:i + 1 < F.length:=by omega
  have g1:gIx (.tup (F.map cP)) (.int (1 + (i:Int) - 1)) st = .ok (cP F[i]) st:=by rw [show (1:Int) + (i:Int) - 1=(i:Int) by omega];exact qIS _
  have g2:gIx (.tup (F.map cP)) (.int (1 + (i:Int))) st = .ok (cP F[i + 1]) st:=by rw [show (1:Int) + (i:Int)=((i + 1:Nat):Int) by omega];exact qIS h1
  exact ⟨[some (.tup (F.map cP)),some (.int (1 + (i:Int)))],rfl,qU (qU rfl (qU rfl rfl jB) g1) (qU rfl rfl g2) (qJG (List.pairwise_iff_getElem.mp hF.ris i (i + 1) (by omega) h1 (by omega)))⟩
 refine Qe rfl (Qr (qK (qL (w6 e) qk) ?_))
 rw [jh (f:=fun _=>true),CP.mpr fun _ _=>rfl]
theorem J6 {f g:FE} {r:QC} {st s1:qC} {R:Rs PV} (h:f r st = .ok (.bl true) s1) (h2:g r s1=R):jL f g r st=R:=by
 unfold jL;rw [h];exact h2
theorem qBb {a:Ad} {l:List PV} {st:qC} (h40:l.length≤40) (h1:∀ p∈l,WB a [p] st = .ok (.bl true) st) (h2:wq a [.tup l] st = .ok (.bl true) st):WJ a [.tup l] st = .ok (.bl true) st:=by
 have e:=QQ (caps:=[]) (n:=1) (fi:=q9 (qB 0)) (g:=qq 0) (f:=qH (WB a) (qA (qB 0) qD)) (r:=QZ 1 [.tup l]) (st:=st) (w:=⟨l,fun _=>True⟩) (F:=fun _ => .bl true) (Qo rfl) trivial (Qu (by show l.length≤_;omega)) fun p hp=>⟨[some p],rfl,qK (l:=[p]) rfl (h1 p hp)⟩
 have ea:yQ [.lst (l.map fun _ => .bl true)] st = .ok (.bl true) st:=by rw [jh (f:=fun _=>true),CP.mpr fun _ _=>rfl]
 have eb:qH yQ (qA (vFz (qh [] 1 (q9 (qB 0)) (qq 0) [] [] (qH (WB a) (qA (qB 0) qD)))) qD) (QZ 1 [.tup l]) st = .ok (.bl true) st:=qK (qL (w6 e) qk) ea
 have ec:qH (wq a) (qA (qB 0) qD) (QZ 1 [.tup l]) st = .ok (.bl true) st:=qK (l:=[.tup l]) rfl h2
 have eg:vTB (qG gGt (qH wg (qA (qB 0) qD)) (vC (.int 40))) (QZ 1 [.tup l]) st = .ok false st:=Ql (qU (qK (l:=[.tup l]) rfl (zF (n:=(l.length:Int)) rfl rfl)) rfl (qCy (by omega)))
 exact Qe rfl (qY (QJ (Wc (w_not (b:=true) (wE (qK (l:=[.tup l,.ty "tuple"]) rfl rfl))) eg) rfl) (Qr (J6 eb ec)))
theorem qAT {a:Ad} {F:List qN} {st:qC} (hF:Flr F):WJ a [.tup (F.map cP)] st = .ok (.bl true) st :=
 qBb (by rw [AC];exact hF.len) (fun p hp=>by
  obtain ⟨c,hc,rfl⟩:=Ae.mp hp
  exact qC0 (hF.b c hc)) (qCE hF)
abbrev Bar:=Int×Int×Int
def bP (b:Bar):PV := .tup [.int b.1,.int b.2.1,.int b.2.2]
def cov (L:Int) (b:Bar):List qN:=wB b.1 b.2.1 b.2.2 L
theorem YT {a:Ad} {b:Bar} {L:Int} {st:qC} (h1:0≤L) (h2:L≤1000):wt a [bP b,.int L] st = .ok (.tup ((cov L b).map cP)) st:=by
 obtain ⟨r,c,w⟩:=b
 refine Qe rfl ?_
 unfold zI
 refine qY (qEE (r1:=[some (bP (r,c,w)),some (.int L),some (.int r),some (.int c),some (.int w)]) rfl rfl) ?_
 have hl:(qX L).length≤sizeLine:=by rw [QA];exact Qu (by omega)
 unfold cov
 dsimp only
 by_cases hw:w=0
 ·subst hw
  let F:PV->PV:=fun p=>match p with | .int k=>cP (r,c + k) |_ => .non
  have e:(wB r c 0 L).map cP=((qX L).map PV.int).map F:=by
   unfold wB
   rw [Ak,Ak]
   exact Ap fun k _=>by show cP (if (0:Int)=0 then (r,c + k) else (r + k,c))=_;rw [AG rfl];rfl
  rw [e]
  refine Wn (Ws (Ql (qU (p := .int 0) (q := .int 0) rfl rfl (by rw [Wt,Aq]))) (Qr (qK (qL (w6 (QQ (F:=F) (itN h1 h2 rfl) trivial (by rw [AC];exact hl) fun p hp => ?_)) qk) (WU rfl))))
  obtain ⟨k,_,rfl⟩:=Ae.mp hp
  exact ⟨[some (.int r),some (.int c),some (.int k)],rfl,W8 (qL rfl (qL (qU rfl rfl Wo) qk)) (sz rfl)⟩
 ·let F:PV->PV:=fun p=>match p with | .int k=>cP (r + k,c) |_ => .non
  have e:(wB r c w L).map cP=((qX L).map PV.int).map F:=by
   unfold wB
   rw [Ak,Ak]
   exact Ap fun k _=>by show cP (if w=0 then (r,c + k) else (r + k,c))=_;rw [AH hw];rfl
  rw [e]
  refine qY (QJ (Ql (qU (p := .int w) (q := .int 0) rfl rfl (by rw [Wt,BB.mpr hw]))) rfl) (Qr (qK (qL (w6 (QQ (F:=F) (itN h1 h2 rfl) trivial (by rw [AC];exact hl) fun p hp => ?_)) qk) (WU rfl)))
  obtain ⟨k,_,rfl⟩:=Ae.mp hp
  exact ⟨[some (.int c),some (.int r),some (.int k)],rfl,W8 (qL (qU rfl rfl Wo) (qL rfl qk)) (sz rfl)⟩
def inF (L:Int) (F:List qN) (b:Bar):Bool:=(cov L b).all fun x=>decide (x∈F)
theorem qH6 {F:List qN} {l:List qN} {f:PV->Bool} (h:∀ c,f (cP c)=decide (c∈F)):(l.map cP).all f=l.all fun x=>decide (x∈F):=by
 rw [List.all_map]
 congr 1
 funext c
 exact h c
theorem qCD {a:Ad} {b:Bar} {L:Int} {F:List qN} {st:qC} (h1:0≤L) (h2:L≤1000):WR a [.tup (F.map cP),bP b,.int L] st = .ok (.bl (inF L F b)) st:=by
 have e:=QQ (caps:=[0]) (n:=1) (fi:=q9 (qH (wt a) (qA (qB 1) (qA (qB 2) qD)))) (g:=qq 1) (f:=qG (gIn false) (qB 1) (qB 0)) (r:=QZ 3 [.tup (F.map cP),bP b,.int L]) (st:=st) (w:=⟨(cov L b).map cP,fun _=>True⟩) (F:=fun p => .bl (decide (unC p∈F))) (Qo (qK (l:=[bP b,.int L]) rfl (YT h1 h2))) trivial (by rw [AC];unfold cov;rw [qAy];exact Qu (by omega)) fun p hp=>by
  obtain ⟨c,_,rfl⟩:=Ae.mp hp
  exact ⟨[some (.tup (F.map cP)),some (cP c)],rfl,qU rfl rfl (qGq rfl)⟩
 refine Qe rfl (Qr (qK (qL (w6 e) qk) ?_))
 rw [jh (f:=fun p=>decide (unC p∈F)),qH6 fun c=>rfl]
 rfl
theorem qEr {fi:FI} {g:FG} {g2:GenF} {gs:List GenF} {f:FE} {r r':QC} {st s1:qC} {p:PV} {w:ItP} (h:g p r=some r') (hf:g2.fi r' st = .ok w s1):QG ⟨fi,g,[]⟩ (QR (g2::gs) f) r p st=qm w.G (QG g2 (QR gs f) r') w.l s1:=by
 unfold QG
 show (match g p r with |none=>_ |some r'=>_)=_
 rw [h]
 show (QR (g2::gs) f) r' st=_
 rw [QR]
 show ((g2.fi r' st).bind _)=_
 rw [hf]
 rfl
def two (c:qN):List Bar:=[(c.1,c.2,0),(c.1,c.2,1)]
theorem yg {st:qC} {fi:FI}:∀ F:List qN,qm (fun _=>True) (QG ⟨fi,Wl 2 (qz (qq 0) (qz (qq 1) Wy)),[]⟩ (QR [⟨(q9 (wa (qA (vC (.int 0)) (qA (vC (.int 1)) qD)))),(qq 2),[]⟩] (wa (qA (qB 0) (qA (qB 1) (qA (qB 2) qD))))) [none,none,none]) (F.map cP) st = .ok ((F.flatMap two).map bP) st
 |[]=>wN trivial
 |c::F=>by
  rw [List.flatMap_cons,Bi,AU]
  refine WT trivial ?_ (yg F)
  have hh:q9 (wa (qA (vC (.int 0)) (qA (vC (.int 1)) qD))) [some (.int c.1),some (.int c.2),none] st = .ok ⟨[.int 0,.int 1],fun _=>True⟩ st:=Qo (W8 (qL rfl (qL rfl qk)) (sz rfl))
  rw [qEr (r':=[some (.int c.1),some (.int c.2),none]) (w:=⟨[.int 0,.int 1],fun _=>True⟩) (s1:=st) rfl hh]
  exact WT (l:=[bP (c.1,c.2,0)]) (m:=[bP (c.1,c.2,1)]) trivial (yh (r':=[some (.int c.1),some (.int c.2),some (.int 0)]) rfl (W8 (qL rfl (qL rfl (qL rfl qk))) (sz rfl))) (WT (l:=[bP (c.1,c.2,1)]) (m:=[]) trivial (yh (r':=[some (.int c.1),some (.int c.2),some (.int 1)]) rfl (W8 (qL rfl (qL rfl (qL rfl qk))) (sz rfl))) (wN trivial))
theorem Z0:∀ F:List qN,(F.flatMap two).length=2 * F.length
 |[]=>rfl
 |c::F=>by rw [List.flatMap_cons,AY,Z0 F,AT];show 2 + _=_;omega
def zV (L:Int) (F:List qN):List Bar:=(F.flatMap two).filter (inF L F)
def unB:PV->Bar
 | .tup [.int r,.int c,.int w]=>(r,c,w)
 |_=>(0,0,0)
theorem qFj {a:Ad} {F:List qN} {L:Int} {st:qC} (h1:2≤L) (h2:L≤5) (hF:F.length≤40):za a [.tup (F.map cP),.int L] st = .ok (.lst ((zV L F).map bP)) st:=by
 have e1:qh [] 3 (q9 (qB 0)) (Wl 2 (qz (qq 0) (qz (qq 1) Wy))) [] [⟨(q9 (wa (qA (vC (.int 0)) (qA (vC (.int 1)) qD)))),(qq 2),[]⟩] (wa (qA (qB 0) (qA (qB 1) (qA (qB 2) qD)))) (QZ 3 [.tup (F.map cP),.int L]) st = .ok ((F.flatMap two).map bP) st :=
  yv (w:=⟨F.map cP,fun _=>True⟩) (Qo rfl) (yg F) (by rw [AC,Z0];exact Qu (by omega))
 have e2:=Wu (caps:=[0,1]) (n:=1) (fi:=q9 (qB 2)) (g:=qq 2) (t:=Qc (qH (WR a) (qA (qB 0) (qA (qB 2) (qA (qB 1) qD))))) (f:=qB 2) (r:=[some (.tup (F.map cP)),some (.int L),some (.lst ((F.flatMap two).map bP))]) (st:=st) (w:=⟨(F.flatMap two).map bP,fun _=>True⟩) (c:=fun p=>inF L F (unB p)) (yD rfl) trivial (by rw [AC,Z0];exact Qu (by omega)) fun p hp=>by
  obtain ⟨b,_,rfl⟩:=Ae.mp hp
  exact ⟨[some (.tup (F.map cP)),some (.int L),some (bP b)],rfl,wE (qK (l:=[.tup (F.map cP),bP b,.int L]) rfl (qCD (by omega) (by omega))),rfl⟩
 have e3:((F.flatMap two).map bP).filter (fun p=>inF L F (unB p))=(zV L F).map bP:=by
  unfold zV
  rw [List.filter_map]
  rfl
 refine Qe rfl (qY (yZ (qK (l:=[.int L]) rfl (z9 h1 h2))) (qY (Qq (w6 e1)) (Qr (w6 (e2.trans ?_)))))
 rw [← e3]
theorem qGb {L:Int} {F:List qN} {b:Bar} (h:b∈zV L F):(∃ c,c∈F∧b.1=c.1∧b.2.1=c.2)∧(b.2.2=0∨b.2.2=1) ∧ ∀ x∈cov L b,x∈F:=by
 obtain ⟨h1,h2⟩:=CC.mp h
 obtain ⟨c,hc,hb⟩:=List.mem_flatMap.mp h1
 refine ⟨⟨c,hc,?_⟩,?_,fun x hx=>BC (CP.mp h2 x hx)⟩
 ·rcases AL.mp hb with rfl |hb
  ·exact ⟨rfl,rfl⟩
  ·rw [Ai.mp hb];exact ⟨rfl,rfl⟩
 ·rcases AL.mp hb with rfl |hb
  ·exact .inl rfl
  ·rw [Ai.mp hb];exact .inr rfl
theorem win {a:Ad} {i lo hi:Int} {st:qC} (h1:lo≤i) (h2:i≤hi):qo a [.int i,.int lo,.int hi] st = .ok (.bl true) st:=by
 rw [yp rfl]
 show Rs.ok (PV.bl (decide (lo≤i)&&decide (i≤hi))) st=_
 rw [AS h1,AS h2]
 rfl
theorem qDS {a:Ad} {b:Bar} {st:qC} (h1:-40≤b.1∧b.1≤40) (h2:-40≤b.2.1∧b.2.1≤40) (h3:b.2.2=0∨b.2.2=1):yI a [bP b] st = .ok (.bl true) st:=by
 obtain ⟨r,c,w⟩:=b
 dsimp only at h1 h2 h3
 refine Qe rfl (qY (QJ (Wc (w_not (b:=true) (wE (qK (l:=[bP (r,c,w),.ty "tuple"]) rfl rfl))) (Ql (qU (p := .int 3) (q := .int 3) (qK (l:=[bP (r,c,w)]) rfl (zF rfl rfl)) rfl rfl))) rfl) ?_)
 refine qY (qEE (r1:=[some (bP (r,c,w)),some (.int r),some (.int c),some (.int w)]) rfl rfl) ?_
 refine qY (QJ (Wc (w_not (b:=true) (wE (qK (l:=[.int r,.int (-40),.int 40]) rfl (win h1.1 h1.2)))) (w_not (b:=true) (wE (qK (l:=[.int c,.int (-40),.int 40]) rfl (win h2.1 h2.2))))) rfl) ?_
 exact Qr (qK (l:=[.int w,.int 0,.int 1]) rfl (win (by omega) (by omega)))
theorem qC2 {a:Ad} {b:Bar} {L:Int} {st:qC} (hL1:2≤L) (hL2:L≤5) (h1:-40≤b.1∧b.1≤40) (h2:-40≤b.2.1∧b.2.1≤40) (h3:b.2.2=0∨b.2.2=1):W1 a [bP b,.int L] st = .ok (.tup ((cov L b).map cP)) st :=
 Qe rfl (qY (QJ (w_not (b:=true) (wE (qK (l:=[bP b]) rfl (qDS h1 h2 h3)))) rfl) (qY (yZ (qK (l:=[.int L]) rfl (z9 hL1 hL2))) (Qr (qK (l:=[bP b,.int L]) rfl (YT (by omega) (by omega))))))
def lP (r:List Int):PV := .lst (r.map PV.int)
theorem Zf:∀ u:List Int,peqs (u.map PV.int) (u.map PV.int)=true
 |[]=>rfl
 |x::u=>by
  rw [AU,peqs,Zf u]
  show ((x==x)&&true)=true
  rw [Aq];rfl
theorem Yd:∀ R:List (List Int),peqs (R.map lP) (R.map lP)=true
 |[]=>rfl
 |r::R=>by
  rw [AU,peqs,Yd R]
  show (peqs (r.map PV.int) (r.map PV.int)&&true)=true
  rw [Zf];rfl
theorem yU:∀ u:List Int,nrs (u.map PV.int)=true
 |[]=>rfl
 |x::u=>by rw [AU,nrs,yU u];rfl
theorem jt:∀ R:List (List Int),nrs (R.map lP)=true
 |[]=>rfl
 |r::R=>by
  rw [AU,nrs,jt R]
  show (nrs (r.map PV.int)&&true)=true
  rw [yU];rfl
theorem Zc:∀ u:List Int,deps (u.map PV.int)≤1
 |[]=>A6 _
 |x::u=>by
  rw [AU,deps]
  exact Nat.max_le.mpr ⟨show 0≤1 by decide,Zc u⟩
theorem Yt:∀ R:List (List Int),deps (R.map lP)≤2
 |[]=>A6 _
 |r::R=>by
  rw [AU,deps]
  exact Nat.max_le.mpr ⟨show deps (r.map PV.int) + 1≤2 from BX (Zc r),Yt R⟩
theorem qFQ {p q:PV} {R:List (List Int)} {st:qC} (h1:Zt st p = .lst (R.map lP)) (h2:Zt st q = .lst (R.map lP)):qBm p q st = .ok (.bl true) st:=by
 unfold qBm
 rw [h1,h2]
 have ho:zC (.lst (R.map lP)) (.lst (R.map lP))=true:=by
  show (nrs (R.map lP)&&nrs (R.map lP)&&decide (deps (R.map lP) + 1≤yq))=true
  rw [jt,AS (Am (BX (Yt R)) (by decide))];rfl
 rw [AG ho]
 show Rs.ok (PV.bl (peqs (R.map lP) (R.map lP))) st=_
 rw [Yd]
theorem qGS {S:qC} {m n:Nat} {L:Int} {R:List (List Int)} (T:Tb S m n L R) (hL:0≤L):Zt S (.ref m) = .lst (R.map lP):=by
 unfold Zt
 rw [wH T.top]
 dsimp only
 congr 1
 unfold QY
 rw [Ak]
 apply List.ext_getElem?
 intro i
 rw [Ag,Ag]
 by_cases h:i < L.toNat
 ·have hi:i < R.length:=by rw [T.sq.1];exact h
  rw [B8 h,AI hi,BR,BR]
  congr 1
  show res S (.ref (n + i))=_
  unfold res
  rw [wH (T.rows i _ (AI hi))]
  rfl
 ·rw [CM (by rw [List.length_range];omega),CM (by rw [T.sq.1];omega)];rfl
theorem qDt {S:qC} {R:List (List Int)}:Zt S (.lst (R.map lP)) = .lst (R.map lP):=by
 show PV.lst ((R.map lP).map (res S))=_
 rw [Ak]
 rfl
theorem ZF {i:Int} {st:qC}:gNe (.int i) (.int i) st = .ok (.bl false) st:=by
 show Rs.ok (PV.bl (!(i==i))) st=_
 rw [Aq];rfl
theorem qH8 {L:Int} {F:List qN} {i:Int} (h0:0≤i) (h1:i < L):(hdF L (QI L F)).getD i.toNat 0=rs L i 0 F:=by
 unfold hdF
 rw [AJ,Ag,yA (by omega),BR]
 show rc (QI L F) ((i.toNat:Nat):Int) 0=_
 rw [n0 h0,Wb h0 h1 (A3 0) (by omega)]
theorem qFz {L:Int} {F:List qN} {k:Int} (h0:0≤k) (h1:k < L):(tlF (QI L F)).getD k.toNat 0=rs L 0 k F - rs L 0 0 F:=by
 have hl:((QI L F).getD 0 []).length=L.toNat:=(ye L F).row (by omega)
 have hk:k.toNat < ((QI L F).getD 0 []).length:=by omega
 unfold tlF
 rw [AJ,Ag,AI hk,BR]
 have e:((QI L F).getD 0 [])[k.toNat]=rc (QI L F) 0 k:=by
  show _=((QI L F).getD 0 []).getD k.toNat 0
  generalize (QI L F).getD 0 []=l at hk
  rw [AJ,AI hk];rfl
 show ((QI L F).getD 0 [])[k.toNat] - rc (QI L F) 0 0=_
 rw [e,Wb (A3 0) (by omega) h0 h1,Wb (A3 0) (by omega) (A3 0) (by omega)]
def qIX:FS:=(Qb (vTB (qG gNe (qG gIx (qG gIx (qB 3) (qB 4)) (qB 5)) (qG QE (qG gIx (qG gIx (qB 2) (vC (.int 0))) (qB 4)) (qG gIx (qG gIx (qB 2) (vC (.int 1))) (qB 5))))) (qe (vC (.bl false))) q8)
def qIA:FS:=(wn (QO (qA (qB 1) qD)) (QB 5) qIX)
def bth (L:Int) (F:List qN):PV := .tup [.lst ((hdF L (QI L F)).map PV.int),.lst ((tlF (QI L F)).map PV.int)]
theorem hdl {L:Int} {F:List qN}:(hdF L (QI L F)).length=L.toNat:=by unfold hdF;rw [AC,QA]
theorem tll {L:Int} {F:List qN} (h:0 < L):(tlF (QI L F)).length=L.toNat:=by unfold tlF;rw [AC];exact (ye L F).row (by omega)
theorem qFu {S:qC} {m n:Nat} {L:Int} {F:List qN} {v0:PV} (T:Tb S m n L (QI L F)) (h0:apr L F=none) {i:Int} (i0:0≤i) (i1:i < L):∀ (ks:List Int) (x5:Option PV),(∀ k∈ks,0≤k∧k < L) -> ∃ y5,Qa (fun _=>True) (QB 5) qIX (ks.map PV.int) [some v0,some (.int L),some (bth L F),some (.ref m),some (.int i),x5] S = .nx [some v0,some (.int L),some (bth L F),some (.ref m),some (.int i),y5] S
 |[],x5,_=>⟨x5,Qh trivial⟩
 |k::ks,x5,h=>by
  have hk:=h k AE
  obtain ⟨y5,e⟩:=qFu (v0:=v0) T h0 i0 i1 ks (some (.int k)) fun q hq=>h q (AB _ hq)
  refine ⟨y5,Wh (r1:=[some v0,some (.int L),some (bth L F),some (.ref m),some (.int i),some (.int k)]) trivial rfl ?_ e⟩
  have hd:=qCL h0 i0 i1 hk.1 hk.2
  unfold det at hd
  have ee:rc (QI L F) i k=rs L i 0 F + (rs L 0 k F - rs L 0 0 F):=by rw [Wb i0 i1 hk.1 hk.2];omega
  refine QJ (Ql (qU (Wa T rfl rfl rfl i0 i1 hk.1 hk.2) (qU (qU (p := .lst ((hdF L (QI L F)).map PV.int)) (qU rfl rfl rfl) rfl (YI rfl (W6 (L:=L) hdl i0 i1))) (qU (p := .lst ((tlF (QI L F)).map PV.int)) (qU rfl rfl rfl) rfl (YI rfl (W6 (L:=L) (tll (by omega)) hk.1 hk.2))) Wo) ?_)) rfl
  rw [qH8 i0 i1,qFz hk.1 hk.2,ee]
  exact ZF
theorem qCK {S:qC} {m n:Nat} {L:Int} {F:List qN} {v0:PV} (T:Tb S m n L (QI L F)) (h0:apr L F=none) (hL:0≤L) (h5:L≤5):∀ (is:List Int) (x4 x5:Option PV),(∀ k∈is,0≤k∧k < L) -> ∃ y4 y5,Qa (fun _=>True) (QB 4) qIA (is.map PV.int) [some v0,some (.int L),some (bth L F),some (.ref m),x4,x5] S = .nx [some v0,some (.int L),some (bth L F),some (.ref m),y4,y5] S
 |[],x4,x5,_=>⟨x4,x5,Qh trivial⟩
 |i::is,x4,x5,h=>by
  have hi:=h i AE
  obtain ⟨z5,e1⟩:=qFu (v0:=v0) T h0 hi.1 hi.2 (qX L) x5 fun k hk=>upto_mem.mp hk
  obtain ⟨y4,y5,e⟩:=qCK (v0:=v0) T h0 hL h5 is (some (.int i)) z5 fun q hq=>h q (AB _ hq)
  exact ⟨y4,y5,Wh (r1:=[some v0,some (.int L),some (bth L F),some (.ref m),some (.int i),x5]) trivial rfl (W7 (itN hL (by omega) rfl) e1) e⟩
theorem jc {i:Int} {st:qC}:gEq (.int i) (.int i) st = .ok (.bl true) st:=by rw [Wt,Aq]
theorem qBU {a:Ad} {F:List qN} {L:Int} {S:qC} (h1:2≤L) (h2:L≤5) (h0:apr L F=none):∃ X,Q7 a [.tup (F.map cP),.int L,bth L F] S = .ok (.bl true) (S++X):=by
 obtain ⟨X,eX⟩:=Ys (st:=S) (L:=L) (F:=F)
 have T:=YG (st:=S) (F:=F) (L:=L) (by omega)
 have er:wP a [.tup (F.map cP),.int L] S = .ok (.ref (S.length + L.toNat)) (rsS S L F):=zD h1 h2
 rw [eX] at er T
 obtain ⟨y4,y5,e⟩:=qCK (v0 := .tup (F.map cP)) T h0 (by omega) h2 (qX L) none none fun k hk=>upto_mem.mp hk
 have t0:(tlF (QI L F)).getD (0:Int).toNat 0=0:=by rw [qFz (A3 0) (by omega)];omega
 have lh:(((hdF L (QI L F)).map PV.int).length:Int)=L:=by rw [AC,hdl];omega
 have lt:(((tlF (QI L F)).map PV.int).length:Int)=L:=by rw [AC,tll (by omega)];omega
 refine ⟨X,Qe rfl (qY (Qq (qK (l:=[.tup (F.map cP),.int L]) rfl er)) (qY (W7 (itN (by omega) (by omega) rfl) e) (Qr (J6 (s1:=S++X) ?_ (J6 (s1:=S++X) ?_ ?_)))))⟩
 ·refine qU (p := .int 0) (qU (p := .lst ((tlF (QI L F)).map PV.int)) (qU rfl rfl rfl) rfl ((YI rfl (W6 (L:=L) (tll (by omega)) (A3 0) (by omega))).trans ?_)) rfl jc
  rw [t0]
 ·exact qU (qK (l:=[.lst ((hdF L (QI L F)).map PV.int)]) (qL (qU rfl rfl rfl) qk) (zF rfl lh)) rfl jc
 ·exact qU (qK (l:=[.lst ((tlF (QI L F)).map PV.int)]) (qL (qU rfl rfl rfl) qk) (zF rfl lt)) rfl jc
theorem qGH {L:Int} {F:List qN} {h:Int} (h0:0≤h) (h1:h < L):(QV L F).getD h.toNat 0=hq L h F:=by
 unfold QV
 rw [AJ,Ag,yA (by omega),BR]
 show hq L ((h.toNat:Nat):Int) F=_
 rw [n0 h0]
theorem Z6 {L:Int} {F:List qN}:(QV L F).length=L.toNat:=by unfold QV;rw [AC,QA]
theorem qCz (ns:List Int):wC qBZ (ns.map PV.int)=some ns:=by
 induction ns with
 |nil=>rfl
 |cons n ns ih=>rw [AU,wC,ih];rfl
theorem qIa {ns:List Int} {st:qC} {p:PV} (h:asL st p=some (ns.map PV.int)):Zv [p] st = .ok (.int ns.sum) st:=by
 unfold Zv YU
 simp only [h]
 rw [qCz]
def huB:FS:=(Qb (vTB (qG gNe (qG gIx (qB 3) (qB 4)) (qH Zv (qA (vFz (qh [2,1,4] 1 (QO (qA (qB 1) qD)) (qq 3) [] [] (qG gIx (qG gIx (qB 0) (qB 3)) (qG w4 (qG WQ (qB 2) (qB 3)) (qB 1))))) qD)))) (qe (vC (.bl false))) q8)
theorem qA8 {S:qC} {m n mh:Nat} {L:Int} {F:List qN} {v0:PV} {x5 x6 x7:Option PV} (T:Tb S m n L (QI L F)) (hm:S[mh]? = some (.l ((QV L F).map PV.int))) (h1:2≤L) (h2:L≤5):∀ (hs:List Int) (x4:Option PV),(∀ k∈hs,0≤k∧k < L) -> ∃ y4,Qa (fun _=>True) (QB 4) huB (hs.map PV.int) [some v0,some (.int L),some (.ref m),some (.ref mh),x4,x5,x6,x7] S = .nx [some v0,some (.int L),some (.ref m),some (.ref mh),y4,x5,x6,x7] S
 |[],x4,_=>⟨x4,Qh trivial⟩
 |h::hs,x4,hh=>by
  have h0:=hh h AE
  have hL:0 < L:=by omega
  obtain ⟨y4,e⟩:=qA8 (v0:=v0) (x5:=x5) (x6:=x6) (x7:=x7) T hm h1 h2 hs (some (.int h)) fun q hq=>hh q (AB _ hq)
  refine ⟨y4,Wh (r1:=[some v0,some (.int L),some (.ref m),some (.ref mh),some (.int h),x5,x6,x7]) trivial rfl ?_ e⟩
  let G:PV->PV:=fun p=>match p with | .int i => .int (rc (QI L F) i ((h - i) % L)) |_ => .non
  have ec:=QQ (caps:=[2,1,4]) (n:=1) (fi:=QO (qA (qB 1) qD)) (g:=qq 3) (f:=qG gIx (qG gIx (qB 0) (qB 3)) (qG w4 (qG WQ (qB 2) (qB 3)) (qB 1))) (r:=[some v0,some (.int L),some (.ref m),some (.ref mh),some (.int h),x5,x6,x7]) (st:=S) (w:=⟨(qX L).map PV.int,fun _=>True⟩) (F:=G) (itN (by omega) (by omega) rfl) trivial (by rw [AC,QA];exact Qu (by omega)) fun p hp=>by
   obtain ⟨i,hi,rfl⟩:=Ae.mp hp
   have hi:=upto_mem.mp hi
   exact ⟨[some (.ref m),some (.int L),some (.int h),some (.int i)],rfl,Wa T rfl rfl (qU (qU rfl rfl jB) rfl (qAj hL)) hi.1 hi.2 (qg hL).1 (qg hL).2⟩
  have eg:((qX L).map PV.int).map G=((qX L).map fun i=>rc (QI L F) i ((h - i) % L)).map PV.int:=by rw [Ak,Ak];rfl
  have es:((qX L).map fun i=>rc (QI L F) i ((h - i) % L)).sum=hq L h F:=by
   rw [← Zd h1 h2 h0.1 h0.2 F]
   congr 1
   exact Ap fun i hi=>Wb (upto_mem.mp hi).1 (upto_mem.mp hi).2 (qg hL).1 (qg hL).2
  have e1:qH Zv (qA (vFz (qh [2,1,4] 1 (QO (qA (qB 1) qD)) (qq 3) [] [] (qG gIx (qG gIx (qB 0) (qB 3)) (qG w4 (qG WQ (qB 2) (qB 3)) (qB 1))))) qD) [some v0,some (.int L),some (.ref m),some (.ref mh),some (.int h),x5,x6,x7] S = .ok (.int (hq L h F)) S:=by
   refine qK (qL (w6 ec) qk) ?_
   rw [qIa (ns:=(qX L).map fun i=>rc (QI L F) i ((h - i) % L)) (by show some (((qX L).map PV.int).map G)=_;rw [eg]),es]
  have e0:qG gIx (qB 3) (qB 4) [some v0,some (.int L),some (.ref m),some (.ref mh),some (.int h),x5,x6,x7] S = .ok (.int (hq L h F)) S:=by
   refine qU rfl rfl ((YI (ZC hm) (W6 (L:=L) Z6 h0.1 h0.2)).trans ?_)
   rw [qGH h0.1 h0.2]
  exact QJ (Ql (qU e0 e1 ZF)) rfl
theorem qAb {L:Int} {F:List qN} {S:qC} {p:PV} (h:asL S p=some ((QV L F).map PV.int)) (h1:2≤L) (h2:L≤5) (hF:F.length≤40) (h0:apr L F=none):yJ p S = .ok (.int 1) S:=by
 have hall:∀ v∈QV L F,v=hq L 0 F:=fun v hv=>by
  obtain ⟨k,hk,rfl⟩:=Ae.mp (show v∈(qX L).map fun h=>hq L h F from hv)
  have hk:=upto_mem.mp hk
  show hq L k F=_
  rw [Y1 h1 h2 h0 hk.1 hk.2,Y1 h1 h2 h0 (A3 0) (by omega)]
 have hb:0≤hq L 0 F∧hq L 0 F≤40:=by
  unfold hq
  have:=List.length_filter_le (fun c=>decide (hu L c=0)) F
  omega
 have hl:=Z6 (L:=L) (F:=F)
 unfold yJ
 rw [h]
 dsimp only
 rw [qCz]
 generalize QV L F=ns at hall hl
 cases ns with
 |nil=>rw [Bv] at hl;omega
 |cons n ns =>
  have hn:=hall n AE
  show (if (∀ v∈ns,v=n)∧0≤n∧n≤40 then Rs.ok (PV.int 1) S else .no)=_
  rw [AG ⟨fun v hv=>by rw [hall v (AB _ hv),hn],by rw [hn];exact hb.1,by rw [hn];exact hb.2⟩]
theorem qCY {S X:qC} {k:Nat} {o:SO} (h:S[k]? = some o):(S++X)[k]? = some o:=by rw [Ab (AO.mp h).1];exact h
def trR (L:Int) (F:List qN):List (List Int):=(qX L).map fun k=>(qX L).map fun i=>rc (QI L F) i k
theorem qIi {L:Int} {F:List qN}:trR L F=QI L (We (F.map swp)):=by
 unfold trR
 show _=(qX L).map fun i=>(qX L).map fun k=>rs L i k (We (F.map swp))
 refine Ap fun k hk=>Ap fun i hi => ?_
 have hk:=upto_mem.mp hk
 have hi:=upto_mem.mp hi
 rw [Wb hi.1 hi.2 hk.1 hk.2,ZN (Yp _),qC3]
theorem qFe {S:qC} {m n:Nat} {L:Int} {F:List qN} {r:QC} (T:Tb S m n L (QI L F)) (hL:0≤L) (h5:L≤5) (hr1:r[1]? = some (some (.int L))) (hr2:r[2]? = some (some (.ref m))):qh [2,1] 1 (QO (qA (qB 1) qD)) (qq 2) [] [] (vFz (qh [2,0] 1 (QO (qA (qB 1) qD)) (qq 2) [] [] (qG gIx (qG gIx (qB 1) (qB 2)) (qB 0)))) r S = .ok ((trR L F).map lP) S:=by
 let G:PV->PV:=fun p=>match p with | .int k=>lP ((qX L).map fun i=>rc (QI L F) i k) |_ => .non
 have e:(trR L F).map lP=((qX L).map PV.int).map G:=by unfold trR;rw [Ak,Ak];rfl
 rw [e]
 have hcap:w5 [2,1] 1 r=[some (.ref m),some (.int L),none]:=by unfold w5;simp [hr1,hr2]
 refine QQ (F:=G) (itN hL (by omega) (qL (YC hr1) qk)) trivial (by rw [AC,QA];exact Qu (by omega)) fun p hp => ?_
 obtain ⟨k,hk,rfl⟩:=Ae.mp hp
 have hk:=upto_mem.mp hk
 refine ⟨[some (.ref m),some (.int L),some (.int k)],by rw [hcap];rfl,?_⟩
 let G2:PV->PV:=fun p=>match p with | .int i => .int (rc (QI L F) i k) |_ => .non
 have e2:((qX L).map fun i=>rc (QI L F) i k).map PV.int=((qX L).map PV.int).map G2:=by rw [Ak,Ak];rfl
 show _=Rs.ok (PV.lst (((qX L).map fun i=>rc (QI L F) i k).map PV.int)) S
 rw [e2]
 refine w6 (QQ (F:=G2) (itN hL (by omega) rfl) trivial (by rw [AC,QA];exact Qu (by omega)) fun q hq => ?_)
 obtain ⟨i,hi,rfl⟩:=Ae.mp hq
 have hi:=upto_mem.mp hi
 exact ⟨[some (.int k),some (.ref m),some (.int i)],rfl,Wa T rfl rfl rfl hi.1 hi.2 hk.1 hk.2⟩
theorem JE {a:Ad} {F:List qN} {L:Int} {S:qC} (h1:2≤L) (h2:L≤5) (hF:F.length≤40):∃ X,wK a [.tup (F.map cP),.int L] S = .ok (.bl true) (S++X):=by
 obtain ⟨X1,eX1⟩:=Ys (st:=S) (L:=L) (F:=F)
 have T:=YG (st:=S) (F:=F) (L:=L) (by omega)
 have er:wP a [.tup (F.map cP),.int L] S = .ok (.ref (S.length + L.toNat)) (rsS S L F):=zD h1 h2
 rw [eX1] at er T
 generalize hm0:S.length + L.toNat=m at er T
 have eh:=Zz (a:=a) (F:=F) (L:=L) (st:=S++X1) h1 h2
 have T2:=qDG (X:=[SO.l ((QV L F).map PV.int)]) T
 have hm:(S++X1++[SO.l ((QV L F).map PV.int)])[(S++X1).length]? = some (.l ((QV L F).map PV.int)):=by rw [Ac (AM _),Br];rfl
 generalize (S++X1).length=mh at eh hm
 generalize hS2:S++X1++[SO.l ((QV L F).map PV.int)]=S2 at eh T2 hm
 obtain ⟨y4,el⟩:=qA8 (v0 := .tup (F.map cP)) (x5:=none) (x6:=none) (x7:=none) T2 hm h1 h2 (qX L) none fun k hk=>upto_mem.mp hk
 obtain ⟨X2,es⟩:=qBF (a:=a) (F:=F) (L:=L) (st:=S2) h1 h2
 have ea:=ZI (a:=a) (F:=F) (L:=L) (st:=S2++X2) h1 h2
 obtain ⟨X3,eX3⟩:=Ys (st:=S2++X2) (L:=L) (F:=F)
 rw [eX3,Aj] at ea
 have T3:=qDG (X:=X2++X3) T2
 have hm3:=qCY (X:=X2++X3) hm
 generalize hS3:S2++(X2++X3)=S3 at ea T3 hm3
 have esum:Zv [.ref mh] S3 = .ok (.int (F.length:Int)) S3:=by rw [qIa (wH hm3),qAw h1 h2 F]
 have e4:vTB (qG gNe (qH Zv (qA (qB 3) qD)) (qH wg (qA (qB 0) qD))) [some (.tup (F.map cP)),some (.int L),some (.ref m),some (.ref mh),y4,some (smP L F),some (apP (apr L F)),none] S3 = .ok false S3 :=
  Ql (qU (qK (l:=[.ref mh]) rfl esum) (qK (l:=[.tup (F.map cP)]) rfl (zF rfl (by rw [AC]))) ZF)
 -- the two looks that only sums have
 have emid:∃ X4,∀ {o:RS} {R:FS},R [some (.tup (F.map cP)),some (.int L),some (.ref m),some (.ref mh),y4,some (smP L F),some (apP (apr L F)),none] (S3++X4)=o->qS (Qb (Wz (vTB (qG gEq (qG (zf false) (qB 5) (vC .non)) (qG (zf false) (qB 6) (vC .non)))) (vTB (qG gNe (qH Zv (qA (qB 3) qD)) (qH wg (qA (qB 0) qD))))) (qe (vC (.bl false))) q8) (qS (Qb (zB (vTB (qG (zf true) (qB 5) (vC .non))) (wQ (Qc (qH (Q7 a) (qA (qB 0) (qA (qB 1) (qA (qB 5) qD))))))) (qe (vC (.bl false))) q8) (qS (Qb (zB (vTB (qG (zf true) (qB 5) (vC .non))) (vTB (qG gNe (zN (qB 3)) (vC (.int 1))))) (qe (vC (.bl false))) q8) R)) [some (.tup (F.map cP)),some (.int L),some (.ref m),some (.ref mh),y4,some (smP L F),some (apP (apr L F)),none] S3=o:=by
  cases hf:apr L F with
  |some c =>
   have hs:smP L F = .non:=by unfold smP;rw [hf]
   rw [hf] at e4
   rw [hs] at e4 ⊢
   refine ⟨[],fun {o R} h => ?_⟩
   rw [A8] at h
   exact qY (QJ (Wc (Ql (qU (p := .bl true) (q := .bl false) (qU (p := .non) (q := .non) rfl rfl rfl) (qU (p:=cP c) (q := .non) rfl rfl rfl) rfl)) e4) rfl) (qY (QJ (jS (Ql (qU (p := .non) (q := .non) rfl rfl rfl))) rfl) (qY (QJ (jS (Ql (qU (p := .non) (q := .non) rfl rfl rfl))) rfl) h))
  |none =>
   have hs:smP L F=bth L F:=by unfold smP bth;rw [hf]
   rw [hf] at e4
   rw [hs] at e4 ⊢
   obtain ⟨X4,e5⟩:=qBU (a:=a) (F:=F) (L:=L) (S:=S3) h1 h2 hf
   have hm4:=qCY (X:=X4) hm3
   have e6:zN (qB 3) [some (.tup (F.map cP)),some (.int L),some (.ref m),some (.ref mh),y4,some (bth L F),some (apP none),none] (S3++X4) = .ok (.int 1) (S3++X4):=qAb (p := .ref mh) (wH hm4) h1 h2 hF hf
   refine ⟨X4,fun {o R} h => ?_⟩
   exact qY (QJ (Wc (Ql (qU (p := .bl false) (q := .bl true) (qU (p:=bth L F) (q := .non) rfl rfl rfl) (qU (p := .non) (q := .non) rfl rfl rfl) rfl)) e4) rfl) (qY (QJ (Z5 (Ql (qU (p:=bth L F) (q := .non) rfl rfl rfl)) (w_not (b:=true) (wE (qK (l:=[.tup (F.map cP),.int L,bth L F]) rfl e5)))) rfl) (qY (QJ (Z5 (Ql (qU (p:=bth L F) (q := .non) rfl rfl rfl)) (Ql (qU e6 rfl ZF))) rfl) h))
 obtain ⟨X4,emid⟩:=emid
 have em:=qBl (a:=a) (F:=F) (st:=S3++X4) hF
 have er2:wP a [.tup ((We (F.map swp)).map cP),.int L] (S3++X4) = .ok (.ref ((S3++X4).length + L.toNat)) (rsS (S3++X4) L (We (F.map swp))):=zD h1 h2
 have TM:=YG (st:=S3++X4) (F:=We (F.map swp)) (L:=L) (by omega)
 obtain ⟨X5,eX5⟩:=Ys (st:=S3++X4) (L:=L) (F:=We (F.map swp))
 rw [eX5,Aj] at er2 TM
 have T5:=qDG (X:=X4++X5) T3
 have eq:=qFQ (p := .ref ((S3++X4).length + L.toNat)) (q := .lst ((trR L F).map lP)) (R:=trR L F) (st:=S3++(X4++X5)) (by rw [qIi];exact qGS TM (by omega)) qDt
 refine ⟨X1++[SO.l ((QV L F).map PV.int)]++(X2++X3)++(X4++X5),?_⟩
 rw [show S++(X1++[SO.l ((QV L F).map PV.int)]++(X2++X3)++(X4++X5))=S3++(X4++X5) by rw [← hS3,← hS2];simp only [Aj]]
 refine Qe rfl (qY (Qq (qK (l:=[.tup (F.map cP),.int L]) rfl er)) (qY (Qq (qK (l:=[.tup (F.map cP),.int L]) rfl eh)) (qY (W7 (itN (by omega) (by omega) rfl) el) (qY (qDs (qL (qK (l:=[.tup (F.map cP),.int L]) rfl es) (qL (qK (l:=[.tup (F.map cP),.int L]) rfl ea) qk))) (emid ?_)))))
 exact qY (Qq (qK (qL (qK (l:=[.tup (F.map cP)]) rfl em) (qL rfl qk)) er2)) (Qr (qU rfl (w6 (qFe T5 (by omega) h2 rfl rfl)) eq))
theorem qFv:∀ l:List Bar,nrs (l.map bP)=true
 |[]=>rfl
 |b::l=>by rw [AU,nrs,qFv l];rfl
theorem qCc:∀ l:List Bar,deps (l.map bP)≤1
 |[]=>A6 _
 |b::l=>by
  rw [AU,deps]
  exact Nat.max_le.mpr ⟨show dep (bP b)≤1 from AM 1,qCc l⟩
theorem qCx {l:List Bar} {st:qC}:gNe (.lst (l.map bP)) (.lst []) st = .ok (.bl (!l.isEmpty)) st:=by
 have h1:zC (.lst (l.map bP)) (.lst [])=true:=by
  show (nrs (l.map bP)&&true&&decide (deps (l.map bP) + 1≤yq))=true
  rw [qFv,AS (Am (BX (qCc l)) (by decide))];rfl
 show (if zC (.lst (l.map bP)) (.lst [])=true then Rs.ok (PV.bl (!peq (PV.lst (l.map bP)) (PV.lst []))) st else Rs.no)=_
 rw [AG h1]
 cases l <;> rfl
theorem qFF {u:List Int} {st:qC}:gNe (.lst (u.map PV.int)) (.lst (u.map PV.int)) st = .ok (.bl false) st:=by
 have h1:zC (.lst (u.map PV.int)) (.lst (u.map PV.int))=true:=by
  show (nrs (u.map PV.int)&&nrs (u.map PV.int)&&decide (deps (u.map PV.int) + 1≤yq))=true
  rw [yU,AS (Am (BX (Zc u)) (by decide))];rfl
 show (if zC (.lst (u.map PV.int)) (.lst (u.map PV.int))=true then Rs.ok (PV.bl (!peqs (u.map PV.int) (u.map PV.int))) st else Rs.no)=_
 rw [AG h1,Zf]
 rfl
theorem qHs {o:Option (Int×Int)} {st:qC}:gNe (apP o) (apP o) st = .ok (.bl false) st:=by
 cases o with
 |none=>rfl
 |some c =>
  show (if zC (cP c) (cP c)=true then Rs.ok (PV.bl (!peq (cP c) (cP c))) st else Rs.no)=_
  have h0:zC (cP c) (cP c)=true:=rfl
  rw [AG h0,qF3,AS rfl]
  rfl
theorem j8 {f g:Int->PV}:∀ l:List Int,zQ (l.map f) (l.map g)=l.map fun h => .tup [f h,g h]
 |[]=>rfl
 |x::l=>by rw [AU,AU,zQ,j8 l];rfl
theorem qEq {n:Nat}:(List.replicate n [PV.int 1]).flatten=(List.replicate n (1:Int)).map PV.int:=by
 induction n with
 |zero=>rfl
 |succ n ih=>rw [A0,BQ,ih,A0,AU];rfl
theorem qBd {l:List Int}:l.map (fun _=>(1:Int))=List.replicate l.length 1:=by
 induction l with
 |nil=>rfl
 |cons x l ih=>rw [AU,ih];rfl
theorem qFE {F C:List qN} {r:QC} {st:qC} (hF:F.length≤40) (h4:r[4]? = some (some (.tup (F.map cP)))) (h7:r[7]? = some (some (.tup (C.map cP)))):qH wF (qA (vFz (qh [7] 1 (q9 (qB 4)) (qq 1) [(vTB (qG (gIn true) (qB 1) (qB 0)))] [] (qB 1))) qD) r st = .ok (.tup ((qBp F C).map cP)) st:=by
 have hcap:w5 [7] 1 r=[some (.tup (C.map cP)),none]:=by unfold w5;simp [h7]
 have e:=Wu (caps:=[7]) (n:=1) (fi:=q9 (qB 4)) (g:=qq 1) (t:=vTB (qG (gIn true) (qB 1) (qB 0))) (f:=qB 1) (r:=r) (st:=st) (w:=⟨F.map cP,fun _=>True⟩) (c:=fun p => !decide (unC p∈C)) (Qo (YC h4)) trivial (by rw [AC];exact Qu (by omega)) fun p hp=>by
  obtain ⟨c,_,rfl⟩:=Ae.mp hp
  exact ⟨[some (.tup (C.map cP)),some (cP c)],by rw [hcap];rfl,Ql (qU rfl rfl (qGq rfl)),rfl⟩
 have e2:(F.map cP).filter (fun p => !decide (unC p∈C))=(qBp F C).map cP:=Jh fun x _=>rfl
 refine qK (qL (w6 e) qk) ((WU rfl).trans ?_)
 show Rs.ok (PV.tup ((F.map cP).filter fun p => !decide (unC p∈C))) st=_
 rw [e2]
def dF:PV->PV
 | .tup [.int x,.int y] => .int (x - y)
 |_ => .non
theorem qEm {a:Ad} {F G:List qN} {L:Int} {r:QC} {S:qC} (h1:2≤L) (h2:L≤5) (hd:∀ h,0≤h->h < L->hq L h F - hq L h G=1) (h3:r[3]? = some (some (.int L))) (h4:r[4]? = some (some (.tup (F.map cP)))) (h8:r[8]? = some (some (.tup (G.map cP)))):∃ X,qh [] 2 (zn (qA (qH (wG a) (qA (qB 4) (qA (qB 3) qD))) (qA (qH (wG a) (qA (qB 8) (qA (qB 3) qD))) qD))) (Wl 2 (qz (qq 0) (qz (qq 1) Wy))) [] [] (qG WQ (qB 0) (qB 1)) r S = .ok ((List.replicate L.toNat (1:Int)).map PV.int) (S++X):=by
 have e1:=Zz (a:=a) (F:=F) (L:=L) (st:=S) h1 h2
 have e2:=Zz (a:=a) (F:=G) (L:=L) (st:=S++[.l ((QV L F).map PV.int)]) h1 h2
 have k1:(S++[SO.l ((QV L F).map PV.int)]++[SO.l ((QV L G).map PV.int)])[S.length]? = some (.l ((QV L F).map PV.int)):=by
  rw [Aj,Ac (AM _),Br];rfl
 have k2:(S++[SO.l ((QV L F).map PV.int)]++[SO.l ((QV L G).map PV.int)])[(S++[SO.l ((QV L F).map PV.int)]).length]? = some (.l ((QV L G).map PV.int)):=by
  rw [Ac (AM _),Br];rfl
 refine ⟨[SO.l ((QV L F).map PV.int)]++[SO.l ((QV L G).map PV.int)],?_⟩
 rw [← Aj]
 generalize (S++[SO.l ((QV L F).map PV.int)]).length=n2 at e2 k2
 generalize S++[SO.l ((QV L F).map PV.int)]++[SO.l ((QV L G).map PV.int)]=S2 at e2 k1 k2
 have ez:zn (qA (qH (wG a) (qA (qB 4) (qA (qB 3) qD))) (qA (qH (wG a) (qA (qB 8) (qA (qB 3) qD))) qD)) r S = .ok ⟨zQ ((QV L F).map PV.int) ((QV L G).map PV.int),fun s=>asL s (.ref S.length)=some ((QV L F).map PV.int)∧asL s (.ref n2)=some ((QV L G).map PV.int)⟩ S2:=by
  unfold zn
  rw [qL (qK (qL (YC h4) (qL (YC h3) qk)) e1) (qL (qK (qL (YC h8) (qL (YC h3) qk)) e2) qk)]
  show qA7 [.ref S.length,.ref n2] S2=_
  unfold qA7
  simp only [wH k1,wH k2]
 have eq:(zQ ((QV L F).map PV.int) ((QV L G).map PV.int)).map dF=(List.replicate L.toNat (1:Int)).map PV.int:=by
  have z:zQ ((QV L F).map PV.int) ((QV L G).map PV.int)=(qX L).map fun h => .tup [.int (hq L h F),.int (hq L h G)]:=by
   have:=j8 (f:=fun h=>PV.int (hq L h F)) (g:=fun h=>PV.int (hq L h G)) (qX L)
   rw [← this]
   unfold QV
   rw [Ak,Ak]
   rfl
  rw [z,Ak,← QA (L:=L),← qBd,Ak]
  refine Ap fun h hh => ?_
  have hh:=upto_mem.mp hh
  show PV.int (hq L h F - hq L h G)=PV.int 1
  rw [hd h hh.1 hh.2]
 rw [← eq]
 have hlen:(zQ ((QV L F).map PV.int) ((QV L G).map PV.int)).length≤sizeLine:=by
  rw [YF,AC,AC,Z6,Z6,Nat.min_self];exact Qu (by omega)
 have hturn:∀ ps:List PV,(∀ p∈ps,∃ x y,p = .tup [.int x,.int y])->qm (fun s=>asL s (.ref S.length)=some ((QV L F).map PV.int)∧asL s (.ref n2)=some ((QV L G).map PV.int)) (QG ⟨zn (qA (qH (wG a) (qA (qB 4) (qA (qB 3) qD))) (qA (qH (wG a) (qA (qB 8) (qA (qB 3) qD))) qD)),Wl 2 (qz (qq 0) (qz (qq 1) Wy)),[]⟩ (QR [] (qG WQ (qB 0) (qB 1))) [none,none]) ps S2 = .ok (ps.map dF) S2:=fun ps=>by
  induction ps with
  |nil=>intro _;exact wN ⟨wH k1,wH k2⟩
  |cons p ps ih =>
   intro h
   obtain ⟨x,y,rfl⟩:=h p AE
   exact WT (l:=[.int (x - y)]) ⟨wH k1,wH k2⟩ (yh (r':=[some (.int x),some (.int y)]) rfl (qU rfl rfl jB)) (ih fun q hq=>h q (AB _ hq))
 exact yv ez (hturn _ fun p hp=>by
  obtain ⟨i,hi⟩:=BL hp
  obtain ⟨u,v,hu',hv',rfl⟩:=yt hi
  obtain ⟨x,_,rfl⟩:=Ae.mp (As hu')
  obtain ⟨y,_,rfl⟩:=Ae.mp (As hv')
  exact ⟨x,y,rfl⟩) (by rw [AC];exact hlen)
theorem ZG {st g X:qC} {b:SO}:(st++b::g)++X=st++b::(g++X):=by rw [Aj];rfl
def qIq (a:Ad):FS:=(Qb (vTB (qG gNe (qB 6) (vFz (wT qD)))) (qS (ql 7 (qH (W1 a) (qA (qG gIx (qB 6) (qH (qT a) (qA (qB 2) (qA (qH wg (qA (qB 6) qD)) qD)))) (qA (qB 3) qD)))) (qS (ql 8 (qH wF (qA (vFz (qh [7] 1 (q9 (qB 4)) (qq 1) [(vTB (qG (gIn true) (qB 1) (qB 0)))] [] (qB 1))) qD))) (qS (Qb (vTB (qG gNe (qH (QU a) (qA (qB 8) (qA (qB 3) qD))) (qH (QU a) (qA (qB 4) (qA (qB 3) qD))))) (qe (vC (.bl false))) q8) (qS (ql 9 (vFz (qh [] 2 (zn (qA (qH (wG a) (qA (qB 4) (qA (qB 3) qD))) (qA (qH (wG a) (qA (qB 8) (qA (qB 3) qD))) qD))) (Wl 2 (qz (qq 0) (qz (qq 1) Wy))) [] [] (qG WQ (qB 0) (qB 1))))) (Qb (vTB (qG gNe (qB 9) (vFz (y0 (wT (qA (vC (.int 1)) qD)) (qB 3))))) (qe (vC (.bl false))) q8))))) q8)
theorem qHa {a:Ad} {F:List qN} {L y:Int} {st g:qC} {x0 x1 x5 x7 x8 x9:Option PV} (h1:2≤L) (h2:L≤5) (hF:Flr F):∃ (y7 y8 y9:Option PV) (st':qC),qIq a [x0,x1,some (.ref st.length),some (.int L),some (.tup (F.map cP)),x5,some (.lst ((zV L F).map bP)),x7,x8,x9] (st ++ .l [.int y]::g) = .nx [x0,x1,some (.ref st.length),some (.int L),some (.tup (F.map cP)),x5,some (.lst ((zV L F).map bP)),y7,y8,y9] st':=by
 have hb:∀ b∈zV L F,_:=fun b h=>qGb (L:=L) (F:=F) h
 have hbl:(zV L F).length≤80:=by
  have q1:(zV L F).length≤(F.flatMap two).length:=List.length_filter_le _ _
  have q2:=Z0 F
  have q3:=hF.len
  omega
 generalize zV L F=bs at hb hbl
 cases bs with
 |nil=>exact ⟨x7,x8,x9,_,QJ (Ql (qU (p := .lst (([]:List Bar).map bP)) (q := .lst []) rfl rfl qCx)) rfl⟩
 |cons b0 bs' =>
  generalize hbs:b0::bs'=bs at hb hbl
  have hpos:0 < (bs.length:Int):=by rw [← hbs,AT];omega
  have hlen:(bs.length:Int) < 2 ^ 64:=by omega
  ·have t1:=Qn (a:=a) (st:=st) (j:=g) (x:=y) (m:=(bs.length:Int)) hpos hlen
   have hi:=qg (x:=y) hpos
   have hil:(y % (bs.length:Int)).toNat < bs.length:=by omega
   obtain ⟨⟨c,hc,e1,e2⟩,hw,hs⟩:=hb _ (B7 hil)
   generalize hbe:bs[(y % (bs.length:Int)).toNat]=b at e1 e2 hw hs
   have h8:=hF.b c hc
   unfold In8 at h8
   have ix:gIx (.lst (bs.map bP)) (.int (y % (bs.length:Int))) (st ++ .l [.int (y / (bs.length:Int))]::g) = .ok (bP b) (st ++ .l [.int (y / (bs.length:Int))]::g):=by
    refine YI rfl ?_
    unfold L2.atI
    rw [ZB hi.1 (by rw [AC];exact hi.2),Option.bind_some,Ag,AI hil,hbe]
    rfl
   have ec:=qC2 (a:=a) (b:=b) (L:=L) (st:=st ++ .l [.int (y / (bs.length:Int))]::g) h1 h2 (by omega) (by omega) hw
   generalize st++SO.l [.int (y / (bs.length:Int))]::g=S at t1 ix ec
   generalize hG:qBp F (cov L b)=G
   have ea1:=ZI (a:=a) (F:=G) (L:=L) (st:=S) h1 h2
   have hap:apr L G=apr L F:=by rw [← hG];exact qDL h1 h2 hF.nodup hs
   have ea2:=ZI (a:=a) (F:=F) (L:=L) (st:=rsS S L G) h1 h2
   rw [hap] at ea1
   obtain ⟨X,em⟩:=qEm (a:=a) (F:=F) (G:=G) (L:=L) (r:=[x0,x1,some (.ref st.length),some (.int L),some (.tup (F.map cP)),x5,some (.lst (bs.map bP)),some (.tup ((cov L b).map cP)),some (.tup (G.map cP)),x9]) (S:=rsS (rsS S L G) L F) h1 h2 (fun h d1 d2=>by rw [← hG];exact qEY h1 h2 hF.nodup hs d1 d2) rfl rfl rfl
   refine ⟨some (.tup ((cov L b).map cP)),some (.tup (G.map cP)),some (.lst ((List.replicate L.toNat (1:Int)).map PV.int)),rsS (rsS S L G) L F++X,?_⟩
   refine Ws (Ql (qU (p := .lst (bs.map bP)) (q := .lst []) rfl rfl (by rw [qCx,← hbs];rfl))) ?_
   refine qY (Qq (p := .tup ((cov L b).map cP)) (qK (l:=[bP b,.int L]) (qL (qU rfl (qK (l:=[.ref st.length,.int (bs.length:Int)]) (qL rfl (qL (qK (l:=[.lst (bs.map bP)]) rfl (zF rfl (by rw [AC]))) qk)) t1) ix) (qL rfl qk)) ec)) ?_
   refine qY (Qq (p := .tup (G.map cP)) (by rw [← hG];exact qFE hF.len rfl rfl)) ?_
   refine qY (QJ (Ql (qU (qK (l:=[.tup (G.map cP),.int L]) rfl ea1) (qK (l:=[.tup (F.map cP),.int L]) rfl ea2) qHs)) rfl) ?_
   refine qY (Qq (w6 em)) (QJ (Ql (qU rfl (w6 (qDR (l:=[.int 1]) (k:=L) rfl rfl (by omega) (by show 1 * L.toNat≤_;exact Qu (by omega)) (by omega))) ?_)) rfl)
   rw [qEq]
   exact qFF
def yc (a:Ad):FS:=(qS (ql 2 (qH (zc a) (qA (qB 0) (qA (qB 1) qD)))) (qS (ql 3 (qG QE (vC (.int 2)) (qH (qT a) (qA (qB 2) (qA (vC (.int 4)) qD))))) (qS (ql 4 (qH (wp a) (qA (qB 2) (qA (qB 3) qD)))) (qS (ql 5 (qH wF (qA (ZU (qH (Wp a) (qA (qB 2) (qA (qB 3) qD)))) qD))) (qS (Qb (Wz (wQ (Qc (qH (wK a) (qA (qB 4) (qA (qB 3) qD))))) (wQ (Qc (qH (wK a) (qA (qB 5) (qA (qB 3) qD)))))) (qe (vC (.bl false))) q8) (qS (Qb (Wz (vTB (qG (zf false) (qH (Wi a) (qA (qB 5) (qA (qB 3) qD))) (vC .non))) (Wz (vTB (qG gNe (zN (qH (wG a) (qA (qB 5) (qA (qB 3) qD)))) (vC (.int 1)))) (wQ (Qc (qH (WJ a) (qA (qB 5) qD)))))) (qe (vC (.bl false))) q8) (qS (ql 6 (qH (za a) (qA (qB 4) (qA (qB 3) qD)))) (qIq a))))))))
theorem qIn {f:FE} {r:QC} {st s1:qC} {p:PV} {R:Rs PV} (h:f r st = .ok p s1) (h2:yJ p s1=R):zN f r st=R:=by unfold zN;rw [h];exact h2
theorem qE5 {a:Ad} {ns:List Int} {k:Int} {st:qC} {x2 x3 x4 x5 x6 x7 x8 x9:Option PV} (h0:0≤k):∃ y2 y3 y4 y5 y6 y7 y8 y9 st',yc a [some (.lst (ns.map PV.int)),some (.int k),x2,x3,x4,x5,x6,x7,x8,x9] st = .nx [some (.lst (ns.map PV.int)),some (.int k),y2,y3,y4,y5,y6,y7,y8,y9] st':=by
 obtain ⟨x,ex⟩:=qGJ (a:=a) (ns:=ns) (k:=k) (st:=st) h0
 have t1:=Qn (a:=a) (st:=st) (j:=[]) (x:=x) (m:=4) (by decide) (by decide)
 have hL:=qg (x:=x) (m:=4) (by decide)
 have hL1:2≤2 + x % 4:=by omega
 have hL2:2 + x % 4≤5:=by omega
 generalize hLe:2 + x % 4=L at hL1 hL2
 obtain ⟨F,y,g,hF,ef⟩:=qDl (a:=a) (st:=st) (j:=[]) (x:=x / 4) hL1 hL2
 rw [List.nil_append] at ef
 obtain ⟨y1,g1,i,fd,p1,_,p3,_,p5,ep⟩:=jG (a:=a) (st:=st) (j:=g) (x:=y) hL1 hL2
 have hF2:=p5.flr p3
 have hap:apr L (We fd)=none:=qIm fun i k a b c d=>by rw [JP (Yp fd)];exact p5.det0 hL1 hL2 a b c d
 have es:ZR (.ref (st.length + 1 + i)) (st ++ .l [.int y1]::(g++g1)) = .ok (.lst ((We fd).map cP)) (st ++ .l [.int y1]::(g++g1)):=qDd (wH (qEw p1)) (by omega)
 generalize g++g1=G1 at p1 ep es
 generalize We fd=F2 at hF2 hap es
 obtain ⟨X1,r1⟩:=JE (a:=a) (F:=F) (L:=L) (S:=st ++ .l [.int y1]::G1) hL1 hL2 hF.len
 rw [ZG] at r1
 obtain ⟨X2,r2⟩:=JE (a:=a) (F:=F2) (L:=L) (S:=st ++ .l [.int y1]::(G1++X1)) hL1 hL2 hF2.len
 rw [ZG] at r2
 obtain ⟨X3,s1⟩:=qBF (a:=a) (F:=F2) (L:=L) (st:=st ++ .l [.int y1]::(G1++X1++X2)) hL1 hL2
 rw [ZG] at s1
 have hsm:smP L F2=bth L F2:=by unfold smP bth;rw [hap]
 rw [hsm] at s1
 have hh:=Zz (a:=a) (F:=F2) (L:=L) (st:=st ++ .l [.int y1]::(G1++X1++X2++X3)) hL1 hL2
 have hk:(st++SO.l [.int y1]::(G1++X1++X2++X3)++[SO.l ((QV L F2).map PV.int)])[(st++SO.l [.int y1]::(G1++X1++X2++X3)).length]? = some (.l ((QV L F2).map PV.int)):=by rw [Ac (AM _),Br];rfl
 generalize (st++SO.l [.int y1]::(G1++X1++X2++X3)).length=nh at hh hk
 rw [ZG] at hh hk
 generalize G1++X1++X2++X3++[SO.l ((QV L F2).map PV.int)]=G4 at hh hk
 have hs:=qAb (p := .ref nh) (wH hk) hL1 hL2 hF2.len hap
 have hfl:=qAT (a:=a) (st:=st ++ .l [.int y1]::G4) hF2
 have eb:=qFj (a:=a) (F:=F) (L:=L) (st:=st ++ .l [.int y1]::G4) hL1 hL2 hF.len
 obtain ⟨y7,y8,y9,st',eB⟩:=qHa (a:=a) (F:=F) (L:=L) (y:=y1) (st:=st) (g:=G4) (x0:=some (.lst (ns.map PV.int))) (x1:=some (.int k)) (x5:=some (.tup (F2.map cP))) (x7:=x7) (x8:=x8) (x9:=x9) hL1 hL2 hF
 refine ⟨some (.ref st.length),some (.int L),some (.tup (F.map cP)),some (.tup (F2.map cP)),some (.lst ((zV L F).map bP)),y7,y8,y9,st',?_⟩
 unfold yc
 refine qY (Qq (p := .ref st.length) (s1:=st++[.l [.int x]]) (qK (qL rfl (qL rfl qk)) ex)) ?_
 refine qY (Qq (p := .int L) (qU rfl (qK (l:=[.ref st.length,.int 4]) rfl t1) (by rw [Wo,hLe]))) ?_
 refine qY (Qq (qK (l:=[.ref st.length,.int L]) rfl ef)) ?_
 refine qY (Qq (p := .tup (F2.map cP)) (qK (l:=[.lst (F2.map cP)]) (qL (qDz (qK (l:=[.ref st.length,.int L]) rfl ep) es) qk) (WU rfl))) ?_
 refine qY (QJ (Wc (w_not (b:=true) (wE (qK (l:=[.tup (F.map cP),.int L]) rfl r1))) (w_not (b:=true) (wE (qK (l:=[.tup (F2.map cP),.int L]) rfl r2)))) rfl) ?_
 refine qY (QJ (Wc (Ql (qU (p:=bth L F2) (q := .non) (qK (l:=[.tup (F2.map cP),.int L]) rfl s1) rfl rfl)) (Wc (Ql (qU (qIn (qK (l:=[.tup (F2.map cP),.int L]) rfl hh) hs) rfl ZF)) (w_not (b:=true) (wE (qK (l:=[.tup (F2.map cP)]) rfl hfl))))) rfl) ?_
 exact qY (Qq (qK (l:=[.tup (F.map cP),.int L]) rfl eb)) eB
theorem JL {a:Ad} {ns:List Int}:∀ (ks:List Int) (x1 x2 x3 x4 x5 x6 x7 x8 x9:Option PV) (st:qC),(∀ k∈ks,0≤k) -> ∃ e st',Qa (fun _=>True) (QB 1) (yc a) (ks.map PV.int) [some (.lst (ns.map PV.int)),x1,x2,x3,x4,x5,x6,x7,x8,x9] st = .nx e st'
 |[],x1,x2,x3,x4,x5,x6,x7,x8,x9,st,_=>⟨_,st,Qh trivial⟩
 |k::ks,x1,x2,x3,x4,x5,x6,x7,x8,x9,st,h=>by
  obtain ⟨y2,y3,y4,y5,y6,y7,y8,y9,st1,e⟩:=qE5 (a:=a) (ns:=ns) (k:=k) (st:=st) (x2:=x2) (x3:=x3) (x4:=x4) (x5:=x5) (x6:=x6) (x7:=x7) (x8:=x8) (x9:=x9) (h k AE)
  obtain ⟨e',st',e2⟩:=JL (a:=a) (ns:=ns) ks (some (.int k)) y2 y3 y4 y5 y6 y7 y8 y9 st1 fun q hq=>h q (AB _ hq)
  exact ⟨e',st',Wh trivial rfl e e2⟩
theorem law_true:∀ (a:Ad) (ns:List Int),qAU a->ns.length≤63->(∀ k∈ns,Builtin.Int.intBits k≤2 ^ 20) -> ∃ st,JH a [.lst (ns.map PV.int)] [] = .ok (.bl true) st:=by
 intro a ns hd hl hb
 obtain ⟨n,hn0,hn4,hn⟩:∃ n:Int,0≤n∧n≤5∧qH qDm (qA (vC (.int 1)) (qA (qH qDw (qA (qH wg (qA (qB 0) qD)) (qA (vC (.int 5)) qD))) qD)) (QZ 10 [.lst (ns.map PV.int)]) [] = .ok (.int n) []:=by
  refine ⟨if (if (5:Int) < ns.length then 5 else (ns.length:Int)) > 1 then (if (5:Int) < ns.length then 5 else (ns.length:Int)) else 1,?_,?_,?_⟩
  ·split <;> (try split) <;> omega
  ·split <;> (try split) <;> omega
  ·exact qK (qL rfl (qL (qK (l:=[.int ns.length,.int 5]) (qL (qK (qL rfl qk) (zF (l:=ns.map PV.int) rfl (by rw [AC]))) (qL rfl qk)) rfl) qk)) rfl
 obtain ⟨e,st',h⟩:=JL (a:=a) (qX n) none none none none none none none none none [] fun k hk=>by have:=upto_mem.mp hk;omega
 exact ⟨st',Qe rfl (qY (W7 (itN hn0 (by omega) (qL hn qk)) h) (Qr rfl))⟩
end K15
end
section

end
noncomputable section
namespace K15
open PySem PySem.Spec PyProof.Rows L2 EX EV
theorem qBo {K:W.Frag}:∀ p∈kitTab,W.kitOne K (.type p.1.1) (.type p.1.2)=some p.2:=by
 intro p hp
 unfold kitTab at hp
 simp only [AL,Al,or_false] at hp
 rcases hp with rfl |rfl |rfl |rfl |rfl |rfl |rfl |rfl |rfl |rfl |rfl |rfl |rfl |rfl |rfl |rfl |rfl |rfl |rfl |rfl |rfl <;> rfl
theorem jq {s T:String} {b:Bool}:∀ {l:List ((String×String)×Bool)},l.lookup (s,T)=some b->((s,T),b)∈l
 |[],h=>by cases h
 |(q,k)::l,h=>by
  rw [Ax] at h
  split at h
  ·rename_i e;cases h;rw [eq_of_beq e];exact AE
  ·exact AB _ (jq h)
theorem qFc {K:W.Frag} {s T:String} {b:Bool} (h:qH7 s T=some b):W.kitOne K (.type s) (.type T)=some b:=qBo _ (jq h)
theorem qEe {P:Program} {w:World} {K:W.Frag} {mg:Str->Option Value} {base:Heap} {CX:CXT} {k:Nat} {f:Addr} {fd:FuncData} {ps:List Str} {sp sp':Sp} (F:FnOk P w K mg base CX k f fd ps sp) (h:∀ vs H Q E,sp' vs H Q E->sp vs H Q E):FnOk P w K mg base CX k f fd ps sp' :=
 ⟨fun vs H Q E q=>F.len vs H Q E (h vs H Q E q),fun A outer s H args us vs Q E hr e b v q=>F.run A outer s H args us vs Q E hr e b v (h vs H Q E q)⟩
def spL (K:W.Frag):Sp:=fun vs H Q E => ∀ a,qAU a->spG K 1 (JH a) vs H Q E
theorem all_mk {l:W.OpenLaw} {w:World} {K:W.Frag} {h:Heap} {mg:Str->Option Value} {fa:Addr} (X:K.In h) (G:h.Ns mainGlobals mg) (hfa:mg "law" = some (.ref fa))
  {c_Z1 ff0 ff1 ff2 ff3 ff4 ff5 ff6 ff7 ff8 ff9 ff10 ff11 ff12 ff13 ff14 ff15 ff16 ff17 ff18 ff19 ff20 ff21 ff22 ff23 ff24 ff25:Addr}
  {t_LEAST_LENGTH:Tok}
  {t_MOST_LENGTH:Tok}
  {t_MOST_CELLS:Tok}
  {t_LAST_LINE:Tok}
  {t_FURTHEST:Tok}
  {t_ACROSS:Tok}
  {t_DOWN:Tok}
  (aa0:W.nsIn K mainGlobals "is_whole" = some (some (.ref ff0)))
  (ll0:K.lookup ff0=some ⟨oc0,od0,.func (W.fnOf "is_whole" "is_whole" (qj wU) (qf wU) (qI wU) .none kV0 dc0 pm0 an0 cd0 ct0),sl0⟩)
  (dd0:W.codeIn K cd0 "is_whole" = true)
  (kk0:W.keepIn K (.ref ff0)=true)
  (aa1:W.nsIn K mainGlobals "is_whole_within" = some (some (.ref ff1)))
  (ll1:K.lookup ff1=some ⟨oc1,od1,.func (W.fnOf "is_whole_within" "is_whole_within" (qj QP) (qf QP) (qI QP) .none kV1 dc1 pm1 an1 cd1 ct1),sl1⟩)
  (dd1:W.codeIn K cd1 "is_whole_within" = true)
  (kk1:W.keepIn K (.ref ff1)=true)
  (aa2:W.nsIn K mainGlobals "is_rising" = some (some (.ref ff2)))
  (ll2:K.lookup ff2=some ⟨oc2,od2,.func (W.fnOf "is_rising" "is_rising" (qj wJ) (qf wJ) (qI wJ) .none kV2 dc2 pm2 an2 cd2 ct2),sl2⟩)
  (dd2:W.codeIn K cd2 "is_rising" = true)
  (kk2:W.keepIn K (.ref ff2)=true)
  (aa3:W.nsIn K mainGlobals "is_length" = some (some (.ref ff3)))
  (ll3:K.lookup ff3=some ⟨oc3,od3,.func (W.fnOf "is_length" "is_length" (qj wM) (qf wM) (qI wM) .none kV3 dc3 pm3 an3 cd3 ct3),sl3⟩)
  (dd3:W.codeIn K cd3 "is_length" = true)
  (kk3:W.keepIn K (.ref ff3)=true)
  (aa4:W.nsIn K mainGlobals "need_length" = some (some (.ref ff4)))
  (ll4:K.lookup ff4=some ⟨oc4,od4,.func (W.fnOf "need_length" "need_length" (qj Qw) (qf Qw) (qI Qw) .none kV4 dc4 pm4 an4 cd4 ct4),sl4⟩)
  (dd4:W.codeIn K cd4 "need_length" = true)
  (kk4:W.keepIn K (.ref ff4)=true)
  (aa5:W.nsIn K mainGlobals "hues" = some (some (.ref ff5)))
  (ll5:K.lookup ff5=some ⟨oc5,od5,.func (W.fnOf "hues" "hues" (qj zr) (qf zr) (qI zr) .none kV5 dc5 pm5 an5 cd5 ct5),sl5⟩)
  (dd5:W.codeIn K cd5 "hues" = true)
  (kk5:W.keepIn K (.ref ff5)=true)
  (aa6:W.nsIn K mainGlobals "rests" = some (some (.ref ff6)))
  (ll6:K.lookup ff6=some ⟨oc6,od6,.func (W.fnOf "rests" "rests" (qj W2) (qf W2) (qI W2) .none kV6 dc6 pm6 an6 cd6 ct6),sl6⟩)
  (dd6:W.codeIn K cd6 "rests" = true)
  (kk6:W.keepIn K (.ref ff6)=true)
  (aa7:W.nsIn K mainGlobals "first_apart" = some (some (.ref ff7)))
  (ll7:K.lookup ff7=some ⟨oc7,od7,.func (W.fnOf "first_apart" "first_apart" (qj Qy) (qf Qy) (qI Qy) .none kV7 dc7 pm7 an7 cd7 ct7),sl7⟩)
  (dd7:W.codeIn K cd7 "first_apart" = true)
  (kk7:W.keepIn K (.ref ff7)=true)
  (aa8:W.nsIn K mainGlobals "sums_of" = some (some (.ref ff8)))
  (ll8:K.lookup ff8=some ⟨oc8,od8,.func (W.fnOf "sums_of" "sums_of" (qj w9) (qf w9) (qI w9) .none kV8 dc8 pm8 an8 cd8 ct8),sl8⟩)
  (dd8:W.codeIn K cd8 "sums_of" = true)
  (kk8:W.keepIn K (.ref ff8)=true)
  (aa9:W.nsIn K mainGlobals "is_bar" = some (some (.ref ff9)))
  (ll9:K.lookup ff9=some ⟨oc9,od9,.func (W.fnOf "is_bar" "is_bar" (qj WI) (qf WI) (qI WI) .none kV9 dc9 pm9 an9 cd9 ct9),sl9⟩)
  (dd9:W.codeIn K cd9 "is_bar" = true)
  (kk9:W.keepIn K (.ref ff9)=true)
  (aa10:W.nsIn K mainGlobals "places_of" = some (some (.ref ff10)))
  (ll10:K.lookup ff10=some ⟨oc10,od10,.func (W.fnOf "places_of" "places_of" (qj Q0) (qf Q0) (qI Q0) .none kV10 dc10 pm10 an10 cd10 ct10),sl10⟩)
  (dd10:W.codeIn K cd10 "places_of" = true)
  (kk10:W.keepIn K (.ref ff10)=true)
  (aa11:W.nsIn K mainGlobals "cells_of" = some (some (.ref ff11)))
  (ll11:K.lookup ff11=some ⟨oc11,od11,.func (W.fnOf "cells_of" "cells_of" (qj wV) (qf wV) (qI wV) .none kV11 dc11 pm11 an11 cd11 ct11),sl11⟩)
  (dd11:W.codeIn K cd11 "cells_of" = true)
  (kk11:W.keepIn K (.ref ff11)=true)
  (aa12:W.nsIn K mainGlobals "is_within" = some (some (.ref ff12)))
  (ll12:K.lookup ff12=some ⟨oc12,od12,.func (W.fnOf "is_within" "is_within" (qj wL) (qf wL) (qI wL) .none kV12 dc12 pm12 an12 cd12 ct12),sl12⟩)
  (dd12:W.codeIn K cd12 "is_within" = true)
  (kk12:W.keepIn K (.ref ff12)=true)
  (aa13:W.nsIn K mainGlobals "bars_of" = some (some (.ref ff13)))
  (ll13:K.lookup ff13=some ⟨oc13,od13,.func (W.fnOf "bars_of" "bars_of" (qj wb) (qf wb) (qI wb) .none kV13 dc13 pm13 an13 cd13 ct13),sl13⟩)
  (dd13:W.codeIn K cd13 "bars_of" = true)
  (kk13:W.keepIn K (.ref ff13)=true)
  (aa14:W.nsIn K mainGlobals "is_cell" = some (some (.ref ff14)))
  (ll14:K.lookup ff14=some ⟨oc14,od14,.func (W.fnOf "is_cell" "is_cell" (qj WA) (qf WA) (qI WA) .none kV14 dc14 pm14 an14 cd14 ct14),sl14⟩)
  (dd14:W.codeIn K cd14 "is_cell" = true)
  (kk14:W.keepIn K (.ref ff14)=true)
  (aa15:W.nsIn K mainGlobals "is_floor" = some (some (.ref ff15)))
  (ll15:K.lookup ff15=some ⟨oc15,od15,.func (W.fnOf "is_floor" "is_floor" (qj we) (qf we) (qI we) .none kV15 dc15 pm15 an15 cd15 ct15),sl15⟩)
  (dd15:W.codeIn K cd15 "is_floor" = true)
  (kk15:W.keepIn K (.ref ff15)=true)
  (aa16:W.nsIn K mainGlobals "mirrored" = some (some (.ref ff16)))
  (ll16:K.lookup ff16=some ⟨oc16,od16,.func (W.fnOf "mirrored" "mirrored" (qj wI) (qf wI) (qI wI) .none kV16 dc16 pm16 an16 cd16 ct16),sl16⟩)
  (dd16:W.codeIn K cd16 "mirrored" = true)
  (kk16:W.keepIn K (.ref ff16)=true)
  (aa17:W.nsIn K mainGlobals "_law_cell" = some (some (.ref ff17)))
  (ll17:K.lookup ff17=some ⟨oc17,od17,.func (W.fnOf "_law_cell" "_law_cell" (qj wf) (qf wf) (qI wf) .none kV17 dc17 pm17 an17 cd17 ct17),sl17⟩)
  (dd17:W.codeIn K cd17 "_law_cell" = true)
  (kk17:W.keepIn K (.ref ff17)=true)
  (aa18:W.nsIn K mainGlobals "_law_box" = some (some (.ref ff18)))
  (ll18:K.lookup ff18=some ⟨oc18,od18,.func (W.fnOf "_law_box" "_law_box" (qj w8) (qf w8) (qI w8) .none kV18 dc18 pm18 an18 cd18 ct18),sl18⟩)
  (dd18:W.codeIn K cd18 "_law_box" = true)
  (kk18:W.keepIn K (.ref ff18)=true)
  (aa19:W.nsIn K mainGlobals "_law_take" = some (some (.ref ff19)))
  (ll19:K.lookup ff19=some ⟨oc19,od19,.func (W.fnOf "_law_take" "_law_take" (qj wX) (qf wX) (qI wX) .none kV19 dc19 pm19 an19 cd19 ct19),sl19⟩)
  (dd19:W.codeIn K cd19 "_law_take" = true)
  (kk19:W.keepIn K (.ref ff19)=true)
  (aa20:W.nsIn K mainGlobals "_law_cover" = some (some (.ref ff20)))
  (ll20:K.lookup ff20=some ⟨oc20,od20,.func (W.fnOf "_law_cover" "_law_cover" (qj Q3) (qf Q3) (qI Q3) .none kV20 dc20 pm20 an20 cd20 ct20),sl20⟩)
  (dd20:W.codeIn K cd20 "_law_cover" = true)
  (kk20:W.keepIn K (.ref ff20)=true)
  (aa21:W.nsIn K mainGlobals "_law_put" = some (some (.ref ff21)))
  (ll21:K.lookup ff21=some ⟨oc21,od21,.func (W.fnOf "_law_put" "_law_put" (qj wW) (qf wW) (qI wW) .none kV21 dc21 pm21 an21 cd21 ct21),sl21⟩)
  (dd21:W.codeIn K cd21 "_law_put" = true)
  (kk21:W.keepIn K (.ref ff21)=true)
  (aa22:W.nsIn K mainGlobals "_law_floor" = some (some (.ref ff22)))
  (ll22:K.lookup ff22=some ⟨oc22,od22,.func (W.fnOf "_law_floor" "_law_floor" (qj Q1) (qf Q1) (qI Q1) .none kV22 dc22 pm22 an22 cd22 ct22),sl22⟩)
  (dd22:W.codeIn K cd22 "_law_floor" = true)
  (kk22:W.keepIn K (.ref ff22)=true)
  (aa23:W.nsIn K mainGlobals "_law_sums_right" = some (some (.ref ff23)))
  (ll23:K.lookup ff23=some ⟨oc23,od23,.func (W.fnOf "_law_sums_right" "_law_sums_right" (qj QW) (qf QW) (qI QW) .none kV23 dc23 pm23 an23 cd23 ct23),sl23⟩)
  (dd23:W.codeIn K cd23 "_law_sums_right" = true)
  (kk23:W.keepIn K (.ref ff23)=true)
  (aa24:W.nsIn K mainGlobals "_law_right" = some (some (.ref ff24)))
  (ll24:K.lookup ff24=some ⟨oc24,od24,.func (W.fnOf "_law_right" "_law_right" (qj Q2) (qf Q2) (qI Q2) .none kV24 dc24 pm24 an24 cd24 ct24),sl24⟩)
  (dd24:W.codeIn K cd24 "_law_right" = true)
  (kk24:W.keepIn K (.ref ff24)=true)
  (aa25:W.nsIn K mainGlobals "law" = some (some (.ref ff25)))
  (ll25:K.lookup ff25=some ⟨oc25,od25,.func (W.fnOf "law" "law" (qj zA) (qf zA) (qI zA) .none kV25 dc25 pm25 an25 cd25 ct25),sl25⟩)
  (dd25:W.codeIn K cd25 "law" = true)
  (kk25:W.keepIn K (.ref ff25)=true)
  (n_all:W.nsIn K mainGlobals "all" = some none)
  (n_bool:W.nsIn K mainGlobals "bool" = some none)
  (n_int:W.nsIn K mainGlobals "int" = some none)
  (n_isinstance:W.nsIn K mainGlobals "isinstance" = some none)
  (n_len:W.nsIn K mainGlobals "len" = some none)
  (n_max:W.nsIn K mainGlobals "max" = some none)
  (n_min:W.nsIn K mainGlobals "min" = some none)
  (n_range:W.nsIn K mainGlobals "range" = some none)
  (n_set:W.nsIn K mainGlobals "set" = some none)
  (n_sorted:W.nsIn K mainGlobals "sorted" = some none)
  (n_sum:W.nsIn K mainGlobals "sum" = some none)
  (n_tuple:W.nsIn K mainGlobals "tuple" = some none)
  (n_zip:W.nsIn K mainGlobals "zip" = some none)
  (g_LEAST_LENGTH:W.nsIn K mainGlobals "LEAST_LENGTH" = some (some (.int 2 t_LEAST_LENGTH)))
  (g_MOST_LENGTH:W.nsIn K mainGlobals "MOST_LENGTH" = some (some (.int 5 t_MOST_LENGTH)))
  (g_MOST_CELLS:W.nsIn K mainGlobals "MOST_CELLS" = some (some (.int 40 t_MOST_CELLS)))
  (g_LAST_LINE:W.nsIn K mainGlobals "LAST_LINE" = some (some (.int 7 t_LAST_LINE)))
  (g_FURTHEST:W.nsIn K mainGlobals "FURTHEST" = some (some (.int 40 t_FURTHEST)))
  (g_ACROSS:W.nsIn K mainGlobals "ACROSS" = some (some (.int 0 t_ACROSS)))
  (g_DOWN:W.nsIn K mainGlobals "DOWN" = some (some (.int 1 t_DOWN)))
  (q_Z1:W.nsIn K mainGlobals "NoLength" = some (some (.ref c_Z1)))
  (ds:qAU ⟨c_Z1,ff0,ff1,ff2,ff3,ff4,ff5,ff6,ff7,ff8,ff9,ff10,ff11,ff12,ff13,ff14,ff15,ff16,ff17,ff18,ff19,ff20,ff21,ff22,ff23,ff24,ff25⟩) :
  ∃ fd:FuncData,(∀ (s:Shared) (v:Value),BindsTo s fd ⟨[v],[]⟩ [("_law_script",v)]) ∧ ∀ base:Heap,K.In base->base.Ns mainGlobals mg->FnOk l.prog w K mg base (CXF l.prog w) 10 fa fd ["_law_script"] (spL K):=by
 have e:ff25=fa:=Value.ref.inj (An ((Af X G aa25).symm.trans hfa))
 subst e
 have V:Env K mg ⟨c_Z1,ff0,ff1,ff2,ff3,ff4,ff5,ff6,ff7,ff8,ff9,ff10,ff11,ff12,ff13,ff14,ff15,ff16,ff17,ff18,ff19,ff20,ff21,ff22,ff23,ff24,ff25⟩:=by
  refine { kit:=⟨fun t c b hk => ?_,fun x c b hk => ?_⟩,n_all:=Az X G n_all,n_bool:=Az X G n_bool,n_int:=Az X G n_int,n_isinstance:=Az X G n_isinstance,n_len:=Az X G n_len,n_max:=Az X G n_max,n_min:=Az X G n_min,n_range:=Az X G n_range,n_set:=Az X G n_set,n_sorted:=Az X G n_sorted,n_sum:=Az X G n_sum,n_tuple:=Az X G n_tuple,n_zip:=Az X G n_zip,c_LEAST_LENGTH:=⟨_,Af X G g_LEAST_LENGTH⟩,c_MOST_LENGTH:=⟨_,Af X G g_MOST_LENGTH⟩,c_MOST_CELLS:=⟨_,Af X G g_MOST_CELLS⟩,c_LAST_LINE:=⟨_,Af X G g_LAST_LINE⟩,c_FURTHEST:=⟨_,Af X G g_FURTHEST⟩,c_ACROSS:=⟨_,Af X G g_ACROSS⟩,c_DOWN:=⟨_,Af X G g_DOWN⟩,k_Z1:=Af X G q_Z1,m_is_whole:=Af X G aa0,f_is_whole:=⟨_,QK (st:=wU) ll0 dd0 kk0⟩,m_is_whole_within:=Af X G aa1,f_is_whole_within:=⟨_,QK (st:=QP) ll1 dd1 kk1⟩,m_is_rising:=Af X G aa2,f_is_rising:=⟨_,QK (st:=wJ) ll2 dd2 kk2⟩,m_is_length:=Af X G aa3,f_is_length:=⟨_,QK (st:=wM) ll3 dd3 kk3⟩,m_need_length:=Af X G aa4,f_need_length:=⟨_,QK (st:=Qw) ll4 dd4 kk4⟩,m_hues:=Af X G aa5,f_hues:=⟨_,QK (st:=zr) ll5 dd5 kk5⟩,m_rests:=Af X G aa6,f_rests:=⟨_,QK (st:=W2) ll6 dd6 kk6⟩,m_first_apart:=Af X G aa7,f_first_apart:=⟨_,QK (st:=Qy) ll7 dd7 kk7⟩,m_sums_of:=Af X G aa8,f_sums_of:=⟨_,QK (st:=w9) ll8 dd8 kk8⟩,m_is_bar:=Af X G aa9,f_is_bar:=⟨_,QK (st:=WI) ll9 dd9 kk9⟩,m_places_of:=Af X G aa10,f_places_of:=⟨_,QK (st:=Q0) ll10 dd10 kk10⟩,m_cells_of:=Af X G aa11,f_cells_of:=⟨_,QK (st:=wV) ll11 dd11 kk11⟩,m_is_within:=Af X G aa12,f_is_within:=⟨_,QK (st:=wL) ll12 dd12 kk12⟩,m_bars_of:=Af X G aa13,f_bars_of:=⟨_,QK (st:=wb) ll13 dd13 kk13⟩,m_is_cell:=Af X G aa14,f_is_cell:=⟨_,QK (st:=WA) ll14 dd14 kk14⟩,m_is_floor:=Af X G aa15,f_is_floor:=⟨_,QK (st:=we) ll15 dd15 kk15⟩,m_mirrored:=Af X G aa16,f_mirrored:=⟨_,QK (st:=wI) ll16 dd16 kk16⟩,m_law_cell:=Af X G aa17,f_law_cell:=⟨_,QK (st:=wf) ll17 dd17 kk17⟩,m_law_box:=Af X G aa18,f_law_box:=⟨_,QK (st:=w8) ll18 dd18 kk18⟩,m_law_take:=Af X G aa19,f_law_take:=⟨_,QK (st:=wX) ll19 dd19 kk19⟩,m_law_cover:=Af X G aa20,f_law_cover:=⟨_,QK (st:=Q3) ll20 dd20 kk20⟩,m_law_put:=Af X G aa21,f_law_put:=⟨_,QK (st:=wW) ll21 dd21 kk21⟩,m_law_floor:=Af X G aa22,f_law_floor:=⟨_,QK (st:=Q1) ll22 dd22 kk22⟩,m_law_sums_right:=Af X G aa23,f_law_sums_right:=⟨_,QK (st:=QW) ll23 dd23 kk23⟩,m_law_right:=Af X G aa24,f_law_right:=⟨_,QK (st:=Q2) ll24 dd24 kk24⟩,m_law:=Af X G aa25,f_law:=⟨_,QK (st:=zA) ll25 dd25 kk25⟩ }
  ·unfold kit at hk
   split at hk
   ·exact qFc hk
   ·cases hk
  ·cases c <;> cases hk
 refine ⟨W.fnOf "law" "law" (qj zA) (qf zA) (qI zA) .none kV25 dc25 pm25 an25 cd25 ct25,fun s v => .of_eq rfl,fun base _ _ => ?_⟩
 exact qEe (qIc V (QK (st:=zA) ll25 dd25 kk25)) fun vs H Q E q=>q _ ds
theorem qCV {l:W.OpenLaw} {n k:Nat} {q:Program} {loose:List Str} {XP:(Str->Option Value)->Heap->Prop} {YP:World->Heap->Prop} {d:DefRec} {K:Params->W.Frag} {CX:World->CXT} {sp:World->Sp} {x:Str}
  (hn:l.most=some n) (hn2:n≤sizeLine) (hdf:d.params.defaults=[]) (hr:Room k callerA)
  (hY:∀ (w:World) (h:Heap),YP w h->(K w.params).In h)
  (F:∀ (w:World) (mg:Str->Option Value) (fa:Addr) (h:Heap),(K w.params).In h->h.Ns mainGlobals mg->XP mg h->mg d.name=some (.ref fa) ->
   ∃ fd:FuncData,(∀ (s:Shared) (u:Value),BindsTo s fd ⟨[u],[]⟩ [(x,u)]) ∧
    ∀ base:Heap,(K w.params).In base->base.Ns mainGlobals mg->FnOk l.prog w (K w.params) mg base (CX w) k fa fd [x] (sp w))
  (hsp:∀ (w:World) (H:Hp) (a:Addr) (ns:List Int),ns.length≤n->(∀ k∈ns,Builtin.Int.intBits k≤2 ^ 20)->qGx H->SqL (K w.params) H a (ns.map V.int)->sp w [.ref a] H (fun v _=>v = .bl true) fun _ _ _=>False)
  (hCX:∀ (w:World) (H:Hp) (s:Shared) (e:Value) (s':Shared),CX w [] H s (fun _ _ _=>False) e s'->False) :
  W.WalkO q loose XP YP l.row.toRowW d [] (fun f vs=>PySem.call f vs):=by
 refine Att.attach_callB hn hdf fun w s₀ s₁ mg mb fa o pm cd doc a vs ns G Y ho hd hcd hmg hobj hints hlen hbits hg => ?_
 have KX:=hY w _ Y
 obtain ⟨fd,hb,hF⟩:=F w mg fa _ KX G.T.g G.X hmg
 exact qCg KX G.T.g G.T.b G.T.builtins G.T.nolimit hg hobj hints (Am hlen hn2) hr hF hb (fun H hO hS=>hsp w H a ns hlen hbits hO hS) fun H e s'=>hCX w H s₁ e s'
theorem zM {K:W.Frag} {H:Hp} {b:Bz}:∀ ns:List Int,RVs K H b (ns.map PV.int) (ns.map V.int)
 |[]=>RVs.nil
 |n::ns=>RVs.cons Q9 (zM ns)
theorem qDf (key:∀ (a:Ad) (ns:List Int),qAU a->ns.length≤63->(∀ k∈ns,Builtin.Int.intBits k≤2 ^ 20) -> ∃ st,JH a [.lst (ns.map PV.int)] [] = .ok (.bl true) st) {K:W.Frag} {H:Hp} {a:Addr} {ns:List Int} (hl:ns.length≤63) (hb:∀ k∈ns,Builtin.Int.intBits k≤2 ^ 20) (hS:SqL K H a (ns.map V.int)):spL K [.ref a] H (fun v _=>v = .bl true) fun _ _ _=>False:=by
 intro ad hd
 obtain ⟨st,e⟩:=key ad ns hd hl hb
 refine ⟨rfl,⟨[],[]⟩,[.lst (ns.map PV.int)],[],⟨rfl,List.nodup_nil,fun i x h=>by simp at h,fun a ha=>(Al ha).elim,fun a ha=>(Al ha).elim⟩,RVs.cons ?_ RVs.nil,?_⟩
 ·unfold RV
  exact ⟨a,_,rfl,hS.imp (fun h=>⟨h,Al,Al⟩) id,zM ns⟩
 ·rw [e]
  intro v H' b' _ _ r
  unfold RV at r
  exact r
theorem walk31 (key:∀ (a:Ad) (ns:List Int),qAU a->ns.length≤63->(∀ k∈ns,Builtin.Int.intBits k≤2 ^ 20) -> ∃ st,JH a [.lst (ns.map PV.int)] [] = .ok (.bl true) st) {l:W.OpenLaw} {q:Program} {loose:List Str} {XP:(Str->Option Value)->Heap->Prop} {YP:World->Heap->Prop} {d:DefRec} {K:Params->W.Frag} (hn:l.most=some 63) (hdf:d.params.defaults=[])
  (hY:∀ (w:World) (h:Heap),YP w h->(K w.params).In h)
  (F:∀ (w:World) (mg:Str->Option Value) (fa:Addr) (h:Heap),(K w.params).In h->h.Ns mainGlobals mg->XP mg h->mg d.name=some (.ref fa) ->
   ∃ fd:FuncData,(∀ (s:Shared) (u:Value),BindsTo s fd ⟨[u],[]⟩ [("_law_script",u)]) ∧ ∀ base:Heap,(K w.params).In base->base.Ns mainGlobals mg->FnOk l.prog w (K w.params) mg base (CXF l.prog w) 10 fa fd ["_law_script"] (spL (K w.params))) :
  W.WalkO q loose XP YP l.row.toRowW d [] (fun f vs=>PySem.call f vs) :=
 qCV (n:=63) (k:=10) (x := "_law_script") (CX:=fun w=>CXF l.prog w) (sp:=fun w=>spL (K w.params)) hn (by decide) hdf ⟨fun _=>rfl,by decide,by decide,rfl⟩ hY F (fun _ _ a ns hl hb _ hS=>qDf key hl hb hS) fun _ _ _ _ _ z=>by
  obtain ⟨_,_,_,_,_,_,_,_,_,_,_,_,q⟩:=z
  exact q
end K15
end
section
namespace PySem.W.Fast
def tw2078248215330044484:=0
def tw14267814951587679653:=0
def tw11317730065061530345:=0
def tw17922205233627511276:=0
def tw15859050684343210555:=0
def tw6865941546115829275:=0
def tw8325709635139620724:=0
def tw9784406625547389907:=0
def tw4237233297625340712:=0
def tw6755497056967065918:=0
def tw1345328105722608924:=0
def tw11022884904532388950:=0
def tw1415617477721845432:=0
def tw13739878770338096080:=0
def tw12795680214725646690:=0
def tw7502684967562755104:=0
def tw17572392643096692417:=0
def tw5854160351420488983:=0
def tw6737706084269816884:=0
def tw4568785039671170163:=0
def tw7978571034627462658:=0
def tw7798924224654487533:=0
def tw18395401551355582248:=0
def tw15104600222721211365:=0
def tw6969087464586283279:=0
def tw12021768589826557265:=0
def tw13843349961214549663:=0
def tw14451802010111353616:=0
def tw5882919180218410845:=0
def tw8368053977505711917:=0
def tw5652995001719955065:=0
end PySem.W.Fast
open PySem PySem.W PyProof.Rows
set_option maxRecDepth 100000 in
set_option maxHeartbeats 0 in
theorem PySem.Challenge.cw_barfloors_k15_whole_rests_and_fillings_holds : PySem.Challenge.rw_barfloors_k15_whole_rests_and_fillings.Holds := by
  w_on; o_law; k_head; (case hw => w_witness2)
  k_fill
  refine K15.walk31 K15.law_true (l := PySem.Challenge.rw_barfloors_k15_whole_rests_and_fillings) rfl rfl (fun w h Y => PySem.W.kIn_of Y) ?F
  case F =>
    intro w mg fa h KX G XX hmg
    refine' K15.all_mk KX G hmg ?zzA ?zzB ?zzC ?zzD ?zzE ?zzF ?zzG ?zzH ?zzI ?zzJ ?zzK ?zzL ?zzM ?zzN ?zzO ?zzP ?zzQ ?zzR ?zzS ?zzT ?zzU ?zzV ?zzW ?zzX ?zzY ?zzZ ?zza ?zzb ?zzc ?zzd ?zze ?zzf ?zzg ?zzh ?zzi ?zzj ?zzk ?zzl ?zzm ?zzn ?zzo ?zzp ?zzq ?zzr ?zzs ?zzt ?zzu ?zzv ?zzw ?zzx ?zzy ?zzz ?zyA ?zyB ?zyC ?zyD ?zyE ?zyF ?zyG ?zyH ?zyI ?zyJ ?zyK ?zyL ?zyM ?zyN ?zyO ?zyP ?zyQ ?zyR ?zyS ?zyT ?zyU ?zyV ?zyW ?zyX ?zyY ?zyZ ?zya ?zyb ?zyc ?zyd ?zye ?zyf ?zyg ?zyh ?zyi ?zyj ?zyk ?zyl ?zym ?zyn ?zyo ?zyp ?zyq ?zyr ?zys ?zyt ?zyu ?zyv ?zyw ?zyx ?zyy ?zyz ?zxA ?zxB ?zxC ?zxD ?zxE ?zxF ?zxG ?zxH ?zxI ?zxJ ?zxK ?zxL ?zxM ?zxN ?zxO ?zxP ?zxQ ?zxR ?zxS ?zxT ?zxU ?zxV
    (case zzA|zzB|zzC|zzD|zzE|zzF|zzG|zzH|zzI|zzJ|zzK|zzL|zzM|zzN|zzO|zzP|zzQ|zzR|zzS|zzT|zzU|zzV|zzW|zzX|zzY|zzZ|zza|zzb|zzc|zzd|zze|zzf|zzg|zzh|zzi|zzj|zzk|zzl|zzm|zzn|zzo|zzp|zzq|zzr|zzs|zzt|zzu|zzv|zzw|zzx|zzy|zzz|zyA|zyB|zyC|zyD|zyE|zyF|zyG|zyH|zyI|zyJ|zyK|zyL|zyM|zyN|zyO|zyP|zyQ|zyR|zyS|zyT|zyU|zyV|zyW|zyX|zyY|zyZ|zya|zyb|zyc|zyd|zye|zyf|zyg|zyh|zyi|zyj|zyk|zyl|zym|zyn|zyo|zyp|zyq|zyr|zys|zyt|zyu|zyv|zyw|zyx|zyy|zyz|zxA|zxB|zxC|zxD|zxE|zxF|zxG|zxH|zxI|zxJ|zxK|zxL|zxM|zxN|zxO|zxP|zxQ|zxR|zxS|zxT|zxU => k_is)
    (case zxV => decide)
end
