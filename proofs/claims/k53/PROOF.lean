import PyProof.Rows.All
import Wide.All
import OpenK.AllK
import Wide.FinOn
import PyProof.EqAt
import PyProof.EqKinds
import PyProof.TupleCall
import Lean
import PyProof.NeKinds
import PyProof.Rows.RuleDivmod
import PyProof.Rows.FactsN_divmod
import PyProof.DictItems
import KE.KPairComp
import PyProof.Draws
import PySem.Challenge.RW_barfloors_k53_weights
theorem AA:type_of% @PySem.wpAny_bind:=@PySem.wpAny_bind
theorem AB:type_of% @PySem.wpAny_pure:=@PySem.wpAny_pure
theorem AC:type_of% @PySem.Heap.get?_push_of_some:=@PySem.Heap.get?_push_of_some
theorem AD:type_of% @List.mem_cons_of_mem:=@List.mem_cons_of_mem
theorem AE:type_of% @List.getElem?_eq_getElem:=@List.getElem?_eq_getElem
theorem AF:type_of% @List.length_map:=@List.length_map
theorem AG:type_of% @if_pos:=@if_pos
theorem AH:type_of% @beq_eq_false_iff_ne:=@beq_eq_false_iff_ne
theorem AI:type_of% @List.mem_cons_self:=@List.mem_cons_self
theorem AJ:type_of% @List.mem_cons:=@List.mem_cons
theorem AK:type_of% @List.getD_eq_getElem?_getD:=@List.getD_eq_getElem?_getD
theorem AL:type_of% @Nat.le_refl:=@Nat.le_refl
theorem AM:type_of% @PySem.Heap.lt_size:=@PySem.Heap.lt_size
theorem AN:type_of% @if_neg:=@if_neg
theorem AO:type_of% @List.length_append:=@List.length_append
theorem AQ:type_of% @List.getElem?_eq_some_iff:=@List.getElem?_eq_some_iff
theorem AR:type_of% @Array.getD_eq_getD_getElem?:=@Array.getD_eq_getD_getElem?
theorem AS:type_of% @List.size_toArray:=@List.size_toArray
theorem AT:type_of% @Array.getElem?_eq_getElem:=@Array.getElem?_eq_getElem
theorem AU:type_of% @List.length_cons:=@List.length_cons
theorem AV:type_of% @PySem.Heap.get?_push_size:=@PySem.Heap.get?_push_size
theorem AW:type_of% @PySem.W.mg_of:=@PySem.W.mg_of
theorem AX:type_of% @Array.length_toList:=@Array.length_toList
theorem AY:type_of% @List.not_mem_nil:=@List.not_mem_nil
theorem AZ:type_of% @Nat.ne_of_lt:=@Nat.ne_of_lt
theorem Aa:type_of% @Nat.le_trans:=@Nat.le_trans
theorem Ab:type_of% @List.append_assoc:=@List.append_assoc
theorem Ac:type_of% @decide_eq_false:=@decide_eq_false
theorem Ae:type_of% @List.getElem?_append_left:=@List.getElem?_append_left
theorem Af:type_of% @List.getElem?_append_right:=@List.getElem?_append_right
theorem Ag:type_of% @List.length_singleton:=@List.length_singleton
theorem Ah:type_of% @PySem.Heap.get?_update_other:=@PySem.Heap.get?_update_other
theorem Ai:type_of% @decide_eq_true:=@decide_eq_true
theorem Aj:type_of% @Bool.and_eq_true:=@Bool.and_eq_true
theorem Ak:type_of% @List.mem_singleton:=@List.mem_singleton
theorem Al:type_of% @List.mem_map:=@List.mem_map
theorem Am:type_of% @Option.some.inj:=@Option.some.inj
theorem An:type_of% @PySem.wpAny_of_eq:=@PySem.wpAny_of_eq
theorem Ao:type_of% @List.getElem?_map:=@List.getElem?_map
theorem Ap:type_of% @List.map_cons:=@List.map_cons
theorem Aq:type_of% @PySem.wpAny_field:=@PySem.wpAny_field
theorem Ar:type_of% @List.mem_append:=@List.mem_append
theorem As:type_of% @Nat.lt_of_lt_of_le:=@Nat.lt_of_lt_of_le
theorem At:type_of% @beq_self_eq_true:=@beq_self_eq_true
theorem Au:type_of% @PySem.wpAny_holding:=@PySem.wpAny_holding
theorem Av:type_of% @List.getElem?_set_self:=@List.getElem?_set_self
theorem Aw:type_of% @List.mem_of_getElem?:=@List.mem_of_getElem?
theorem Ax:type_of% @List.getElem?_set_ne:=@List.getElem?_set_ne
theorem Ay:type_of% @PySem.wpAny_callSpecial?_slot:=@PySem.wpAny_callSpecial?_slot
theorem Az:type_of% @PySem.W.mg_none_of:=@PySem.W.mg_none_of
theorem A0:type_of% @List.map_map:=@List.map_map
theorem A1:type_of% @PySem.wpAny_newObj_type:=@PySem.wpAny_newObj_type
theorem A2:type_of% @PySem.Heap.get?_update_self:=@PySem.Heap.get?_update_self
theorem A3:type_of% @Array.getElem?_toList:=@Array.getElem?_toList
theorem A4:type_of% @List.lookup_cons:=@List.lookup_cons
theorem A5:type_of% @PySem.wpAny_setState_of:=@PySem.wpAny_setState_of
theorem A6:type_of% @List.append_nil:=@List.append_nil
theorem A7:type_of% @PySem.wpAny_call_entry:=@PySem.wpAny_call_entry
theorem A8:type_of% @PySem.Heap.size_push:=@PySem.Heap.size_push
theorem A9:type_of% @List.all_eq_true:=@List.all_eq_true
theorem BA:type_of% @PySem.Obj.data_mapFields:=@PySem.Obj.data_mapFields
theorem BB:type_of% @List.mem_append_right:=@List.mem_append_right
theorem BC:type_of% @List.getElem?_replicate:=@List.getElem?_replicate
theorem BD:type_of% @Int.toNat_natCast:=@Int.toNat_natCast
theorem BE:type_of% @Nat.lt_succ_of_lt:=@Nat.lt_succ_of_lt
theorem BF:type_of% @Bool.false_eq_true:=@Bool.false_eq_true
theorem BG:type_of% @PySem.wpAny_isInstance:=@PySem.wpAny_isInstance
theorem BH:type_of% @List.filterMap_cons:=@List.filterMap_cons
theorem BI:type_of% @List.replicate_succ:=@List.replicate_succ
theorem BJ:type_of% @Nat.zero_le:=@Nat.zero_le
theorem BK:type_of% @PyProof.Rows.slot_tuple_getitem:=@PyProof.Rows.slot_tuple_getitem
theorem BL:type_of% @Bool.false_ne_true:=@Bool.false_ne_true
theorem BM:type_of% @List.nodup_cons:=@List.nodup_cons
theorem BN:type_of% @List.map_congr_left:=@List.map_congr_left
theorem BO:type_of% @PySem.wpAny_seqItems:=@PySem.wpAny_seqItems
theorem BP:type_of% @List.getElem?_eq_none:=@List.getElem?_eq_none
theorem BQ:type_of% @List.set_append_right:=@List.set_append_right
theorem BR:type_of% @Nat.not_lt_zero:=@Nat.not_lt_zero
theorem BS:type_of% @List.getElem?_of_mem:=@List.getElem?_of_mem
theorem BT:type_of% @PySem.F.slot_tuple_iterator_next:=@PySem.F.slot_tuple_iterator_next
theorem BU:type_of% @Array.getElem?_eq_some_iff:=@Array.getElem?_eq_some_iff
theorem BV:type_of% @PySem.wpAny_setField:=@PySem.wpAny_setField
theorem BW:type_of% @List.mem_range:=@List.mem_range
theorem BX:type_of% @List.map_append:=@List.map_append
theorem BY:type_of% @Nat.lt_of_le_of_lt:=@Nat.lt_of_le_of_lt
theorem BZ:type_of% @Nat.lt_irrefl:=@Nat.lt_irrefl
theorem Ba:type_of% @Int.le_refl:=@Int.le_refl
theorem Bb:type_of% @of_decide_eq_true:=@of_decide_eq_true
theorem Bc:type_of% @PySem.codeAny_builtin:=@PySem.codeAny_builtin
theorem Bd:type_of% @PyProof.Rows.KeyOrd.kle_refl:=@PyProof.Rows.KeyOrd.kle_refl
theorem Be:type_of% @PySem.mem_of_lookup:=@PySem.mem_of_lookup
theorem Bf:type_of% @PySem.wpAny_typeOf:=@PySem.wpAny_typeOf
theorem Bg:type_of% @PySem.wpAny_mono:=@PySem.wpAny_mono
theorem Bh:type_of% @List.length_take:=@List.length_take
theorem Bi:type_of% @or_false:=@or_false
theorem Bj:type_of% @PySem.Obj.isFreed_of_fields:=@PySem.Obj.isFreed_of_fields
theorem Bk:type_of% @List.pairwise_cons:=@List.pairwise_cons
theorem Bl:type_of% @List.foldl_cons:=@List.foldl_cons
theorem Bm:type_of% @Nat.sub_self:=@Nat.sub_self
theorem Bn:type_of% @List.length_nil:=@List.length_nil
theorem Bo:type_of% @PySem.Around.under_plainId:=@PySem.Around.under_plainId
theorem Bp:type_of% @List.flatten_cons:=@List.flatten_cons
theorem Bq:type_of% @List.pairwise_map:=@List.pairwise_map
theorem Br:type_of% @List.length_range:=@List.length_range
theorem Bs:type_of% @PySem.wpAny_attempt:=@PySem.wpAny_attempt
theorem Bt:type_of% @if_false:=@if_false
theorem Bu:type_of% @Nat.le_add_right:=@Nat.le_add_right
theorem Bv:type_of% @List.filter_cons:=@List.filter_cons
theorem Bw:type_of% @PyProof.Rows.callWith_type1:=@PyProof.Rows.callWith_type1
theorem By:type_of% @PySem.wpAny_Call_Name_kw:=@PySem.wpAny_Call_Name_kw
theorem B1:type_of% @PySem.wpAny_setField_rec:=@PySem.wpAny_setField_rec
theorem B2:type_of% @beq_false_of_ne:=@beq_false_of_ne
theorem B3:type_of% @PySem.wpAny_rule:=@PySem.wpAny_rule
theorem B4:type_of% @beq_iff_eq:=@beq_iff_eq
theorem B5:type_of% @Bool.and_false:=@Bool.and_false
theorem B6:type_of% @List.take_succ_eq_append_getElem:=@List.take_succ_eq_append_getElem
theorem B7:type_of% @PySem.wpAny_askSetting:=@PySem.wpAny_askSetting
theorem B8:type_of% @PySem.Heap.size_update:=@PySem.Heap.size_update
theorem B9:type_of% @List.getElem_mem:=@List.getElem_mem
theorem CA:type_of% @List.getElem?_range:=@List.getElem?_range
theorem CB:type_of% @Nat.add_sub_cancel_left:=@Nat.add_sub_cancel_left
theorem CC:type_of% @List.mem_filterMap:=@List.mem_filterMap
theorem CD:type_of% @PySem.wpAny_call:=@PySem.wpAny_call
theorem CF:type_of% @Option.map_some:=@Option.map_some
theorem CG:type_of% @List.zip_cons_cons:=@List.zip_cons_cons
theorem CH:type_of% @congrArg:=@congrArg
theorem CI:type_of% @List.range_succ_eq_map:=@List.range_succ_eq_map
theorem CJ:type_of% @PySem.Obj.cls_mapFields:=@PySem.Obj.cls_mapFields
theorem CK:type_of% @PySem.wpAny_truthy_bool:=@PySem.wpAny_truthy_bool
theorem CL:type_of% @Nat.le_of_lt_succ:=@Nat.le_of_lt_succ
theorem CM:type_of% @PyProof.Rows.KeyOrd.kle_of_klt:=@PyProof.Rows.KeyOrd.kle_of_klt
theorem CN:type_of% @Nat.ne_of_gt:=@Nat.ne_of_gt
theorem CP:type_of% @List.length_drop:=@List.length_drop
theorem CQ:type_of% @Nat.succ_le_succ:=@Nat.succ_le_succ
theorem CS:type_of% @PySem.codeAny_call_builtin:=@PySem.codeAny_call_builtin
theorem CT:type_of% @List.take_length:=@List.take_length
theorem CU:type_of% @List.mem_of_mem_drop:=@List.mem_of_mem_drop
theorem CV:type_of% @List.mem_of_mem_take:=@List.mem_of_mem_take
theorem CW:type_of% @PyProof.Rows.KeyOrd.kle_trans:=@PyProof.Rows.KeyOrd.kle_trans
theorem CY:type_of% @PySem.wpAny_standAt:=@PySem.wpAny_standAt
theorem CZ:type_of% @PySem.sizeLine_eq:=@PySem.sizeLine_eq
theorem Ca:type_of% @if_true:=@if_true
theorem Cb:type_of% @Prod.mk.inj:=@Prod.mk.inj
theorem Cc:type_of% @PySem.Heap.SameBut.update:=@PySem.Heap.SameBut.update
theorem Cd:type_of% @List.length_set:=@List.length_set
theorem Ce:type_of% @List.nil_append:=@List.nil_append
theorem Cf:type_of% @PySem.pushCells_keeps:=@PySem.pushCells_keeps
theorem Cg:type_of% @List.forIn_cons:=@List.forIn_cons
theorem Ch:type_of% @Nat.le_of_lt:=@Nat.le_of_lt
theorem Ci:type_of% @List.map_nil:=@List.map_nil
theorem Cj:type_of% @PySem.wpAny_pyIter_tuple:=@PySem.wpAny_pyIter_tuple
theorem Ck:type_of% @PySem.isSubtype_stop:=@PySem.isSubtype_stop
theorem Cm:type_of% @List.all_cons:=@List.all_cons
theorem Cn:type_of% @PySem.wpAny_newList:=@PySem.wpAny_newList
theorem Co:type_of% @Nat.add_assoc:=@Nat.add_assoc
set_option Elab.async false
set_option linter.all false
set_option maxRecDepth 100000
set_option maxHeartbeats 0
section
namespace EX
open PySem PySem.Spec PyProof.Rows
theorem qAu:entryFor table "proto.unchain" = some Builtin.«proto.unchain» := entryFor_of_fast (by kernel_rfl)
def Hnd (A:Around) (h:Heap):Prop := ∀ v,A.handled=some v -> ∃ ea oe vs,v=Value.ref ea∧h.get? ea=some oe∧oe.data = .fields vs∧vs[2]? = some .none
section
variable {prog:Program} {w:World} {A:Around} {E:Value->Shared->Prop} {s:Shared}
theorem qB3 {e v:Value} {ea:Addr} {oe:Obj} {vs:Array Value} {Q:Value->Shared->Prop} (ho:s.heap.get? ea=some oe) (hd:oe.data = .fields vs) (h2:vs[2]? = some .none) (hq:Q .none s) :
  wpAny (model prog w) A (runValue (.builtin "proto.unchain" ⟨[e,.ref ea,v,.bool false],[]⟩)) Q E s:=by
 refine wpAny_runValue (Bc qAu ?_)
 unfold Builtin.«proto.unchain»
 dsimp only
 refine AA (Aq ho hd h2 ?_)
 rw [AG (show (Value.none==Value.none)=true by rfl)]
 refine AA (AB (AB ?_))
 exact hq
theorem qBP {α:Type} {e:Addr} {oe:Obj} {vs:Array Value} {Q:α->Shared->Prop} (hn:Hnd A s.heap) (he:s.heap.get? e=some oe) (hd:oe.data = .fields vs) (hsz:2 < vs.size) (hne:∀ ea,A.handled=some (.ref ea)->ea≠e)
  (h:∀ h' o',Heap.SameBut e s.heap h'->h'.get? e=some o'->o'.cls=oe.cls->E (.ref e) { s with heap:=h' }):wpAny (model prog w) A (raiseNew (.ref e):Sem α) Q E s:=by
 unfold raiseNew
 refine AA (wpAny_handled ?_)
 cases hh:A.handled with
 |none=>exact AA (AB (wpAny_throw (h s.heap oe (.refl ..) he rfl)))
 |some v =>
  obtain ⟨ea,o,ws,rfl,ho,hdo,h2⟩:=hn v hh
  have hne':=hne ea hh
  have hb:(Value.ref ea != Value.ref e)=true:=by
   rw [bne_iff_ne];intro z;cases z;exact hne' rfl
  dsimp only
  rw [AG hb]
  refine AA (Au (qB3 ho hdo h2 ?_))
  refine AA (BV (x:=Value.ref ea) he hd hsz (wpAny_throw ?_))
  exact h _ _ (Cc ..) (A2 _ he (Bj (BA hd _))) (CJ ..)
theorem zr {α:Type} {Q:α->Shared->Prop} (hn:Hnd A s.heap) (h:∀ h' e,(∀ b o,s.heap.get? b=some o->h'.get? b=some o)->(∃ o',h'.get? e=some o'∧o'.cls = .type "StopIteration")->E (.ref e) { s with heap:=h' }) :
  wpAny (model prog w) A (newExc (.type "StopIteration") [] >>= fun e=>(raiseNew e:Sem α)) Q E s:=by
 refine AA ?_
 unfold newExc newTuple
 refine AA (A1 ?_ (by size_fits))
 refine AA (m:=firstArgMember _ _) (An (a:=Value.none) (by first |rfl |(simp only [firstArgMember];rfl)) ?_)
 refine A1 ?_ (by size_fits)
 have up:∀ {b o},s.heap.get? b=some o->((s.heap.push { cls := .type "tuple",data := .seq ([]:List Value).toArray }).push { cls := .type "StopIteration",data := .fields (#[.ref s.heap.objs.size,.none,.none,.none,.bool false,.none]++ownMembersOf (.type "StopIteration") []) }).get? b=some o:=fun q=>AC _ (AC _ q)
 refine qBP (oe:={ cls := .type "StopIteration",data := .fields (#[.ref s.heap.objs.size,.none,.none,.none,.bool false,.none]++ownMembersOf (.type "StopIteration") []) }) ?_ (AV _ rfl) rfl (by simp [ownMembersOf]) (fun ea hea => ?_) fun h' o' sb ho' hc=>h h' _ (fun b o q => ?_) ⟨o',ho',hc⟩
 ·intro v hv
  obtain ⟨ea,oe,vs,e1,e2,e3⟩:=hn v hv
  exact ⟨ea,oe,vs,e1,up e2,e3⟩
 ·obtain ⟨ea',oe,vs,e1,e2,e3⟩:=hn _ hea
  cases e1
  exact AZ (Nat.lt_trans (AM e2) (by simp))
 ·exact (sb.2 b (AZ (Nat.lt_trans (AM q) (by simp)))).trans (up q)
theorem list_end {it l:Addr} {i:Nat} {items} {Q:Option Value->Shared->Prop} (hn:Hnd A s.heap) (z1:s.heap.IsListIter it l i) (z2:s.heap.IsList l items) (z3:items[i]? = none) (z4:∀ v,A.handled=some v->v ≠ .ref it)
  (hQ:∀ h',(∀ b o,b≠it->s.heap.get? b=some o->h'.get? b=some o)->Q none { s with heap:=h' }):wpAny (model prog w) A (pyNext (.ref it)) Q E s:=by
 obtain ⟨ob,g1,g2,g3⟩:=id z1
 obtain ⟨ol,g4,_,nl,g5⟩:=z2
 unfold pyNext
 refine AA (Bs (Ay (name:=Str.ofString "__next__") z1.typeIs slot_listiter_next (A7 slot_listiter_next z1.typeIs entry_listiter_next ?_ (args_listiter_next _))))
 change wpAny _ A.in1 (field (Value.ref it) 0 >>= _) _ _ s
 refine AA (Aq g1 g3 (x:=Value.ref l) rfl ?_)
 change wpAny _ A.in1 (if (Value.ref l==Value.none)=true then _ else _) _ _ s
 rw [AN (fun z:(Value.ref l==Value.none)=true=>BL z)]
 change wpAny _ A.in1 (field (Value.ref it) 1 >>= _) _ _ s
 refine AA (Aq g1 g3 (x:=Value.int i 0) rfl ?_)
 change wpAny _ A.in1 (seqItems? (Value.ref l) >>= _) _ _ s
 refine AA (BO g4 g5 ?_)
 simp only [BD,z3]
 refine AA (B3 (AA (BV g1 g3 (by simp) ?_)))
 refine zr (A:=A.in1) ?_ fun h' e k ht => ?_
 ·intro v hv
  obtain ⟨ea,oe,vs,e1,e2,e3⟩:=hn v hv
  refine ⟨ea,oe,vs,e1,?_,e3⟩
  have hne:ea≠it:=fun z=>z4 v hv (by rw [e1,z])
  exact (Ah _ _ (Ne.symm hne)).trans e2
 ·refine AA (BG (T := "StopIteration") (b:=true) ht Ck ?_)
  exact AB (hQ _ fun b o' hb q=>k b o' ((Ah _ _ (Ne.symm hb)).trans q))
theorem tuple_end {it l:Addr} {i:Nat} {items} {Q:Option Value->Shared->Prop} (hn:Hnd A s.heap) (z1:s.heap.IsTupleIter it l i) (z2:s.heap.IsTuple l items) (z3:items[i]? = none) (z4:∀ v,A.handled=some v->v ≠ .ref it)
  (hQ:∀ h',(∀ b o,b≠it->s.heap.get? b=some o->h'.get? b=some o)->Q none { s with heap:=h' }):wpAny (model prog w) A (pyNext (.ref it)) Q E s:=by
 obtain ⟨ob,g1,g2,g3⟩:=id z1
 obtain ⟨ol,g4,_,nl,g5⟩:=z2
 unfold pyNext
 refine AA (Bs (Ay (name:=Str.ofString "__next__") z1.typeIs BT (A7 BT z1.typeIs F.entry_tuple_iterator_next ?_ (F.args_tuple_iterator_next_1 _))))
 change wpAny _ A.in1 (field (Value.ref it) 0 >>= _) _ _ s
 refine AA (Aq g1 g3 (x:=Value.ref l) rfl ?_)
 change wpAny _ A.in1 (if (Value.ref l==Value.none)=true then _ else _) _ _ s
 rw [AN (fun z:(Value.ref l==Value.none)=true=>BL z)]
 change wpAny _ A.in1 (field (Value.ref it) 1 >>= _) _ _ s
 refine AA (Aq g1 g3 (x:=Value.int i 0) rfl ?_)
 change wpAny _ A.in1 (seqItems? (Value.ref l) >>= _) _ _ s
 refine AA (BO g4 g5 ?_)
 simp only [BD,z3]
 refine AA (B3 (AA (BV g1 g3 (by simp) ?_)))
 refine zr (A:=A.in1) ?_ fun h' e k ht => ?_
 ·intro v hv
  obtain ⟨ea,oe,vs,e1,e2,e3⟩:=hn v hv
  refine ⟨ea,oe,vs,e1,?_,e3⟩
  have hne:ea≠it:=fun z=>z4 v hv (by rw [e1,z])
  exact (Ah _ _ (Ne.symm hne)).trans e2
 ·refine AA (BG (T := "StopIteration") (b:=true) ht Ck ?_)
  exact AB (hQ _ fun b o' hb q=>k b o' ((Ah _ _ (Ne.symm hb)).trans q))
theorem range_end {it:Addr} {x left step:Int} {Q:Option Value->Shared->Prop} (hn:Hnd A s.heap) (z1:IsRangeIter s.heap it x left step) (z2:left≤0)
  (hQ:∀ h',(∀ b o,s.heap.get? b=some o->h'.get? b=some o)->Q none { s with heap:=h' }):wpAny (model prog w) A (pyNext (.ref it)) Q E s:=by
 have z0:s.TypeIs (.ref it) "range_iterator" := ⟨_,z1,rfl⟩
 unfold pyNext
 refine AA (Bs (Ay (name:=Str.ofString "__next__") z0 F.slot_range_iterator_next (A7 F.slot_range_iterator_next z0 F.entry_range_iterator_next ?_ (F.args_range_iterator_next_1 _))))
 change wpAny _ A.in1 (field (Value.ref it) 0 >>= _) _ _ s
 refine AA (Aq z1 rfl (x:=rawInt x) rfl ?_)
 change wpAny _ A.in1 (field (Value.ref it) 1 >>= _) _ _ s
 refine AA (Aq z1 rfl (x:=rawInt left) rfl ?_)
 change wpAny _ A.in1 (field (Value.ref it) 2 >>= _) _ _ s
 refine AA (Aq z1 rfl (x:=rawInt step) rfl ?_)
 change wpAny _ A.in1 (if left≤0 then _ else _) _ _ s
 rw [AG z2]
 refine AA (B3 (AA ?_))
 refine zr (A:=A.in1) hn fun h' e k ht => ?_
 refine AA (BG (T := "StopIteration") (b:=true) ht Ck ?_)
 exact AB (hQ _ k)
end
end EX
end
section
namespace L2
open PySem PySem.Spec PyProof.Rows
abbrev Key:=Sum Int Str
def qHr:Key->Value->Bool
 | .inl k,v=>Value.isInt k v
 | .inr x,v=>Value.isStrOf x v
def qLD (w:World):Key->Int
 | .inl k=>hashInt k
 | .inr x=>hashStr w x
theorem Q3:∀ {k:Key} {v:Value},qHr k v=true->(∃ i t,k=Sum.inl i∧v=Value.int i t)∨(∃ x t,k=Sum.inr x∧v=Value.str x t)
 | .inl i,v,h=>by
  obtain ⟨t,e⟩:=Value.isInt_shape (k:=i) (v:=v) h
  exact .inl ⟨i,t,rfl,e⟩
 | .inr x,v,h=>by
  obtain ⟨t,e⟩:=Value.isStrOf_shape (x:=x) (v:=v) h
  exact .inr ⟨x,t,rfl,e⟩
theorem qJI (a b:Int):decide ((Sum.inl a:Key)=Sum.inl b)=(a==b):=by
 by_cases e:a=b
 ·subst e;simp
 ·have h:¬ (Sum.inl a:Key)=Sum.inl b:=fun q=>e (Sum.inl.inj q)
  rw [Ac h]
  exact (AH.mpr e).symm
theorem qJk (a b:Str):decide ((Sum.inr a:Key)=Sum.inr b)=decide (a=b):=by
 by_cases e:a=b
 ·subst e;simp
 ·have h:¬ (Sum.inr a:Key)=Sum.inr b:=fun q=>e (Sum.inr.inj q)
  rw [Ac h,Ac e]
theorem qIe (a:Int) (b:Str):decide ((Sum.inl a:Key)=Sum.inr b)=false:=Ac (fun q=>nomatch q)
theorem qIa (a:Str) (b:Int):decide ((Sum.inr a:Key)=Sum.inl b)=false:=Ac (fun q=>nomatch q)
def Jo (prog:Program) (w:World):PySem.KeyKind prog w Key where
 is:=qHr
 hash:=qLD w
 inj:=fun v a b ha hb=>by
  rcases Q3 ha with ⟨i,t,rfl,rfl⟩ |⟨x,t,rfl,rfl⟩
  ·rcases Q3 hb with ⟨j,u,rfl,e⟩ |⟨y,u,rfl,e⟩
   ·injection e with e1 _;rw [e1]
   ·exact nomatch e
  ·rcases Q3 hb with ⟨j,u,rfl,e⟩ |⟨y,u,rfl,e⟩
   ·exact nomatch e
   ·injection e with e1 _;rw [e1]
 byValue:=fun k v h=>by
  rcases Q3 h with ⟨i,t,rfl,rfl⟩ |⟨x,t,rfl,rfl⟩ <;> rfl
 pyHash:=fun hv h=>by
  rcases Q3 hv with ⟨i,t,rfl,rfl⟩ |⟨x,t,rfl,rfl⟩
  ·exact wpAny_pyHash_int h
  ·exact wpAny_pyHash_str h
 eqBool:=fun hu hv h=>by
  rcases Q3 hu with ⟨i,t,rfl,rfl⟩ |⟨x,t,rfl,rfl⟩
  ·rcases Q3 hv with ⟨j,u,rfl,rfl⟩ |⟨y,u,rfl,rfl⟩
   ·rw [qJI] at h;exact wpAny_eqBool_int h
   ·rw [qIe] at h;exact SeqAt.EqAt.int_str i t y u _ _ _ _ h
  ·rcases Q3 hv with ⟨j,u,rfl,rfl⟩ |⟨y,u,rfl,rfl⟩
   ·rw [qIa] at h;exact SeqAt.EqAt.str_int x t j u _ _ _ _ h
   ·rw [qJk] at h;exact wpAny_eqBool_str h
 «strs» := fun k x t v h=>by
  rcases Q3 h with ⟨i,u,rfl,e⟩ |⟨y,u,rfl,e⟩
  ·exact nomatch e
  ·injection e with e1 _
   subst e1
   cases v <;> rfl
end L2
namespace L2
open PySem PySem.Spec PyProof.Rows
inductive V where
 |non |bl (b:Bool) |int (i:Int) |str (x:Str) |byt (b:Array UInt8) |flt (b:UInt64) |ref (a:Addr) |ty (n:String)
 deriving DecidableEq
def RelV:V->Value->Prop
 | .non,u=>u=Value.none
 | .bl b,u=>u=Value.bool b
 | .int i,u => ∃ t,u=Value.int i t
 | .str x,u => ∃ t,u=Value.str x t
 | .byt b,u => ∃ t,u=Value.bytes b t
 | .flt b,u => ∃ t,u=Value.float b t
 | .ref a,u=>u=Value.ref a
 | .ty n,u=>u=Value.type n
abbrev Vals:List V->List Value->Prop:=Paired RelV
theorem Vals.length {xs:List V} {us:List Value} (r:Vals xs us):xs.length=us.length:=Paired.length r
theorem Vals.get:∀ {xs:List V} {us:List Value} {i:Nat} {x:V},Vals xs us->xs[i]? = some x -> ∃ u,us[i]? = some u∧RelV x u
 |_,_,_,_,.nil,e=>by simp at e
 |_,_,0,_,.cons r _,e=>by simp at e;subst e;exact ⟨_,rfl,r⟩
 |_,_,i + 1,x,.cons _ t,e=>by
  obtain ⟨u,h1,h2⟩:=Vals.get (i:=i) (x:=x) t (by simpa using e)
  exact ⟨u,by simpa using h1,h2⟩
theorem Vals.set {x:V} {u:Value} (r:RelV x u):∀ {xs:List V} {us:List Value} (i:Nat),Vals xs us->Vals (xs.set i x) (us.set i u)
 |_,_,_,.nil => .nil
 |_,_,0,.cons _ t => .cons r t
 |_,_,i + 1,.cons q t => .cons q (Vals.set r i t)
theorem Vals.append:∀ {xs ys:List V} {us ws:List Value},Vals xs us->Vals ys ws->Vals (xs++ys) (us++ws)
 |_,_,_,_,.nil,s=>s
 |_,_,_,_,.cons r t,s => .cons r (Vals.append t s)
theorem Vals.take:∀ {xs:List V} {us:List Value} (n:Nat),Vals xs us->Vals (xs.take n) (us.take n)
 |_,_,0,_ => .nil
 |_,_,_ + 1,.nil => .nil
 |_,_,n + 1,.cons r t => .cons r (Vals.take n t)
theorem Vals.drop:∀ {xs:List V} {us:List Value} (n:Nat),Vals xs us->Vals (xs.drop n) (us.drop n)
 |_,_,0,r=>r
 |_,_,_ + 1,.nil => .nil
 |_,_,n + 1,.cons _ t=>Vals.drop n t
def qJn:Option V->Option Value->Prop
 |some v,some u=>RelV v u
 |none,none=>True
 |_,_=>False
def KV {κ:Type}:List (κ×V)->List (κ×Value)->Prop:=Paired fun (p:κ×V) (q:κ×Value)=>p.1=q.1∧RelV p.2 q.2
def kV:Key->V
 | .inl i => .int i
 | .inr x => .str x
inductive HO where
 /-- a list -/
 |lst (xs:List V)
 /-- a tuple (never changes) -/
 |tup (xs:List V)
 /-- a dict whose keys are ints and texts;one whose keys are tuples of ints and texts (the empty one is both) -/
 |dK (kvs:List (Key×V)) |dT (kvs:List (List Key×V))
 /-- a set of ints: its members,its size -/
 |set (S:Int->Bool) (n:Nat)
 /-- an instance of the class at C,its dict at dx,its attributes -/
 |ins (C dx:Addr) (fs:List (Str×V))
 /-- the dict of the instance at x -/
 |own (x:Addr)
 /-- the dict of an exception -/
 |xd (fs:List (Str×V))
 /-- a bound method,f of x -/
 |met (f x:Addr)
 /-- a range object lo,lo + 1,.. below hi -/
 |rng (lo hi:Int)
 /-- a thing that is known to the object (the script;a dict while a loop walks it): read,never written while it is so -/
 |frz (o:Obj) (u:HO)
 /-- a code object's table -/
 |tbl (ps:Array Value)
 /-- any other thing,by what is true of its one object (a def of one's own: SetO a S n:=HO.ext fun h => ..) -/
 |ext (φ:Heap->Prop)
abbrev Hp:=Addr->Option HO
def upd (H:Hp) (a:Addr) (o:HO):Hp:=fun b=>if b=a then some o else H b
theorem Qd {H:Hp} {a:Addr} {o:HO}:upd H a o a=some o:=by unfold upd;rw [AG rfl]
theorem qU {H:Hp} {a b:Addr} {o:HO} (h:b≠a):upd H a o b=H b:=by unfold upd;rw [AN h]
theorem qQ {H:Hp} {a b:Addr} {o:HO} (h:H a=some o) (h':H b=none):a≠b:=by
 intro e;subst e;rw [h] at h';cases h'
section
variable (P:Program) (w:World)
def ObjOk (H:Hp) (h:Heap) (a:Addr):HO->Prop
 | .lst xs=>xs.length≤sizeLine ∧ ∃ (its:List Value) (n:Nat),Vals xs its∧h.get? a=some { cls := .type "list",data := .seq its.toArray n }
 | .tup xs=>xs.length≤sizeLine ∧ ∃ its:List Value,Vals xs its∧IsTup h a its.toArray
 | .dK kvs=>kvs.length≤sizeLine∧(a==sysModules)=false ∧ ∃ vs,KV kvs vs∧h.DictOf (Jo P w) a vs
 | .dT kvs=>kvs.length≤sizeLine∧(a==sysModules)=false ∧ ∃ xs:List (List Key×Addr×Value),
   Paired (fun (p:List Key×V) (q:List Key×Addr×Value)=>p.1=q.1∧H q.2.1=some (.tup (p.1.map kV))∧RelV p.2 q.2.2) kvs xs ∧
   ∃ o es ep,h.get? a=some o∧o.ExactDict∧o.data = .dict es ep∧es.toList=xs.map (entryOfKey (tupleKind (Jo P w)))∧(xs.map (·.1)).Nodup
 | .set S n=>h.SetOf (intKind P w) a S n
 | .ins C dx fs=>H dx=some (.own a)∧fs.length≤1000∧dx≠a∧h.get? a=some (W.instObj C dx) ∧
   ∃ mA,h.Ns1 dx mA∧(∀ f,qJn (fs.lookup f) (mA f))∧PySem.Within mA (fs.map (·.1))
 | .own _ => ∃ o,h.get? a=some o
 | .xd fs => ∃ mA,h.Ns1 a mA ∧ ∀ f,qJn (fs.lookup f) (mA f)
 | .rng lo hi => ∃ t u v,h.get? a=some { cls := .type "range",data := .fields #[.int lo t,.int hi u,.int 1 v] }
 | .frz o u=>h.get? a=some o∧ObjOk H h a u
 | .tbl ps=>h.get? a=some { cls := .none,data := .fields ps }
 | .met f x=>h.get? a=some (W.methodObj (.ref f) (.ref x))
 | .ext φ=>φ h∧(∃ o,h.get? a=some o) ∧ ∀ h1 h2:Heap,φ h1->(∀ o,h1.get? a=some o->h2.get? a=some o)->φ h2
def HOk (H:Hp) (h:Heap):Prop := ∀ a o,H a=some o->ObjOk P w H h a o
end
section
variable {P:Program} {w:World} {H H':Hp} {h h':Heap} {a:Addr} {o:HO}
theorem ObjOk.lt (x:ObjOk P w H h a o):a < h.objs.size:=by
 cases o with
 |lst xs=>obtain ⟨_,_,_,_,e⟩:=x;exact AM e
 |tup xs=>obtain ⟨_,_,_,p⟩:=x;exact p.lt
 |dK kvs=>obtain ⟨_,_,_,_,o,_,_,e,_⟩:=x;exact AM e
 |dT kvs=>obtain ⟨_,_,_,_,o,_,_,e,_⟩:=x;exact AM e
 |set S n=>obtain ⟨o,_,_,_,e,_⟩:=x;exact AM e
 |ins C dx fs=>obtain ⟨_,_,_,e,_⟩:=x;exact AM e
 |own y=>obtain ⟨_,e⟩:=x;exact AM e
 |xd fs=>obtain ⟨_,⟨_,_,_,e,_⟩,_⟩:=x;exact AM e
 |rng lo hi=>obtain ⟨_,_,_,e⟩:=x;exact AM e
 |frz ob u=>obtain ⟨e,_⟩:=x;exact AM e
 |tbl ps=>exact AM (show h.get? a=some _ from x)
 |met f y=>exact AM (show h.get? a=some _ from x)
 |ext φ=>obtain ⟨_,⟨_,e⟩,_⟩:=x;exact AM e
theorem Paired.mapP {α β:Type} {F G:α->β->Prop}:∀ {l₁:List α} {l₂:List β},Paired F l₁ l₂->(∀ a b,F a b->G a b)->Paired G l₁ l₂
 |_,_,.nil,_ => .nil
 |_,_,.cons r t,f => .cons (f _ _ r) (Paired.mapP t f)
theorem ObjOk.stay (x:ObjOk P w H h a o) (k:∀ b u,(b=a∨H b=some (.own a))->h.get? b=some u->h'.get? b=some u)
  (ho:∀ b,H b=some (.own a)->H' b=some (.own a)) (ht:∀ b xs,H b=some (.tup xs)->H' b=some (.tup xs)):ObjOk P w H' h' a o:=by
 induction o with
 |lst xs=>obtain ⟨z,its,n,r,e⟩:=x;exact ⟨z,its,n,r,k _ _ (.inl rfl) e⟩
 |tup xs=>obtain ⟨z,its,r,ob,e,c⟩:=x;exact ⟨z,its,r,ob,k _ _ (.inl rfl) e,c⟩
 |dK kvs=>obtain ⟨z,y,vs,r,ob,es,ep,e,c⟩:=x;exact ⟨z,y,vs,r,ob,es,ep,k _ _ (.inl rfl) e,c⟩
 |dT kvs =>
  obtain ⟨z,y,xs,r,ob,es,ep,e,c⟩:=x
  exact ⟨z,y,xs,Paired.mapP r fun p q z=>⟨z.1,ht _ _ z.2.1,z.2.2⟩,ob,es,ep,k _ _ (.inl rfl) e,c⟩
 |set S n=>obtain ⟨ob,es,ep,t,e,c⟩:=x;exact ⟨ob,es,ep,t,k _ _ (.inl rfl) e,c⟩
 |ins C dx fs =>
  obtain ⟨d,z,ne,e,mA,⟨od,es,ep,e2,c⟩,r⟩:=x
  exact ⟨ho _ d,z,ne,k _ _ (.inl rfl) e,mA,⟨od,es,ep,k _ _ (.inr d) e2,c⟩,r⟩
 |own y=>obtain ⟨ob,e⟩:=x;exact ⟨ob,k _ _ (.inl rfl) e⟩
 |xd fs=>obtain ⟨mA,⟨od,es,ep,e,c⟩,r⟩:=x;exact ⟨mA,⟨od,es,ep,k _ _ (.inl rfl) e,c⟩,r⟩
 |rng lo hi=>obtain ⟨t,u,v,e⟩:=x;exact ⟨t,u,v,k _ _ (.inl rfl) e⟩
 |frz ob u ih=>obtain ⟨e,q⟩:=x;exact ⟨k _ _ (.inl rfl) e,ih q⟩
 |tbl ps =>
  have e:h.get? a=some { cls := .none,data := .fields ps }:=x
  show h'.get? a=some { cls := .none,data := .fields ps }
  exact k a _ (.inl rfl) e
 |met f y =>
  have e:h.get? a=some (W.methodObj (.ref f) (.ref y)):=x
  show h'.get? a=some (W.methodObj (.ref f) (.ref y))
  exact k a _ (.inl rfl) e
 |ext φ=>obtain ⟨p,⟨o,e⟩,st⟩:=x;exact ⟨st _ _ p fun o q=>k _ _ (.inl rfl) q,⟨o,k _ _ (.inl rfl) e⟩,st⟩
theorem HOk.lt (x:HOk P w H h) (e:H a=some o):a < h.objs.size:=(x a o e).lt
theorem HOk.fresh (x:HOk P w H h) (e:h.objs.size≤a):H a=none:=by
 cases q:H a with
 |none=>rfl
 |some u=>exact absurd (As (x.lt q) e) (BZ _)
theorem HOk.kept (x:HOk P w H h) (k:∀ b u,h.get? b=some u->h'.get? b=some u):HOk P w H h':=fun a o e =>
 (x a o e).stay (fun b u _ q=>k b u q) (fun _ q=>q) fun _ _ q=>q
theorem HOk.laid (x:HOk P w H h) (k:∀ b u,h.get? b=some u->h'.get? b=some u) (hp:h.objs.size≤a) (new:ObjOk P w (upd H a o) h' a o):HOk P w (upd H a o) h':=fun b u e=>by
 have hn:=x.fresh hp
 by_cases hb:b=a
 ·subst hb;rw [Qd] at e;cases e;exact new
 ·rw [qU hb] at e
  exact (x b u e).stay (fun c v _ q=>k c v q) (fun c q=>by rw [qU (qQ q hn)];exact q) fun c xs q=>by rw [qU (qQ q hn)];exact q
end
def Rd (H:Hp) (a:Addr) (u:HO):Prop:=H a=some u ∨ ∃ o,H a=some (.frz o u)
theorem Rd.ok {P:Program} {w:World} {H:Hp} {h:Heap} {a:Addr} {u:HO} (r:Rd H a u) (x:HOk P w H h):ObjOk P w H h a u:=by
 rcases r with r |⟨o,r⟩
 ·exact x a u r
 ·obtain ⟨_,q⟩:=x a _ r
  exact q
def Mut:Option HO->Prop
 |some (.lst _)=>True
 |some (.dK _)=>True
 |some (.dT _)=>True
 |some (.set _ _)=>True
 |some (.ins _ _ _)=>True
 |some (.ext _)=>True
 |_=>False
section
variable {P:Program} {w:World} {H:Hp} {h h':Heap} {x e:Addr} {o':HO}
theorem HOk.write (ok:HOk P w H h) (mu:Mut (H x)) (he:e=x∨H e=some (.own x)) (k:∀ b u,b≠e->h.get? b=some u->h'.get? b=some u) (heo:∃ u,h'.get? e=some u)
  (new:ObjOk P w (upd H x o') h' x o'):HOk P w (upd H x o') h':=fun b u q=>by
 have nown:∀ c y,H c=some (.own y)->c≠x:=fun c y r z=>by subst z;rw [r] at mu;exact mu
 have ntup:∀ c xs,H c=some (.tup xs)->c≠x:=fun c xs r z=>by subst z;rw [r] at mu;exact mu
 by_cases hb:b=x
 ·subst hb;rw [Qd] at q;cases q;exact new
 ·rw [qU hb] at q
  by_cases hbe:b=e
  ·have q':H b=some (.own x):=by
    rcases he with z |z
    ·exact absurd (hbe.trans z) hb
    ·rw [hbe];exact z
   rw [q] at q';cases q'
   obtain ⟨v,hv⟩:=heo
   exact ⟨v,by rw [hbe];exact hv⟩
  ·refine (ok b u q).stay (fun c v hc r=>k c v ?_ r) (fun c r=>by rw [qU (nown c b r)];exact r) fun c xs r=>by rw [qU (ntup c xs r)];exact r
   rcases hc with rfl |hc
   ·exact hbe
   ·rintro rfl
    rcases he with z |z
    ·exact nown c b hc z
    ·rw [hc] at z;cases z;exact hb rfl
end
structure Un (fs ex:List Addr) (H H':Hp) (h h':Heap):Prop where
 keep:∀ b o,h.get? b=some o->H b=none->b ∉ fs->b ∉ ex->h'.get? b=some o
 slot:∀ b o,h.get? b=some o->H b=none->b∈fs->b ∉ ex -> ∃ sl,h'.get? b=some { o with slots:=sl }
 free:∀ b o,h.get? b=some o->H b=none->b ∉ ex->H' b=none
 there:∀ b o,h.get? b=some o->b ∉ ex -> ∃ o',h'.get? b=some o'
 tups:∀ b xs,H b=some (.tup xs)->H' b=some (.tup xs)
 frzs:∀ b o u,H b=some (.frz o u)->H' b=some (.frz o u)
 tbls:∀ b ps,H b=some (.tbl ps) -> ∃ more,H' b=some (.tbl (ps++more))
section
variable {fs fs' ex ex':List Addr} {H H1 H2:Hp} {h h1 h2 h':Heap} {a x e:Addr} {o:HO}
theorem Un.any (u:Un fs ex H H1 h h1) {b:Addr} {ob:Obj} (q:h.get? b=some ob) (n:H b=none) (hx:b ∉ ex):∃ sl,h1.get? b=some { ob with slots:=sl }:=by
 by_cases hb:b∈fs
 ·exact u.slot b ob q n hb hx
 ·exact ⟨ob.slots,u.keep b ob q n hb hx⟩
theorem Un.kept (k:∀ b u,h.get? b=some u->h'.get? b=some u):Un fs ex H H h h' :=
 ⟨fun b ob q _ _ _=>k b ob q,fun b ob q _ _ _=>⟨ob.slots,k b ob q⟩,fun _ _ _ n _=>n,fun b ob q _=>⟨ob,k b ob q⟩,fun _ _ q=>q,fun _ _ _ q=>q,fun _ ps q=>⟨#[],by rw [q];simp⟩⟩
theorem Un.refl:Un fs ex H H h h:=Un.kept fun _ _ q=>q
theorem Un.laid (k:∀ b u,h.get? b=some u->h'.get? b=some u) (hp:h.objs.size≤a) (hn:H a=none):Un fs ex H (upd H a o) h h' where
 keep:=fun b u q _ _ _=>k b u q
 slot:=fun b u q _ _ _=>⟨u.slots,k b u q⟩
 free:=fun b u q n _=>by rw [qU (AZ (As (AM q) hp))];exact n
 there:=fun b u q _=>⟨u,k b u q⟩
 tups:=fun b xs q=>by rw [qU (qQ q hn)];exact q
 frzs:=fun b u xs q=>by rw [qU (qQ q hn)];exact q
 tbls:=fun b ps q=>⟨#[],by rw [qU (qQ q hn),q];simp⟩
theorem Un.write (mu:Mut (H x)) (he:e=x∨H e=some (.own x)) (k:∀ b u,b≠e->h.get? b=some u->h'.get? b=some u) (heo:∃ u,h'.get? e=some u):Un fs ex H (upd H x o) h h':=by
 have hx:∀ b,H b=none->b≠x:=fun b n z=>by subst z;rw [n] at mu;exact mu
 have hb:∀ b,H b=none->b≠e:=fun b n z=>by
  subst z
  rcases he with r |r
  ·exact hx b n r
  ·rw [n] at r;cases r
 have hm:∀ b u,H b=some u -> ¬ Mut (some u)->b≠x:=fun b u q nm z=>by subst z;rw [q] at mu;exact nm mu
 refine ⟨fun b u q n _ _=>k b u (hb b n) q,fun b u q n _ _=>⟨u.slots,k b u (hb b n) q⟩,fun b u q n _=>by rw [qU (hx b n)];exact n,fun b u q _ => ?_,
  fun b xs q=>by rw [qU (hm b _ q fun z=>z)];exact q,fun b u xs q=>by rw [qU (hm b _ q fun z=>z)];exact q,fun b ps q=>⟨#[],by rw [qU (hm b _ q fun z=>z),q];simp⟩⟩
 by_cases hbe:b=e
 ·subst hbe;exact heo
 ·exact ⟨u,k b u hbe q⟩
end
def trk (h:Heap) (H:Hp):List Addr:=(List.range h.objs.size).filter fun a=>(H a).isSome
def Jg (h:Heap) (H:Hp):Heap:=W.hideAll h (trk h H)
theorem qDt (h:Heap) (H:Hp):(Jg h H).objs.size=h.objs.size:=W.hideAll_size _ _
theorem qD5 {h:Heap} {H:Hp} {b:Addr} {o:Obj} (e:h.get? b=some o) (n:H b=none):(Jg h H).get? b=some o :=
 W.hideAll_get _ e fun hm=>by
  have q:(H b).isSome=true:=(List.mem_filter.mp hm).2
  rw [n] at q;simp at q
theorem qGL {h:Heap} {H:Hp} {b:Addr} {o:Obj} (e:(Jg h H).get? b=some o):h.get? b=some o∧H b=none:=by
 have e':h.get? b=some o:=W.of_hideAll (trk h H) e
 refine ⟨e',?_⟩
 cases q:H b with
 |none=>rfl
 |some x =>
  have hm:b∈trk h H:=List.mem_filter.mpr ⟨BW.mpr (AM e'),by simp [q]⟩
  have z:(Jg h H).get? b=none:=W.hideAll_none (trk h H) hm
  rw [z] at e;cases e
end L2
namespace L2
open PySem PySem.Spec PyProof.Rows
structure Mod (K:W.Frag) (mg:Str->Option Value) (base:Heap):Prop where
 kin:K.In base
 glob:base.Ns mainGlobals mg
 blt:∃ mb,base.Ns builtinsNs mb ∧ ∀ x:Str,x ≠ "__name__" -> mb x=bootBuiltins x
 nolimit:base.NoLimit
structure Cx where
 prog:Program
 w:World
 K:W.Frag
 mg:Str->Option Value
 base:Heap
 A:Around
 N:List Str
 s₀:Shared
 H₀:Hp
 env:Env
 outer:List Env
 stack:List Env
 ex:List Addr
 fn:Str->Bool
 calm:Bool
 pn:List (Addr×Obj)
 xe:Value->Shared->Prop
def frs (l:List Env):List Addr:=l.filterMap (·.frame)
abbrev Cx.fs (X:Cx):List Addr:=frs X.outer
def Vis (sc:Scope) (x:Str):Prop:=sc.names.lookup x=some .local∨sc.names.lookup x=some .cell∨sc.names.lookup x=some .free
def Loc (sc:Scope) (x:Str):Prop:=sc.names.lookup x=some .local∨sc.names.lookup x=some .cell
def qJ0 (env:Env) (h:Heap) (m:Str->Option Value) (x:Str) (u:Value):Prop :=
 (env.kindOf x=some .local∧m x=some u)∨((env.kindOf x=some .cell∨env.kindOf x=some .free) ∧ ∃ c,env.cells.lookup x=some c∧h.IsCell c (some u))
structure Cx.Ok (X:Cx):Prop where
 mod:Mod X.K X.mg X.base
 kind:X.env.scope.kind = .function
 glob:X.env.globals=mainGlobals
 blt:X.env.builtins=builtinsNs
 above:X.s₀.heap.objs.size≤X.env.locals
 inj:∀ x y c,X.env.cells.lookup x=some c->X.env.cells.lookup y=some c->x=y
 has:∀ x,(X.env.kindOf x=some .cell∨X.env.kindOf x=some .free) -> ∃ c,X.env.cells.lookup x=some c
 cab:∀ x c,X.fn x=true->X.env.cells.lookup x=some c->X.s₀.heap.objs.size≤c
 hd:X.calm=true->X.A.handled=none
 frames:X.A.frames=some X.stack
 stk:X.stack=X.outer∨(X.stack=X.env::X.outer∧X.env.frame=some X.env.locals)
 exf:∀ b∈X.ex,b≠X.env.locals ∧ ∀ x c,X.env.cells.lookup x=some c->c≠b
 bs:∀ b o,X.base.get? b=some o->X.s₀.heap.get? b=some o∧X.H₀ b=none
 bsz:X.base.objs.size≤X.s₀.heap.objs.size
 noex:∀ b o,X.base.get? b=some o->b ∉ X.ex
 exfs:∀ b∈X.ex,b ∉ X.fs
 funs:X.s₀.heap.FunFrames X.base X.outer
 frf:∀ b∈X.fs,X.H₀ b=none
def HndH (A:Around) (H:Hp):Prop := ∀ v,A.handled=some v -> ∃ ea oe u vs,v=Value.ref ea∧H ea=some (.frz oe u)∧oe.data = .fields vs∧vs[2]? = some .none
theorem HndH.none {A:Around} {H:Hp} (h:A.handled=none):HndH A H:=fun v e=>by rw [h] at e;cases e
structure Inv (X:Cx) (pins:List (Addr×Obj)) (σ:List (Option V)) (H:Hp) (s:Shared):Prop where
 ok:X.Ok
 os:s.os=X.s₀.os
 bare:AllBare s.gens
 base:Un X.fs X.ex X.H₀ H X.s₀.heap s.heap
 loc:∃ m,s.heap.Ns X.env.locals m ∧ ∀ (i:Nat) (x:Str) (v:V),X.N[i]? = some x->σ[i]? = some (some v)->Vis X.env.scope x -> ∃ u,RelV v u∧qJ0 X.env s.heap m x u
 cell:∀ x c,X.env.cells.lookup x=some c -> ∃ v,s.heap.IsCell c v
 free:H X.env.locals=none
 freeC:∀ x c,X.env.cells.lookup x=some c->H c=none
 pin:∀ p∈X.pn++pins,s.heap.get? p.1=some p.2∧H p.1=none∧p.1≠X.env.locals∧p.1 ∉ X.fs ∧ ∀ v,p.2.data ≠ .cell v
 hok:HOk X.prog X.w H s.heap
 len:σ.length=X.N.length
 hnd:HndH X.A H
section
variable {X:Cx} {pins:List (Addr×Obj)} {σ:List (Option V)} {H H':Hp} {s:Shared} {h':Heap}
theorem Cx.Ok.nofr (ok:X.Ok) {b:Addr} {o:Obj} (e:X.base.get? b=some o):b ∉ X.fs:=fun hb=>by
 have:=(ok.funs.mem hb).1
 rw [e] at this;cases this
theorem Inv.bs (I:Inv X pins σ H s):∀ b o,X.base.get? b=some o->s.heap.get? b=some o∧H b=none:=fun b o e =>
 ⟨I.base.keep b o (I.ok.bs b o e).1 (I.ok.bs b o e).2 (I.ok.nofr e) (I.ok.noex b o e),I.base.free b o (I.ok.bs b o e).1 (I.ok.bs b o e).2 (I.ok.noex b o e)⟩
theorem Inv.bk (I:Inv X pins σ H s):∀ b o,X.base.get? b=some o->s.heap.get? b=some o:=fun b o e=>(I.bs b o e).1
theorem Inv.mod (I:Inv X pins σ H s):Mod X.K X.mg X.base:=I.ok.mod
theorem Inv.kIn (I:Inv X pins σ H s):X.K.In s.heap:=I.ok.mod.kin.keeps I.bk
theorem Inv.lt (I:Inv X pins σ H s):X.env.locals < s.heap.objs.size:=let ⟨_,hn,_⟩:=I.loc;hn.lt
theorem Inv.sz (I:Inv X pins σ H s):X.s₀.heap.objs.size≤s.heap.objs.size:=Aa I.ok.above (Ch I.lt)
theorem Inv.nofs (I:Inv X pins σ H s) {a:Addr} (h:s.heap.objs.size≤a):a ∉ X.fs:=fun hb=>by
 obtain ⟨_,o,ho,_⟩:=I.ok.funs.mem hb
 exact absurd (As (AM ho) (Aa I.sz h)) (BZ _)
theorem Inv.cne (I:Inv X pins σ H s):∀ x c,X.env.cells.lookup x=some c->c≠X.env.locals:=fun x c e z=>by
 obtain ⟨v,o,ho,hd⟩:=I.cell x c e
 obtain ⟨m,⟨o',es,ep,ho',hd',_⟩,_⟩:=I.loc
 rw [z,ho'] at ho;cases ho;rw [hd'] at hd;cases hd
theorem Inv.funs (I:Inv X pins σ H s):s.heap.FunFrames X.base X.outer:=by
 have all:∀ (l:List Env),(∀ b∈frs l,b∈X.fs)->X.s₀.heap.FunFrames X.base l->s.heap.FunFrames X.base l:=by
  intro l
  induction l with
  |nil=>intro _ _;trivial
  |cons env r ih =>
   intro hs hl
   obtain ⟨hk,⟨L,o,hf,hn,ho,hd⟩,hr⟩:=hl
   have hL:L∈X.fs:=hs L (by unfold frs;rw [BH,hf];exact AI)
   obtain ⟨sl,e⟩:=I.base.slot L o ho (I.ok.frf L hL) hL fun z=>I.ok.exfs L z hL
   exact ⟨hk,⟨L,_,hf,hn,e,hd⟩,ih (fun b hb=>hs b (by unfold frs;rw [BH,hf];exact AD _ hb)) hr⟩
 exact all X.outer (fun _ hb=>hb) I.ok.funs
theorem Inv.stack (I:Inv X pins σ H s):s.heap.FunFrames X.base X.stack:=by
 rcases I.ok.stk with e |⟨e,hf⟩
 ·rw [e];exact I.funs
 ·rw [e]
  obtain ⟨m,hn,_⟩:=I.loc
  refine .cons (by rw [I.ok.kind];decide) hf hn ?_ I.funs
  exact Heap.get?_none_of_le (Aa I.ok.bsz I.ok.above)
theorem Inv.stkSub (I:Inv X pins σ H s):∀ b∈frs X.stack,b∈X.env.locals::X.fs:=fun b hb=>by
 rcases I.ok.stk with e |⟨e,hf⟩
 ·rw [e] at hb;exact AD _ hb
 ·rw [e] at hb
  unfold frs at hb
  rw [BH,hf] at hb
  exact hb
theorem Inv.stkFree (I:Inv X pins σ H s):∀ b∈frs X.stack,H b=none:=fun b hb=>by
 rcases AJ.mp (I.stkSub b hb) with e |hb
 ·rw [e];exact I.free
 ·obtain ⟨_,o,ho,_⟩:=I.ok.funs.mem hb
  exact I.base.free b o ho (I.ok.frf b hb) fun z=>I.ok.exfs b z hb
theorem Inv.step {g':Array GenState} {t':Nat} {d':Drawn} {ch:List Addr} (I:Inv X pins σ H s)
  (hch:∀ b∈ch,(b∈X.ex∨X.s₀.heap.objs.size≤b)∧b≠X.env.locals∧(∀ x c,X.env.cells.lookup x=some c->c≠b) ∧ ∀ p∈X.pn++pins,p.1≠b)
  (keep:∀ b o,b≠X.env.locals->b ∉ X.fs->b ∉ ch->s.heap.get? b=some o->H b=none->h'.get? b=some o)
  (slot:∀ b o,b≠X.env.locals->b∈X.fs->b ∉ ch->s.heap.get? b=some o->H b=none -> ∃ sl,h'.get? b=some { o with slots:=sl }) (free:∀ b o,b ∉ ch->s.heap.get? b=some o->H b=none->H' b=none)
  (there:∀ b o,b ∉ ch->s.heap.get? b=some o -> ∃ o',h'.get? b=some o')
  (tups:∀ b xs,H b=some (.tup xs)->H' b=some (.tup xs)) (frzs:∀ b o u,H b=some (.frz o u)->H' b=some (.frz o u)) (tbls:∀ b ps,H b=some (.tbl ps) -> ∃ more,H' b=some (.tbl (ps++more)))
  (ns:∀ m,s.heap.Ns X.env.locals m->h'.Ns X.env.locals m) (hok:HOk X.prog X.w H' h') (hg:AllBare g') :
  Inv X pins σ H' { s with heap:=h',gens:=g',drawn:=d',toks:=t' }:=by
 have neL:∀ b o,X.s₀.heap.get? b=some o->b≠X.env.locals:=fun b o e=>AZ (As (AM e) I.ok.above)
 have neC:∀ b o,X.s₀.heap.get? b=some o->b ∉ X.ex->b ∉ ch:=fun b o e hx hb=>by
  rcases (hch b hb).1 with z |z
  ·exact hx z
  ·exact absurd (As (AM e) z) (BZ _)
 have cellK:∀ x c,X.env.cells.lookup x=some c -> ∀ v,s.heap.IsCell c v->h'.IsCell c v:=fun x c e v ⟨o,ho,hd⟩=>by
  have nch:c ∉ ch:=fun z=>(hch c z).2.2.1 x c e rfl
  by_cases hc:c∈X.fs
  ·obtain ⟨sl,q⟩:=slot c o (I.cne x c e) hc nch ho (I.freeC x c e)
   exact ⟨_,q,hd⟩
  ·exact ⟨o,keep c o (I.cne x c e) hc nch ho (I.freeC x c e),hd⟩
 refine ⟨I.ok,I.os,hg,⟨fun b o e n hb hx => ?_,fun b o e n hb hx => ?_,fun b o e n hx => ?_,fun b o e hx => ?_,fun b xs e=>tups b xs (I.base.tups b xs e),fun b o xs e=>frzs b o xs (I.base.frzs b o xs e),fun b ps e => ?_⟩,?_,fun x c e => ?_,?_,fun x c e => ?_,fun p hp => ?_,hok,I.len,fun v hv=>(let ⟨ea,oe,u,vs,e1,e2,e3⟩:=I.hnd v hv;⟨ea,oe,u,vs,e1,frzs _ _ _ e2,e3⟩)⟩
 ·exact keep b o (neL b o e) hb (neC b o e hx) (I.base.keep b o e n hb hx) (I.base.free b o e n hx)
 ·obtain ⟨sl,e1⟩:=I.base.slot b o e n hb hx
  obtain ⟨sl',e2⟩:=slot b _ (neL b o e) hb (neC b o e hx) e1 (I.base.free b o e n hx)
  exact ⟨sl',e2⟩
 ·obtain ⟨o',e1⟩:=I.base.there b o e hx
  exact free b o' (neC b o e hx) e1 (I.base.free b o e n hx)
 ·obtain ⟨o',e1⟩:=I.base.there b o e hx
  exact there b o' (neC b o e hx) e1
 ·obtain ⟨m1,e1⟩:=I.base.tbls b ps e
  obtain ⟨m2,e2⟩:=tbls b _ e1
  exact ⟨m1++m2,by rw [e2,Array.append_assoc]⟩
 ·obtain ⟨m,hn,hl⟩:=I.loc
  refine ⟨m,ns m hn,fun i x v e1 e2 e3 => ?_⟩
  obtain ⟨u,r,l⟩:=hl i x v e1 e2 e3
  refine ⟨u,r,?_⟩
  rcases l with l |⟨k,c,e,z⟩
  ·exact .inl l
  ·exact .inr ⟨k,c,e,cellK x c e _ z⟩
 ·obtain ⟨v,z⟩:=I.cell x c e
  exact ⟨v,cellK x c e v z⟩
 ·obtain ⟨m,⟨o,_,_,ho,_⟩,_⟩:=I.loc
  exact free _ o (fun z=>(hch _ z).2.1 rfl) ho I.free
 ·obtain ⟨v,o,ho,hd⟩:=I.cell x c e
  exact free c o (fun z=>(hch c z).2.2.1 x c e rfl) ho (I.freeC x c e)
 ·obtain ⟨e,n,ne,nf,d⟩:=I.pin p hp
  have nch:p.1 ∉ ch:=fun z=>(hch p.1 z).2.2.2 p hp rfl
  exact ⟨keep p.1 p.2 ne nf nch e n,free p.1 p.2 nch e n,ne,nf,d⟩
theorem Inv.un {t':Nat} (I:Inv X pins σ H s) (u:Un X.fs [] H H' s.heap h') (hok:HOk X.prog X.w H' h'):Inv X pins σ H' { s with heap:=h',toks:=t' }:=by
 obtain ⟨m,⟨o,es,ep,ho,r⟩,_⟩:=id I.loc
 obtain ⟨sl,hL⟩:=u.any ho I.free (by simp)
 exact I.step (g':=s.gens) (d':=s.drawn) (ch:=[]) (fun _ z=>nomatch z) (fun b o _ hb _ e n=>u.keep b o e n hb (by simp)) (fun b o _ hb _ e n=>u.slot b o e n hb (by simp)) (fun b o _ e n=>u.free b o e n (by simp)) (fun b o _ e=>u.there b o e (by simp)) u.tups u.frzs u.tbls (fun m' hm=>by
  obtain ⟨o',es',ep',ho',r'⟩:=hm
  rw [ho] at ho';cases ho'
  exact ⟨_,es',ep',hL,r'⟩) hok I.bare
theorem Inv.call {g':Array GenState} {t':Nat} {d':Drawn} {ch:List Addr} (I:Inv X pins σ H s) (u:Un (frs X.stack) ch H H' s.heap h') (hok:HOk X.prog X.w H' h') (hg:AllBare g')
  (hch:∀ b∈ch,(b∈X.ex∨X.s₀.heap.objs.size≤b)∧b≠X.env.locals∧(∀ x c,X.env.cells.lookup x=some c->c≠b) ∧ ∀ p∈X.pn++pins,p.1≠b) :
  Inv X pins σ H' { s with heap:=h',gens:=g',drawn:=d',toks:=t' }:=by
 obtain ⟨m,⟨o,es,ep,ho,r⟩,_⟩:=id I.loc
 obtain ⟨sl,hL⟩:=u.any ho I.free fun z=>(hch _ z).2.1 rfl
 exact I.step (ch:=ch) hch (fun b o hL hb hc e n=>u.keep b o e n (fun z=>(AJ.mp (I.stkSub b z)).elim hL hb) hc) (fun b o _ _ hc e n=>u.any e n hc) (fun b o hc e n=>u.free b o e n hc) (fun b o hc e=>u.there b o e hc) u.tups u.frzs u.tbls (fun m' hm=>by
  obtain ⟨o',es',ep',ho',r'⟩:=hm
  rw [ho] at ho';cases ho'
  exact ⟨_,es',ep',hL,r'⟩) hok hg
theorem Inv.turned {t':Nat} {it:Addr} (I:Inv X pins σ H s) (k:∀ b o,b≠it->s.heap.get? b=some o->h'.get? b=some o) (hn:H it=none) (hL:it≠X.env.locals)
  (h1:it∈X.ex∨X.s₀.heap.objs.size≤it) (h2:∀ x c,X.env.cells.lookup x=some c->c≠it) (h3:∀ p∈X.pn++pins,p.1≠it):Inv X pins σ H { s with heap:=h',toks:=t' }:=by
 have nit:∀ b u,H b=some u->b≠it:=fun b u e z=>by rw [z,hn] at e;cases e
 refine I.step (g':=s.gens) (d':=s.drawn) (ch:=[it]) (fun b hb => ?_) (fun b o _ _ hc e _=>k b o (fun z=>hc (by simp [z])) e) (fun b o _ _ hc e _=>⟨o.slots,k b o (fun z=>hc (by simp [z])) e⟩) (fun _ _ _ _ n=>n)
  (fun b o hc e=>⟨o,k b o (fun z=>hc (by simp [z])) e⟩) (fun _ _ e=>e) (fun _ _ _ e=>e) (fun b ps e=>⟨#[],by rw [e];simp⟩) (fun m hm => ?_) (fun b u e => ?_) I.bare
 ·have e:b=it:=by simpa using hb
  subst e
  exact ⟨h1,hL,h2,h3⟩
 ·obtain ⟨o,es,ep,ho,r⟩:=hm
  exact ⟨o,es,ep,k _ o (Ne.symm hL) ho,r⟩
 ·refine (I.hok b u e).stay (fun c v hc q=>k c v ?_ q) (fun _ q=>q) fun _ _ q=>q
  rcases hc with z |z
  ·rw [z];exact nit b u e
  ·exact nit c _ z
theorem Inv.tok (I:Inv X pins σ H s) (t:Nat):Inv X pins σ H { s with toks:=t }:=I.un (h':=s.heap) (t':=t) Un.refl I.hok
theorem Inv.kept {t':Nat} (I:Inv X pins σ H s) (k:∀ b u,s.heap.get? b=some u->h'.get? b=some u):Inv X pins σ H { s with heap:=h',toks:=t' }:=I.un (Un.kept k) (I.hok.kept k)
theorem Inv.laid {a:Addr} {o:HO} {t':Nat} (I:Inv X pins σ H s) (k:∀ b u,s.heap.get? b=some u->h'.get? b=some u) (hp:s.heap.objs.size≤a) (new:ObjOk X.prog X.w (upd H a o) h' a o) :
  Inv X pins σ (upd H a o) { s with heap:=h',toks:=t' }:=I.un (Un.laid k hp (I.hok.fresh hp)) (I.hok.laid k hp new)
theorem Inv.write {x e:Addr} {o:HO} {t':Nat} (I:Inv X pins σ H s) (mu:Mut (H x)) (he:e=x∨H e=some (.own x)) (k:∀ b u,b≠e->s.heap.get? b=some u->h'.get? b=some u) (heo:∃ u,h'.get? e=some u)
  (new:ObjOk X.prog X.w (upd H x o) h' x o):Inv X pins σ (upd H x o) { s with heap:=h',toks:=t' }:=I.un (Un.write mu he k heo) (I.hok.write mu he k heo new)
theorem Inv.pins_of {pins':List (Addr×Obj)} (I:Inv X pins σ H s) (h:∀ p∈pins',s.heap.get? p.1=some p.2∧H p.1=none∧p.1≠X.env.locals∧p.1 ∉ X.fs ∧ ∀ v,p.2.data ≠ .cell v):Inv X pins' σ H s :=
 ⟨I.ok,I.os,I.bare,I.base,I.loc,I.cell,I.free,I.freeC,fun p hp=>(Ar.mp hp).elim (fun z=>I.pin p (List.mem_append_left _ z)) (h p),I.hok,I.len,I.hnd⟩
theorem Yt {N:List Str} (hN:N.Nodup) {i j:Nat} {x:Str} (a:N[i]? = some x) (b:N[j]? = some x):i=j:=by
 obtain ⟨h1,e1⟩:=AQ.mp a
 obtain ⟨h2,e2⟩:=AQ.mp b
 exact (List.getElem_inj hN).mp (e1.trans e2.symm)
theorem qDn {M:Model} {A:Around} {E:Value->Shared->Prop} {i:Nat} {x:Str} {v:V} {u:Value} {Q:Unit->Shared->Prop} (I:Inv X pins σ H s) (hN:X.N.Nodup) (hi:X.N[i]? = some x) (hx:Loc X.env.scope x) (r:RelV v u)
  (h:∀ s',Inv X pins (σ.set i (some v)) H s'->(∃ a,Heap.SameBut a s.heap s'.heap∧(a=X.env.locals∨X.env.cells.lookup x=some a))->Q () s') (hf:X.fn x=true∨X.env.scope.names.lookup x=some .local:=by first |exact .inl rfl |exact .inr rfl |assumption):wpAny M A (storeName X.env x u) Q E s:=by
 obtain ⟨m,hn,hl⟩:=id I.loc
 have hcls:(X.env.scope.kind == .class || (X.env.scope.kind == .module&&X.env.locals != X.env.globals))=false:=by rw [I.ok.kind];rfl
 have hiσ:i < σ.length:=by rw [I.len];exact (AQ.mp hi).1
 have cne:=I.cne
 have tracked:∀ {a:Addr} {h':Heap},(∃ o,s.heap.get? a=some o∧H a=none)->Heap.SameBut a s.heap h'->HOk X.prog X.w H h':=fun {a h'} ha hs b ob e=>by
  obtain ⟨_,_,hfree⟩:=ha
  refine (I.hok b ob e).stay (fun c w' hc q=>(hs.2 c ?_).trans q) (fun _ q=>q) fun _ _ q=>q
  rintro rfl
  rcases hc with rfl |hc
  ·rw [hfree] at e;cases e
  ·rw [hfree] at hc;cases hc
 rcases hx with hk |hk
 ·refine wpAny_storeName_local hk hn (fun h' hn' hs => ?_) hcls
  obtain ⟨oL,_,_,hoL,_⟩:=id hn
  refine h _ ⟨I.ok,I.os,I.bare,⟨fun b o e n hb hx => ?_,fun b o e n hb hx => ?_,I.base.free,fun b o e hx => ?_,I.base.tups,I.base.frzs,I.base.tbls⟩,⟨_,hn',fun j y v' e1 e2 e3 => ?_⟩,fun y c e => ?_,I.free,I.freeC,fun p hp => ?_,tracked ⟨oL,hoL,I.free⟩ hs,by simpa using I.len,I.hnd⟩ ⟨_,hs,.inl rfl⟩
  ·exact (hs.2 b (AZ (As (AM e) I.ok.above))).trans (I.base.keep b o e n hb hx)
  ·obtain ⟨sl,e1⟩:=I.base.slot b o e n hb hx
   exact ⟨sl,(hs.2 b (AZ (As (AM e) I.ok.above))).trans e1⟩
  ·obtain ⟨o',e1⟩:=I.base.there b o e hx
   exact ⟨o',(hs.2 b (AZ (As (AM e) I.ok.above))).trans e1⟩
  ·by_cases hj:j=i
   ·subst hj
    rw [hi] at e1;cases e1
    rw [Av hiσ] at e2
    cases e2
    exact ⟨u,r,.inl ⟨hk,by simp⟩⟩
   ·rw [Ax (Ne.symm hj)] at e2
    obtain ⟨u',r',q⟩:=hl j y v' e1 e2 e3
    refine ⟨u',r',?_⟩
    rcases q with ⟨k,e⟩ |⟨k,c,e,z⟩
    ·refine .inl ⟨k,?_⟩
     have:y≠x:=fun e=>hj (Yt hN e1 (e ▸ hi))
     simp [this,e]
    ·exact .inr ⟨k,c,e,z.sameBut hs (cne y c e)⟩
  ·obtain ⟨w',z⟩:=I.cell y c e
   exact ⟨w',z.sameBut hs (cne y c e)⟩
  ·obtain ⟨e,n,ne,nf,d⟩:=I.pin p hp
   exact ⟨(hs.2 p.1 ne).trans e,n,ne,nf,d⟩
 ·have hfn:X.fn x=true:=by
   rcases hf with z |z
   ·exact z
   ·rw [z] at hk;cases hk
  obtain ⟨c,hc⟩:=I.ok.has x (.inl hk)
  obtain ⟨w',z⟩:=I.cell x c hc
  refine wpAny_storeName_cell I.ok.kind hk hc z (fun h' hc' hs => ?_)
  obtain ⟨oc,hoc,hocd⟩:=id z
  refine h { s with heap:=h' } ⟨I.ok,I.os,I.bare,⟨fun b o e n hb hx => ?_,fun b o e n hb hx => ?_,I.base.free,fun b o e hx => ?_,I.base.tups,I.base.frzs,I.base.tbls⟩,⟨m,hn.sameBut hs (Ne.symm (cne x c hc)),fun j y v' e1 e2 e3 => ?_⟩,fun y c' e => ?_,I.free,I.freeC,fun p hp => ?_,tracked ⟨oc,hoc,I.freeC x c hc⟩ hs,by simpa using I.len,I.hnd⟩ ⟨c,hs,.inr hc⟩
  ·exact (hs.2 b (AZ (As (AM e) (I.ok.cab x c hfn hc)))).trans (I.base.keep b o e n hb hx)
  ·obtain ⟨sl,e1⟩:=I.base.slot b o e n hb hx
   exact ⟨sl,(hs.2 b (AZ (As (AM e) (I.ok.cab x c hfn hc)))).trans e1⟩
  ·obtain ⟨o',e1⟩:=I.base.there b o e hx
   exact ⟨o',(hs.2 b (AZ (As (AM e) (I.ok.cab x c hfn hc)))).trans e1⟩
  ·by_cases hj:j=i
   ·subst hj
    rw [hi] at e1;cases e1
    rw [Av hiσ] at e2
    cases e2
    exact ⟨u,r,.inr ⟨.inl hk,c,hc,hc'⟩⟩
   ·rw [Ax (Ne.symm hj)] at e2
    obtain ⟨u',r',q⟩:=hl j y v' e1 e2 e3
    refine ⟨u',r',?_⟩
    rcases q with q |⟨k,c',e,z'⟩
    ·exact .inl q
    ·refine .inr ⟨k,c',e,z'.sameBut hs ?_⟩
     rintro rfl
     exact hj (Yt hN e1 (I.ok.inj _ _ _ e hc ▸ hi))
  ·by_cases hcc:c'=c
   ·subst hcc;exact ⟨_,hc'⟩
   ·obtain ⟨w2,z2⟩:=I.cell y c' e
    exact ⟨w2,z2.sameBut hs hcc⟩
  ·obtain ⟨e,n,ne,nf,d⟩:=I.pin p hp
   refine ⟨(hs.2 p.1 ?_).trans e,n,ne,nf,d⟩
   intro q
   rw [q,hoc] at e
   have q':oc=p.2:=Am e
   exact d w' (by rw [← q'];exact hocd)
theorem zd {M:Model} {A:Around} {E:Value->Shared->Prop} {i:Nat} {x:Str} {v:V} {u:Value} {Q:Unit->Shared->Prop} (I:Inv X pins σ H s) (hN:X.N.Nodup) (hi:X.N[i]? = some x) (hx:Loc X.env.scope x) (r:RelV v u)
  (h:∀ s',Inv X pins (σ.set i (some v)) H s'->Q () s') (hf:X.fn x=true∨X.env.scope.names.lookup x=some .local:=by first |exact .inl rfl |exact .inr rfl |assumption):wpAny M A (storeName X.env x u) Q E s :=
 qDn I hN hi hx r (fun s' I' _=>h s' I') hf
theorem Inv.call' {s':Shared} {ch:List Addr} (I:Inv X pins σ H s) (ho:s'.os=s.os) (u:Un (frs X.stack) ch H H' s.heap s'.heap) (hok:HOk X.prog X.w H' s'.heap) (hg:AllBare s'.gens)
  (hch:∀ b∈ch,(b∈X.ex∨X.s₀.heap.objs.size≤b)∧b≠X.env.locals∧(∀ x c,X.env.cells.lookup x=some c->c≠b) ∧ ∀ p∈X.pn++pins,p.1≠b):Inv X pins σ H' s':=by
 obtain ⟨h',g',d',t',o'⟩:=s'
 have e:o'=s.os:=ho
 subst e
 exact I.call (g':=g') (t':=t') (d':=d') u hok hg hch
end
abbrev XK:=Value->Option Addr->Hp->Prop
abbrev St:=List (Option V)
abbrev VK:=V->Hp->Prop
abbrev TE:=St->Hp->VK->Prop
abbrev TT:=St->Hp->(Bool->Hp->Prop)->Prop
abbrev TA:=St->Hp->(List V->Hp->Prop)->Prop
structure Ends where
 nx:St->Hp->Prop
 rt:VK
 bk:St->Hp->Prop:=fun _ _=>False
 ct:St->Hp->Prop:=fun _ _=>False
abbrev TS:=Ends->St->Hp->Prop
def EP (X:Cx) (pins:List (Addr×Obj)) (σ:St) (Q:VK) (u:Value) (s':Shared):Prop := ∃ v H',Inv X pins σ H' s'∧RelV v u∧Q v H'
def TP (X:Cx) (pins:List (Addr×Obj)) (σ:St) (Q:Bool->Hp->Prop) (b:Bool) (s':Shared):Prop := ∃ H',Inv X pins σ H' s'∧Q b H'
def AP (X:Cx) (pins:List (Addr×Obj)) (σ:St) (Q:List V->Hp->Prop) (us:List Value) (s':Shared):Prop := ∃ vs H',Inv X pins σ H' s'∧Vals vs us∧Q vs H'
def SP (X:Cx) (pins:List (Addr×Obj)) (D:Ends) (f:Flow) (s':Shared):Prop :=
 match f with
 | .next => ∃ σ' H',Inv X pins σ' H' s'∧D.nx σ' H'
 | .brk => ∃ σ' H',Inv X pins σ' H' s'∧D.bk σ' H'
 | .cont => ∃ σ' H',Inv X pins σ' H' s'∧D.ct σ' H'
 | .ret u => ∃ v σ' H',Inv X pins σ' H' s'∧RelV v u∧D.rt v H'
def PE (X:Cx) (e:Expr) (t:TE):Prop :=
 ∀ (pins:List (Addr×Obj)) (s:Shared) (σ:St) (H:Hp) (Q:VK),Inv X pins σ H s->t σ H Q->wpAny (model X.prog X.w) X.A (eval e X.env) (EP X pins σ Q) X.xe s
def PT (X:Cx) (e:Expr) (t:TT):Prop :=
 ∀ (pins:List (Addr×Obj)) (s:Shared) (σ:St) (H:Hp) (Q:Bool->Hp->Prop),Inv X pins σ H s->t σ H Q->wpAny (model X.prog X.w) X.A (isTrue e X.env (eval e X.env)) (TP X pins σ Q) X.xe s
def PW (X:Cx) (e:Expr) (t:TT):Prop :=
 ∀ (whole:Sem Value) (pins:List (Addr×Obj)) (s:Shared) (σ:St) (H:Hp) (Q:Bool->Hp->Prop),Inv X pins σ H s->t σ H Q->wpAny (model X.prog X.w) X.A (isTrue e X.env whole) (TP X pins σ Q) X.xe s
theorem PW.pt {X:Cx} {e:Expr} {t:TT} (h:PW X e t):PT X e t:=h _
def PA (X:Cx) (es:List Expr) (t:TA):Prop :=
 ∀ (pos:Pos) (pins:List (Addr×Obj)) (s:Shared) (σ:St) (H:Hp) (Q:List V->Hp->Prop),Inv X pins σ H s->t σ H Q->wpAny (model X.prog X.w) X.A (spliced (backTo pos (starEach es X.env))) (AP X pins σ Q) X.xe s
def PS (X:Cx) (st:Stmt) (t:TS):Prop :=
 ∀ (pins:List (Addr×Obj)) (s:Shared) (σ:St) (H:Hp) (D:Ends),Inv X pins σ H s->t D σ H->wpAny (model X.prog X.w) X.A (exec st X.env) (SP X pins D) X.xe s
def PSs (X:Cx) (st:List Stmt) (t:TS):Prop :=
 ∀ (pins:List (Addr×Obj)) (s:Shared) (σ:St) (H:Hp) (D:Ends),Inv X pins σ H s->t D σ H->wpAny (model X.prog X.w) X.A (execs st X.env) (SP X pins D) X.xe s
theorem thn {α:Type} {t:Sem α} {Q Q':α->Shared->Prop} {M:Model} {A:Around} {E:Value->Shared->Prop} {s:Shared} (h:wpAny M A t Q E s) (hQ:∀ a s,Q a s->Q' a s):wpAny M A t Q' E s:=Bg h hQ fun _ _ x=>x
end L2
namespace L2
open PySem PySem.Spec PyProof.Rows
section
variable {X:Cx}
def qJA (i:Nat):TE:=fun σ H Q => ∃ v,σ[i]? = some (some v)∧Q v H
def tC (v:V):TE:=fun _ H Q=>Q v H
theorem qJY {i:Nat} {x:Str} {pos:Pos} (hN:X.N[i]? = some x) (hv:Vis X.env.scope x) (hd:(x==("__debug__":Str))=false:=by decide) (hcd:(x==("__classdict__":Str))=false:=by decide):PE X (.Name x pos) (qJA i):=by
 intro pins s σ H Q I h
 obtain ⟨v,e,h⟩:=h
 obtain ⟨m,hn,hl⟩:=I.loc
 obtain ⟨u,r,l⟩:=hl i x v hN e hv
 have fin:EP X pins σ Q u s:=⟨v,H,I,r,h⟩
 rcases l with ⟨hk,hm⟩ |⟨hk,c,hc,hcell⟩
 ·exact wpAny_Name (wpAny_loadName_local I.ok.kind hk hn hm fin) hd
 ·rcases hk with hk |hk
  ·exact wpAny_Name (wpAny_loadName_cell I.ok.kind hk hc hcell fin) hd
  ·exact wpAny_Name (wpAny_loadName_free I.ok.kind hk hc hcell fin hcd) hd
theorem qIb {i j pos}:PE X (.Constant (.int i) j pos) (tC (.int i)):=fun _ _ _ H _ I h=>wpAny_Constant_int ⟨.int i,H,I.tok _,⟨_,rfl⟩,h⟩
theorem qKg {b j pos}:PE X (.Constant (.bool b) j pos) (tC (.bl b)):=fun _ _ _ H _ I h=>Constant_bool ⟨.bl b,H,I,rfl,h⟩
theorem qIi {j pos}:PE X (.Constant .none j pos) (tC .non):=fun _ _ _ H _ I h=>Constant_none ⟨.non,H,I,rfl,h⟩
theorem qIc {x j pos}:PE X (.Constant (.str x) j pos) (tC (.str x)):=fun _ _ _ H _ I h=>Calls.Constant_str ⟨.str x,H,I.tok _,⟨_,rfl⟩,h⟩
def Gl (X:Cx) (x:Str):Prop:=X.env.kindOf x=some .globalImplicit
theorem Jj {E:Value->Shared->Prop} {pins:List (Addr×Obj)} {s:Shared} {σ:St} {H:Hp} {x:Str} {u:Value} {pos:Pos} {Q:Value->Shared->Prop} (I:Inv X pins σ H s) (hg:Gl X x) (hm:X.mg x=some u) (h:Q u s)
  (hd:(x==("__debug__":Str))=false:=by decide):wpAny (model X.prog X.w) X.A (eval (.Name x pos) X.env) Q E s :=
 Calls.Name_function_global I.ok.kind hg (Calls.loadGlobal_global (by rw [I.ok.glob];exact I.mod.glob.keeps I.bk) hm h) hd
theorem Zt {E:Value->Shared->Prop} {pins:List (Addr×Obj)} {s:Shared} {σ:St} {H:Hp} {x:Str} {u:Value} {pos:Pos} {Q:Value->Shared->Prop} (I:Inv X pins σ H s) (hg:Gl X x) (hm:X.mg x=none) (hv:bootBuiltins x=some u) (h:Q u s)
  (hn:x ≠ "__name__" := by decide) (hd:(x==("__debug__":Str))=false:=by decide):wpAny (model X.prog X.w) X.A (eval (.Name x pos) X.env) Q E s:=by
 obtain ⟨mb,h1,h2⟩:=I.mod.blt
 exact Calls.Name_function_global I.ok.kind hg (Calls.loadGlobal_builtin (by rw [I.ok.glob];exact I.mod.glob.keeps I.bk) hm (by rw [I.ok.blt];exact h1.keeps I.bk) ((h2 x hn).trans hv) h) hd
theorem qCh {x:Str} {v:V} {u:Value} {pos:Pos} (hg:Gl X x) (hm:X.mg x=some u) (r:RelV v u) (hd:(x==("__debug__":Str))=false:=by decide):PE X (.Name x pos) (tC v) :=
 fun _ _ _ H _ I h=>Jj I hg hm ⟨v,H,I,r,h⟩ hd
theorem qGN {x:Str} {v:V} {u:Value} {pos:Pos} (hg:Gl X x) (hm:X.mg x=none) (hv:bootBuiltins x=some u) (r:RelV v u) (hn:x ≠ "__name__" := by decide) (hd:(x==("__debug__":Str))=false:=by decide):PE X (.Name x pos) (tC v) :=
 fun _ _ _ H _ I h=>Zt I hg hm hv ⟨v,H,I,r,h⟩ hn hd
variable {a b:Expr} {ta tb:TE} {pos:Pos}
variable {tA tB':TT} {rest:List Expr}
def qKx (t u:TT):TT:=fun σ H Q=>t σ H fun c H1=>if c=true then u σ H1 Q else Q false H1
def tOr (t u:TT):TT:=fun σ H Q=>t σ H fun c H1=>if c=true then Q true H1 else u σ H1 Q
def qK7 (t:TT):TT:=fun σ H Q=>t σ H fun c H1=>Q (!c) H1
theorem qGk (ha:PT X a tA):PW X (.BoolOp .And [a] pos) tA:=by
 intro wh pins s σ H Q I h
 refine isTrue_and (thn (ha pins s σ H Q I h) fun c s1 e => ?_)
 cases c with
 |true=>exact isTrue_and_nil e
 |false=>exact e
theorem qJg (ha:PT X a tA):PW X (.BoolOp .Or [a] pos) tA:=by
 intro wh pins s σ H Q I h
 refine isTrue_or (thn (ha pins s σ H Q I h) fun c s1 e => ?_)
 cases c with
 |false=>exact isTrue_or_nil e
 |true=>exact e
theorem qIK (ha:PT X a tA) (hb:PW X (.BoolOp .And (b::rest) pos) tB'):PW X (.BoolOp .And (a::b::rest) pos) (qKx tA tB'):=by
 intro wh pins s σ H Q I h
 refine isTrue_and (thn (ha pins s σ H _ I h) fun c s1 ⟨H1,I1,q1⟩ => ?_)
 cases c with
 |true=>exact hb wh pins s1 σ H1 Q I1 q1
 |false=>exact ⟨H1,I1,q1⟩
theorem qKk (ha:PT X a tA) (hb:PW X (.BoolOp .Or (b::rest) pos) tB'):PW X (.BoolOp .Or (a::b::rest) pos) (tOr tA tB'):=by
 intro wh pins s σ H Q I h
 refine isTrue_or (thn (ha pins s σ H _ I h) fun c s1 ⟨H1,I1,q1⟩ => ?_)
 cases c with
 |true=>exact ⟨H1,I1,q1⟩
 |false=>exact hb wh pins s1 σ H1 Q I1 q1
theorem qJN (ha:PT X a tA):PT X (.UnaryOp .Not a pos) (qK7 tA):=by
 intro pins s σ H Q I h
 exact isTrue_not (ha pins s σ H (fun c H1=>Q (!c) H1) I h)
def qKK (ta tb:TE):TE:=fun σ H Q=>ta σ H fun x H1 => ∃ c,x = .bl c∧if c=true then tb σ H1 Q else Q (.bl false) H1
def qKL (ta:TE):TE:=fun σ H Q=>ta σ H fun x H1 => ∃ c,x = .bl c∧Q (.bl (!c)) H1
theorem qIs {op} {t:TE} (h:PE X a t):PE X (.BoolOp op [a] pos) t:=fun pins s σ H Q I hw=>BoolOp_one (h pins s σ H Q I hw)
theorem qIm (ha:PE X a ta) (hb:PE X (.BoolOp .And (b::rest) pos) tb):PE X (.BoolOp .And (a::b::rest) pos) (qKK ta tb):=by
 intro pins s σ H Q I h
 refine BoolOp_and (thn (ha pins s σ H _ I h) fun v s1 ⟨x,H1,I1,r1,q1⟩ => ?_)
 obtain ⟨c,rfl,q1⟩:=q1
 cases r1
 refine CK ?_
 cases c with
 |true=>exact hb pins s1 σ H1 Q I1 q1
 |false=>exact ⟨.bl false,H1,I1,rfl,q1⟩
theorem qJj (ha:PE X a ta):PE X (.UnaryOp .Not a pos) (qKL ta):=by
 intro pins s σ H Q I h
 refine UnaryOp_ (thn (ha pins s σ H _ I h) fun v s1 ⟨x,H1,I1,r1,q1⟩ => ?_)
 obtain ⟨c,rfl,q1⟩:=q1
 cases r1
 exact not_of (CK ⟨.bl (!c),H1,I1,rfl,q1⟩)
def tIf (t:TT) (ta tb:TE):TE:=fun σ H Q=>t σ H fun c H1=>if c=true then ta σ H1 Q else tb σ H1 Q
theorem qFi {c:Expr} (hc:PT X c tA) (ha:PE X a ta) (hb:PE X b tb):PE X (.IfExp c a b pos) (tIf tA ta tb):=by
 intro pins s σ H Q I h
 refine wpAny_IfExp (thn (hc pins s σ H _ I h) fun d s1 ⟨H1,I1,q1⟩ => ?_)
 cases d with
 |true=>exact ha pins s1 σ H1 Q I1 q1
 |false=>exact hb pins s1 σ H1 Q I1 q1
end
end L2
namespace L2
open PySem PySem.Spec PyProof.Rows
def SqL (K:W.Frag) (H:Hp) (a:Addr) (xs:List V):Prop :=
 Rd H a (.lst xs) ∨
  ∃ (o:Obj) (its:Array Value) (n:Nat),K.lookup a=some o∧o.cls = .type "list" ∧ o.dict=none∧o.data = .seq its n∧its.size≤sizeLine∧Vals xs its.toList
def SqT (K:W.Frag) (H:Hp) (a:Addr) (xs:List V):Prop :=
 Rd H a (.tup xs) ∨
  ∃ (o:Obj) (its:Array Value) (n:Nat),K.lookup a=some o∧o.cls = .type "tuple" ∧ o.data = .seq its n∧its.size≤sizeLine∧Vals xs its.toList
def qLJ:Value->Option V
 | .none=>some .non
 | .bool b=>some (.bl b)
 | .int i _=>some (.int i)
 | .str x _=>some (.str x)
 | .bytes b _=>some (.byt b)
 | .float b _=>some (.flt b)
 | .ref a=>some (.ref a)
 | .type n=>some (.ty n)
 |_=>none
theorem RelV.abs {x:V} {u:Value} (r:RelV x u):qLJ u=some x:=by
 cases x with
 |non=>cases r;rfl
 |bl _=>cases r;rfl
 |int _=>obtain ⟨t,rfl⟩:=r;rfl
 |str _=>obtain ⟨t,rfl⟩:=r;rfl
 |byt _=>obtain ⟨t,rfl⟩:=r;rfl
 |flt _=>obtain ⟨t,rfl⟩:=r;rfl
 |ref _=>cases r;rfl
 |ty _=>cases r;rfl
theorem RelV.inj {x y:V} {u:Value} (r:RelV x u) (q:RelV y u):x=y:=Am (r.abs.symm.trans q.abs)
theorem Vals.inj:∀ {xs ys:List V} {us:List Value},Vals xs us->Vals ys us->xs=ys
 |_,_,_,.nil,.nil=>rfl
 |_,_,_,.cons r t,.cons r' t'=>by rw [r.inj r',Vals.inj t t']
section
variable {X:Cx} {pins:List (Addr×Obj)} {σ:St} {H:Hp} {s:Shared} {a:Addr} {xs ys:List V}
theorem SqL.of {K:W.Frag} (h:H a=some (.lst xs)):SqL K H a xs := .inl (.inl h)
theorem Inv.list (I:Inv X pins σ H s) (h:SqL X.K H a xs):∃ its:List Value,Vals xs its∧PlainL s.heap a its.toArray∧xs.length≤sizeLine:=by
 rcases h with h |⟨o,its,n,hk,hc,hd,hs,hz,r⟩
 ·obtain ⟨z,its,n,r,e⟩:=h.ok I.hok
  exact ⟨its,r,⟨_,n,e,rfl,rfl,rfl⟩,z⟩
 ·refine ⟨its.toList,r,⟨o,n,I.kIn a o hk,hc,hd,by simpa using hs⟩,?_⟩
  have e:=r.length
  simp only [AX] at e
  omega
theorem Inv.tuple (I:Inv X pins σ H s) (h:SqT X.K H a xs):∃ its:List Value,Vals xs its∧IsTup s.heap a its.toArray∧xs.length≤sizeLine:=by
 rcases h with h |⟨o,its,n,hk,hc,hs,hz,r⟩
 ·obtain ⟨z,its,r,p⟩:=h.ok I.hok
  exact ⟨its,r,p,z⟩
 ·refine ⟨its.toList,r,⟨o,I.kIn a o hk,hc,n,by simpa using hs⟩,?_⟩
  have e:=r.length
  simp only [AX] at e
  omega
theorem Inv.list_inj (I:Inv X pins σ H s) (h:SqL X.K H a xs) (h':SqL X.K H a ys):xs=ys:=by
 obtain ⟨its,r,⟨o,n,e,_,_,d⟩,_⟩:=I.list h
 obtain ⟨its',r',⟨o',n',e',_,_,d'⟩,_⟩:=I.list h'
 rw [e] at e';cases e'
 rw [d] at d'
 injection d' with d1 _
 have:its=its':=by simpa using CH Array.toList d1
 subst this
 exact r.inj r'
theorem Inv.tuple_inj (I:Inv X pins σ H s) (h:SqT X.K H a xs) (h':SqT X.K H a ys):xs=ys:=by
 obtain ⟨its,r,⟨o,e,_,n,d⟩,_⟩:=I.tuple h
 obtain ⟨its',r',⟨o',e',_,n',d'⟩,_⟩:=I.tuple h'
 rw [e] at e';cases e'
 rw [d] at d'
 injection d' with d1 _
 have:its=its':=by simpa using CH Array.toList d1
 subst this
 exact r.inj r'
end
abbrev Cx.wish (X:Cx) (E:Value->Shared->Prop):Cx:={ X with xe:=E }
abbrev Cx.nox (X:Cx):Cx:=X.wish fun _ _=>False
theorem Cx.Ok.wish {X:Cx} (ok:X.Ok) (E:Value->Shared->Prop):(X.wish E).Ok :=
 ⟨ok.mod,ok.kind,ok.glob,ok.blt,ok.above,ok.inj,ok.has,ok.cab,ok.hd,ok.frames,ok.stk,ok.exf,ok.bs,ok.bsz,ok.noex,ok.exfs,ok.funs,ok.frf⟩
theorem Cx.Ok.unwish {X:Cx} {E:Value->Shared->Prop} (ok:(X.wish E).Ok):X.Ok :=
 ⟨ok.mod,ok.kind,ok.glob,ok.blt,ok.above,ok.inj,ok.has,ok.cab,ok.hd,ok.frames,ok.stk,ok.exf,ok.bs,ok.bsz,ok.noex,ok.exfs,ok.funs,ok.frf⟩
section
variable {X:Cx} {pins:List (Addr×Obj)} {σ:St} {H:Hp} {s:Shared} {E:Value->Shared->Prop}
theorem Inv.wish (I:Inv X pins σ H s) (E:Value->Shared->Prop):Inv (X.wish E) pins σ H s:=⟨I.ok.wish E,I.os,I.bare,I.base,I.loc,I.cell,I.free,I.freeC,I.pin,I.hok,I.len,I.hnd⟩
theorem Inv.unwish (I:Inv (X.wish E) pins σ H s):Inv X pins σ H s:=⟨I.ok.unwish,I.os,I.bare,I.base,I.loc,I.cell,I.free,I.freeC,I.pin,I.hok,I.len,I.hnd⟩
theorem SP.unwish {D:Ends} {f:Flow} {s':Shared} (h:SP (X.wish E) pins D f s'):SP X pins D f s':=by
 cases f with
 |next=>obtain ⟨σ',H',I,q⟩:=h;exact ⟨σ',H',I.unwish,q⟩
 |brk=>obtain ⟨σ',H',I,q⟩:=h;exact ⟨σ',H',I.unwish,q⟩
 |cont=>obtain ⟨σ',H',I,q⟩:=h;exact ⟨σ',H',I.unwish,q⟩
 |ret u=>obtain ⟨v,σ',H',I,r,q⟩:=h;exact ⟨v,σ',H',I.unwish,r,q⟩
end
section
variable {X:Cx} {st:Stmt} {rest:List Stmt} {t u:TS} {e:Expr} {te:TE} {pos:Pos}
def qKG:TS:=fun D σ H=>D.nx σ H
def qKl (t u:TS):TS:=fun D σ H=>t { D with nx:=u D } σ H
theorem qHA:PSs X [] qKG:=fun _ _ σ H _ I h=>wpAny_execs_nil ⟨σ,H,I,h⟩
theorem qFD (h1:PS X st t) (h2:PSs X rest u):PSs X (st::rest) (qKl t u):=by
 intro pins s σ H D I h
 refine wpAny_execs_cons (thn (h1 pins s σ H { D with nx:=u D } I h) fun f s1 q => ?_)
 cases f with
 |next =>
  obtain ⟨σ',H',I',q⟩:=q
  exact h2 pins s1 σ' H' D I' q
 |ret v=>exact q
 |brk=>exact q
 |cont=>exact q
theorem qGC (h1:PS X st t):PSs X [st] t:=by
 intro pins s σ H D I h
 refine wpAny_execs_cons (thn (h1 pins s σ H D I h) fun f s1 q => ?_)
 cases f with
 |next=>exact wpAny_execs_nil q
 |ret v=>exact q
 |brk=>exact q
 |cont=>exact q
theorem Inv.quiet {pins:List (Addr×Obj)} {σ:St} {H:Hp} {s:Shared} (I:Inv X pins σ H s):interactive X.env=false:=by simp [interactive,I.ok.kind]
def qJy (te:TE):TS:=fun D σ H=>te σ H fun _ H1=>D.nx σ H1
theorem qCV (he:PE X e te) (hs:swapsWith e none pos.line X.env=pure false:=by rfl):PS X (.Expr e pos) (qJy te):=by
 intro pins s σ H D I h
 exact wpAny_Expr_any (thn (he pins s σ H _ I h) fun v s1 ⟨x,H1,I1,r1,q1⟩=>⟨σ,H1,I1,q1⟩) I.quiet hs
def qKr (te:TE):TS:=fun D σ H=>te σ H D.rt
theorem qFq (he:PE X e te):PS X (.Return (some e) pos) (qKr te):=by
 intro pins s σ H D I h
 exact wpAny_Return_some (thn (he pins s σ H _ I h) fun v s1 ⟨x,H1,I1,r1,q1⟩=>⟨x,σ,H1,I1,r1,q1⟩)
def qKn (c:TT) (t u:TS):TS:=fun D σ H=>c σ H fun b H1=>if b=true then t D σ H1 else u D σ H1
theorem qJ7 {c:Expr} {a b:List Stmt} {tc:TT} (hc:PT X c tc) (ha:PSs X a t) (hb:PSs X b u):PS X (.If c a b pos) (qKn tc t u):=by
 intro pins s σ H D I h
 refine wpAny_If (thn (hc pins s σ H _ I h) fun d s1 ⟨H1,I1,q1⟩ => ?_)
 cases d with
 |true=>exact ha pins s1 σ H1 D I1 q1
 |false=>exact hb pins s1 σ H1 D I1 q1
end
abbrev TG:=V->St->Hp->(St->Hp->Prop)->Prop
abbrev TGs:=List V->St->Hp->(St->Hp->Prop)->Prop
def PG (X:Cx) (target:Expr) (t:TG):Prop :=
 ∀ (pins:List (Addr×Obj)) (s:Shared) (σ:St) (H:Hp) (v:V) (u:Value) (Q:St->Hp->Prop),Inv X pins σ H s->RelV v u->t v σ H Q ->
  wpAny (model X.prog X.w) X.A (assign target X.env u) (fun _ s' => ∃ σ' H',Inv X pins σ' H' s'∧Q σ' H') X.xe s
def PGs (X:Cx) (ts:List Expr) (t:TGs):Prop :=
 ∀ (pins:List (Addr×Obj)) (s:Shared) (σ:St) (H:Hp) (vs:List V) (us:List Value) (Q:St->Hp->Prop),Inv X pins σ H s->Vals vs us->t vs σ H Q ->
  wpAny (model X.prog X.w) X.A (assignInOrder ((assignEach ts X.env).map (·.2)) us) (fun _ s' => ∃ σ' H',Inv X pins σ' H' s'∧Q σ' H') X.xe s
abbrev qES:=V->V->V->Hp->(Hp->Prop)->Prop
def qIL (X:Cx) (t:qES):Prop :=
 ∀ (pins:List (Addr×Obj)) (s:Shared) (σ:St) (H:Hp) (o i v:V) (ov iv u:Value) (Q:Hp->Prop),Inv X pins σ H s->RelV o ov->RelV i iv->RelV v u->t o i v H Q ->
  wpAny (model X.prog X.w) X.A (setItem ov iv u) (fun _ s' => ∃ H',Inv X pins σ H' s'∧Q H') X.xe s
abbrev TIp:=V->V->Hp->VK->Prop
def PIp (X:Cx) (op:Operator) (t:TIp):Prop :=
 ∀ (pins:List (Addr×Obj)) (s:Shared) (σ:St) (H:Hp) (x y:V) (v u:Value) (Q:VK),Inv X pins σ H s->RelV x v->RelV y u->t x y H Q ->
  wpAny (model X.prog X.w) X.A (inplaceOp op v u) (EP X pins σ Q) X.xe s
section
variable {X:Cx} {pos:Pos}
def qEc (i:Nat):TG:=fun v σ H Q=>Q (σ.set i (some v)) H
theorem qHB {i:Nat} {x:Str} (hN:X.N.Nodup) (hi:X.N[i]? = some x) (hx:Loc X.env.scope x) (hf:X.fn x=true∨X.env.scope.names.lookup x=some .local:=by first |exact .inl rfl |exact .inr rfl |assumption):PG X (.Name x pos) (qEc i):=by
 intro pins s σ H v u Q I r h
 exact wpAny_assign_Name (zd I hN hi hx r (fun s' I'=>⟨_,H,I',h⟩) hf)
def qLG:TGs:=fun vs σ H Q=>vs=[]∧Q σ H
def qJ1 (t:TG) (u:TGs):TGs:=fun vs σ H Q => ∃ v r,vs=v::r∧t v σ H fun σ' H'=>u r σ' H' Q
theorem qG9:PGs X [] qLG:=by
 intro pins s σ H vs us Q I r h
 obtain ⟨e,h⟩:=h
 subst e
 cases r
 exact assignInOrder_nil ⟨σ,H,I,h⟩
theorem qE9 {e:Expr} {es:List Expr} {t:TG} {u:TGs} (h1:PG X e t) (h2:PGs X es u)
  (hs:(assignEach (e::es) X.env).map (·.2)=assign e X.env::(assignEach es X.env).map (·.2):=by rfl):PGs X (e::es) (qJ1 t u):=by
 intro pins s σ H vs us Q I r h
 obtain ⟨v,vr,e1,h⟩:=h
 subst e1
 cases r with
 |cons r rr =>
  rw [hs]
  refine assignInOrder_cons (thn (h1 pins s σ H _ _ _ I r h) fun _ s1 ⟨σ1,H1,I1,q1⟩ => ?_)
  exact h2 pins s1 σ1 H1 _ _ Q I1 rr q1
def qKm (K:W.Frag) (n:Nat) (t:TGs):TG:=fun v σ H Q => ∃ a xs,v = .ref a∧SqT K H a xs∧xs.length=n∧t xs σ H Q
theorem qI3 {es:List Expr} {k:Nat} {t:TGs} {n:Nat} (hc:X.calm=true) (h:PGs X es t)
  (hn:(assignEach es X.env).length=n:=by rfl) (hst:(assignEach es X.env).findIdx? (·.1)=none:=by rfl):PG X (.Tuple es k pos) (qKm X.K n t):=by
 intro pins s σ H v u Q I r hw
 obtain ⟨a,xs,e1,hq,hl,hw⟩:=hw
 subst e1
 cases r
 obtain ⟨its,rv,ht,hz⟩:=I.tuple hq
 refine assign_Tuple_tuple (I.ok.hd hc) ht (by simp [hn,← hl,rv.length]) hst fun h' hx => ?_
 have I1:Inv X pins σ H { s with heap:=h' }:=I.kept (t':=s.toks) fun b o e=>hx b o (AZ (AM e)) e
 exact h pins _ σ H xs _ Q I1 (by simpa using rv) hw
def zU (to ti:TE) (t:qES):TG:=fun v σ H Q=>to σ H fun o H1=>ti σ H1 fun i H2=>t o i v H2 fun H3=>Q σ H3
theorem qBi {o i:Expr} {to ti:TE} {t:qES} (ho:PE X o to) (hi:PE X i ti) (hs:qIL X t)
  (ha:∀ v,assign (.Subscript o i pos) X.env v=(do
   let ov ← holding [v] (eval o X.env)
   let iv ← holding [v,ov] (eval i X.env)
   standAt pos
   holding [v,ov,iv] (setItem ov iv v)
   release [v,ov,iv] []):=by intro _;rfl):PG X (.Subscript o i pos) (zU to ti t):=by
 intro pins s σ H v u Q I r h
 rw [ha]
 refine AA (Au (thn (ho pins s σ H _ I h) fun ov s1 ⟨x,H1,I1,r1,q1⟩ => ?_))
 refine AA (Au (thn (hi pins s1 σ H1 _ I1 q1) fun iv s2 ⟨y,H2,I2,r2,q2⟩ => ?_))
 refine AA (CY (AA (Au (thn (hs pins s2 σ H2 x y v ov iv u _ I2 r1 r2 r q2) fun _ s3 ⟨H3,I3,q3⟩ => ?_))))
 exact wpAny_release ⟨σ,H3,I3,q3⟩
def qIx (te:TE) (g:TG):TS:=fun D σ H=>te σ H fun x H1=>g x σ H1 D.nx
theorem qFw {tg e:Expr} {te:TE} {g:TG} (he:PE X e te) (hg:PG X tg g) (hs:swapsWithSole [tg] e pos.line X.env=pure false:=by rfl) (hw:swappedStores [tg] e X.env=pure none:=by rfl)
  (h1:(assignEach [tg] X.env).map (·.2)=[assign tg X.env]:=by rfl):PS X (.Assign [tg] e pos) (qIx te g):=by
 intro pins s σ H D I h
 refine wpAny_Assign_stores (thn (he pins s σ H _ I h) fun v s1 ⟨x,H1,I1,r1,q1⟩ => ?_) hs hw
 rw [h1]
 exact thn (hg pins s1 σ H1 x v _ I1 r1 q1) fun _ s2 q=>q
theorem qE7 {i:Nat} {x:Str} {e:Expr} {te:TE} {pos':Pos} (hN:X.N.Nodup) (hi:X.N[i]? = some x) (hx:Loc X.env.scope x) (he:PE X e te) (hs:swapsWith e (some (.Name x pos')) pos.line X.env=pure false:=by rfl) (hf:X.fn x=true∨X.env.scope.names.lookup x=some .local:=by first |exact .inl rfl |exact .inr rfl |assumption) :
  PS X (.Assign [.Name x pos'] e pos) (qIx te (qEc i)):=by
 intro pins s σ H D I h
 refine wpAny_Assign_Name (thn (he pins s σ H _ I h) fun v s1 ⟨y,H1,I1,r1,q1⟩ => ?_) hs
 exact zd I1 hN hi hx r1 (fun s2 I2=>⟨_,H1,I2,q1⟩) hf
def qKq (i j:Nat) (ta:TA):TS:=fun D σ H=>ta σ H fun vs H1 => ∃ v w,vs=[v,w]∧D.nx ((σ.set i (some v)).set j (some w)) H1
theorem qJO {i j:Nat} {x y:Str} {a b:Expr} {ta:TA} {px py pt:Pos} {kt k2 pt2} (hc:X.calm=true) (hN:X.N.Nodup) (hi:X.N[i]? = some x) (hj:X.N[j]? = some y) (hij:i≠j)
  (hx:X.env.scope.names.lookup x=some .local) (hy:X.env.scope.names.lookup y=some .local) (ha:PA X [a,b] ta)
  (hw:swappedStores [.Tuple [.Name x px,.Name y py] kt pt] (.Tuple [a,b] k2 pt2) X.env=pure (some [x,y]))
  (hs:swapsWithSole [.Tuple [.Name x px,.Name y py] kt pt] (.Tuple [a,b] k2 pt2) pos.line X.env=pure false:=by rfl) :
  PS X (.Assign [.Tuple [.Name x px,.Name y py] kt pt] (.Tuple [a,b] k2 pt2) pos) (qKq i j ta):=by
 intro pins s σ H D I h
 rw [exec_Assign_arm]
 refine AA (CY ?_)
 rw [hs]
 refine AA (AB ?_)
 rw [AN (by decide)]
 refine AA (Tuple_ (thn (ha _ pins s σ H _ I h) fun us s1 ⟨vs,H1,I1,r1,q1⟩ => ?_))
 obtain ⟨v,w,e1,q1⟩:=q1
 subst e1
 obtain ⟨u1,u2,rfl,rv,rw'⟩:∃ u1 u2,us=[u1,u2]∧RelV v u1∧RelV w u2:=by
  cases r1 with
  |cons p q =>
   cases q with
   |cons p' q' =>
    cases q'
    exact ⟨_,_,rfl,p,p'⟩
 refine A1 ?_ (by show 2≤sizeLine;decide)
 have I2:Inv X pins σ H1 { s1 with heap:=s1.heap.push { cls := .type "tuple",data := .seq [u1,u2].toArray } }:=I1.kept (t':=s1.toks) fun b o e=>AC _ e
 rw [hw]
 refine AA (AB ?_)
 show wpAny (model X.prog X.w) X.A (do rule "assign.swapped-stores";let items ← unpackItems (.ref s1.heap.objs.size) 2 none;assignInOrder [fun v=>bindName X.env y v,fun v=>bindName X.env x v] items.reverse;pure Flow.next) _ _ _
 refine AA (B3 (AA (unpackItems_tuple (items := #[u1,u2]) (I.ok.hd hc) (IsTup.new s1.heap _) fun h' hx' => ?_)))
 have I3:=I2.kept (h':=h') (t':=s1.toks) fun b o e=>hx' b o (AZ (AM e)) e
 show wpAny _ _ (assignInOrder [fun v=>bindName X.env y v,fun v=>bindName X.env x v] [u2,u1] >>= fun _=>pure Flow.next) _ _ _
 refine AA (assignInOrder_cons (wpAny_bindName (zd I3 hN hj (.inl hy) rw' (fun s2 I4 => ?_) (.inr hy))))
 refine assignInOrder_cons (wpAny_bindName (zd I4 hN hi (.inl hx) rv (fun s3 I5=>assignInOrder_nil (AB ?_)) (.inr hx)))
 rw [List.set_comm _ _ (Ne.symm hij)] at I5
 exact ⟨_,H1,I5,q1⟩
def qJ5 (to ti te:TE) (tget:V->V->Hp->VK->Prop) (tip:TIp) (tset:qES):TS:=fun D σ H=>to σ H fun o H1=>ti σ H1 fun i H2=>tget o i H2 fun x H3=>te σ H3 fun y H4=>tip x y H4 fun z H5=>tset o i z H5 fun H6=>D.nx σ H6
def qKj (X:Cx) (t:V->V->Hp->VK->Prop):Prop :=
 ∀ (pins:List (Addr×Obj)) (s:Shared) (σ:St) (H:Hp) (o i:V) (ov iv:Value) (Q:VK),Inv X pins σ H s->RelV o ov->RelV i iv->t o i H Q ->
  wpAny (model X.prog X.w) X.A (getItem ov iv) (EP X pins σ Q) X.xe s
theorem qF9 {o i e:Expr} {to ti te:TE} {tget:V->V->Hp->VK->Prop} {tip:TIp} {tset:qES} {op:Operator} {tpos:Pos} (ho:PE X o to) (hi:PE X i ti) (hg:qKj X tget) (he:PE X e te) (hp:PIp X op tip) (hs:qIL X tset)
  (ha:∀ ov iv new,augStore i ov iv new=(do holding [new,ov,iv] (setItem ov iv new);release [new,ov,iv] [];pure .next):=by intros;rfl):PS X (.AugAssign (.Subscript o i tpos) op e pos) (qJ5 to ti te tget tip tset):=by
 intro pins s σ H D I h
 refine wpAny_AugAssign_SubscriptAny (thn (ho pins s σ H _ I h) fun ov s1 ⟨x1,H1,I1,r1,q1⟩ => ?_) ha
 refine thn (hi pins s1 σ H1 _ I1 q1) fun iv s2 ⟨x2,H2,I2,r2,q2⟩ => ?_
 refine thn (hg pins s2 σ H2 x1 x2 ov iv _ I2 r1 r2 q2) fun old s3 ⟨x3,H3,I3,r3,q3⟩ => ?_
 refine thn (he pins s3 σ H3 _ I3 q3) fun v s4 ⟨x4,H4,I4,r4,q4⟩ => ?_
 refine thn (hp pins s4 σ H4 x3 x4 old v _ I4 r3 r4 q4) fun new s5 ⟨x5,H5,I5,r5,q5⟩ => ?_
 exact thn (hs pins s5 σ H5 x1 x2 x5 ov iv new _ I5 r1 r2 r5 q5) fun _ s6 ⟨H6,I6,q6⟩=>⟨σ,H6,I6,q6⟩
def ipI (f:Int->Int->Int):TIp:=fun x y H Q => ∃ i j,x = .int i∧y = .int j∧Q (.int (f i j)) H
theorem qJH:PIp X .Add (ipI fun i j=>i + j):=by
 intro pins s σ H x y v u Q I r1 r2 h
 obtain ⟨i,j,e1,e2,q⟩:=h
 subst e1;subst e2
 obtain ⟨t,rfl⟩:=r1
 obtain ⟨t',rfl⟩:=r2
 exact iadd_int ⟨.int _,H,I.tok _,⟨_,rfl⟩,q⟩
end
structure It where
 go:Nat->Hp->Prop
 yld:Nat->Hp->V->Hp->Prop
 stop:Nat->Hp->Prop
def Zg (X:Cx) (pins:List (Addr×Obj)) (H:Hp) (b:Addr):Prop :=
 H b=none∧b≠X.env.locals∧b ∉ X.fs∧(b∈X.ex∨X.s₀.heap.objs.size≤b)∧(∀ x c,X.env.cells.lookup x=some c->c≠b) ∧ ∀ p∈X.pn++pins,p.1≠b
theorem Inv.fpOk {X:Cx} {pins:List (Addr×Obj)} {σ:St} {H H':Hp} {s:Shared} {b:Addr} (I:Inv X pins σ H s) (hb:s.heap.objs.size≤b) (hn:H' b=none):Zg X pins H' b:=by
 refine ⟨hn,CN (As I.lt hb),I.nofs hb,.inr (Aa I.sz hb),fun x c e z => ?_,fun p hp z => ?_⟩
 ·obtain ⟨v,q⟩:=I.cell x c e
  exact absurd (As q.lt (by rw [z];exact hb)) (BZ _)
 ·exact absurd (As (AM (I.pin p hp).1) (by rw [z];exact hb)) (BZ _)
theorem Inv.hndH {X:Cx} {pins:List (Addr×Obj)} {σ:St} {H:Hp} {s:Shared} (I:Inv X pins σ H s):EX.Hnd X.A s.heap:=fun v hv=>by
 obtain ⟨ea,oe,u,vs,e1,e2,e3⟩:=I.hnd v hv
 exact ⟨ea,oe,vs,e1,(I.hok _ _ e2).1,e3⟩
theorem Inv.hndNe {X:Cx} {pins:List (Addr×Obj)} {σ:St} {H:Hp} {s:Shared} (I:Inv X pins σ H s) {it:Addr} (hn:H it=none):∀ v,X.A.handled=some v->v ≠ .ref it:=fun v hv z=>by
 obtain ⟨ea,oe,u,vs,e1,e2,e3⟩:=I.hnd v hv
 rw [e1] at z;cases z;rw [hn] at e2;cases e2
structure Turn (P:Program) (w:World) (K:W.Frag) (A:Around) (tg:Expr) (J:It) (fp:List Addr) (it:Addr) (tn:Nat->Heap->Prop):Prop where
 mem:it∈fp
 obj:∀ i h,tn i h -> ∀ b∈fp,∃ o,h.get? b=some o ∧ ∀ v,o.data ≠ .cell v
 keep:∀ i h h',tn i h->(∀ b∈fp,∀ o,h.get? b=some o->h'.get? b=some o)->tn i h'
 item:∀ (X:Cx),X.prog=P->X.w=w->X.K=K->X.A=A -> ∀ (i:Nat) (pins:List (Addr×Obj)) (s:Shared) (σ:St) (H:Hp) (E:Value->Shared->Prop),Inv X pins σ H s->(∀ b∈fp,Zg X pins H b)->tn i s.heap->J.go i H ->
  wpAny (model P w) X.A (pyNext (.ref it)) (fun r s1 => ∃ u,r=some u ∧
   wpAny (model P w) X.A (letOwnedTupleGo tg (.ref it) u) (fun _ s2 => ∃ x H',Inv X pins σ H' s2∧RelV x u∧J.yld i H x H'∧tn (i + 1) s2.heap ∧ ∀ b∈fp,H' b=none) E s1) E s
 done:∀ (X:Cx),X.prog=P->X.w=w->X.K=K->X.A=A -> ∀ (i:Nat) (pins:List (Addr×Obj)) (s:Shared) (σ:St) (H:Hp) (E:Value->Shared->Prop),Inv X pins σ H s->(∀ b∈fp,Zg X pins H b)->tn i s.heap->J.stop i H ->
  wpAny (model P w) X.A (pyNext (.ref it)) (fun r s1=>r=none∧Inv X pins σ H s1) E s
 self:∀ (A:Around) (i:Nat) (s:Shared) (Q:Value->Shared->Prop) (E:Value->Shared->Prop),tn i s.heap->Q (.ref it) s->wpAny (model P w) A (pyIter (.ref it)) Q E s
abbrev TI:=St->Hp->(It->Hp->Prop)->Prop
def PIE (X:Cx) (pins:List (Addr×Obj)) (σ:St) (tg:Expr) (R:It->Hp->Prop) (itv:Value) (s2:Shared):Prop :=
 ∃ (it:Addr) (fp:List Addr) (tn:Nat->Heap->Prop) (J:It) (H':Hp),itv = .ref it∧Inv X pins σ H' s2∧Turn X.prog X.w X.K X.A tg J fp it tn∧tn 0 s2.heap∧(∀ b∈fp,Zg X pins H' b)∧R J H'
def PI (X:Cx) (tg iter:Expr) (wi:TI):Prop :=
 ∀ (pins:List (Addr×Obj)) (s:Shared) (σ:St) (H:Hp) (R:It->Hp->Prop),Inv X pins σ H s->wi σ H R ->
  wpAny (model X.prog X.w) X.A (eval iter X.env) (fun v s1=>wpAny (model X.prog X.w) X.A (pyIter v) (PIE X pins σ tg R) X.xe s1) X.xe s
theorem qEt {M : Model} {A : Around} {E : Value->Shared->Prop} {s : Shared} {tg : Expr} {it : Addr} {u : Value} {o : Obj} {n : String} {vs : Array Value} {Q : Unit->Shared->Prop} (ho : s.heap.get? it=some o) (hc : o.cls = .type n) (hd : o.data = .fields vs)
    (hn : ["enumerate", "zip", "dict_itemiterator", "dict_reverseitemiterator", "odict_iterator", "itertools.zip_longest", "itertools.pairwise"].contains n=false) (hQ : Q () s) : wpAny M A (letOwnedTupleGo tg (.ref it) u) Q E s:=by
  unfold letOwnedTupleGo
  cases tg <;> first
    |exact AB hQ
    |(cases u <;> first
        |exact AB hQ
        | (refine AA (wpAny_load ho ?_)
           rw [hc, hd]
           show wpAny M A (if (["enumerate", "zip", "dict_itemiterator", "dict_reverseitemiterator", "odict_iterator", "itertools.zip_longest", "itertools.pairwise"].contains n&&vs[0]? == some (rawInt _))=true then _ else _) Q E s
           rw [AN (by intro h; rw [hn, Bool.false_and] at h; cases h)]
           exact AB hQ))
def Itl (K:W.Frag) (a:Addr):It :=
 ⟨fun i H => ∃ xs x,SqL K H a xs∧xs[i]? = some x,fun i H x H'=>H'=H ∧ ∀ xs,SqL K H a xs->xs[i]? = some x,fun i H => ∃ xs,SqL K H a xs∧xs.length≤i⟩
def Itt (K:W.Frag) (a:Addr):It :=
 ⟨fun i H => ∃ xs x,SqT K H a xs∧xs[i]? = some x,fun i H x H'=>H'=H ∧ ∀ xs,SqT K H a xs->xs[i]? = some x,fun i H => ∃ xs,SqT K H a xs∧xs.length≤i⟩
def Itr (lo:Int) (n:Nat):It:=⟨fun i _=>i < n,fun i H x H'=>H'=H∧x = .int (lo + i),fun i _=>n≤i⟩
theorem qDE {P:Program} {w:World} {K:W.Frag} {A:Around} {tg:Expr} (a it:Addr):Turn P w K A tg (Itl K a) [it] it (fun i h=>h.IsListIter it a i) where
 mem:=by simp
 obj:=fun i h st b hb=>by
  have e:b=it:=by simpa using hb
  subst e
  obtain ⟨o,e,c,d⟩:=st
  exact ⟨o,e,fun v z=>by rw [d] at z;cases z⟩
 keep:=fun i h h' st k=>st.at fun o e=>k it (by simp) o e
 item:=by
  intro X hP hw hK _ i pins s σ H E I hf st hg
  subst hP hw hK
  obtain ⟨xs,x,hq,hx⟩:=hg
  obtain ⟨its,rv,p,hz⟩:=I.list hq
  obtain ⟨u,hu,ru⟩:=rv.get hx
  obtain ⟨f0,f1,f2,f3,f4,f5⟩:=hf it (by simp)
  refine wpAny_pyNext_list_item st p.isList (x:=u) (by simpa using hu) fun h' st' sb => ?_
  have I1:Inv X pins σ H { s with heap:=h' }:=I.turned (t':=s.toks) (fun b o hb e=>(sb.2 b hb).trans e) f0 f1 f3 f4 f5
  obtain ⟨o,e,c,d⟩:=id st'
  exact ⟨u,rfl,qEt (s:={ s with heap:=h' }) e c d (by decide) ⟨x,H,I1,ru,⟨rfl,fun ys hy=>by rw [I.list_inj hy hq];exact hx⟩,st',fun b hb=>(hf b hb).1⟩⟩
 done:=by
  intro X hP hw hK _ i pins s σ H E I hf st hg
  subst hP hw hK
  obtain ⟨xs,hq,hx⟩:=hg
  obtain ⟨its,rv,p,hz⟩:=I.list hq
  obtain ⟨f0,f1,f2,f3,f4,f5⟩:=hf it (by simp)
  have hl:=rv.length
  exact EX.list_end I.hndH st p.isList (by simp;omega) (I.hndNe f0) fun h' eb=>⟨rfl,I.turned (t':=s.toks) (fun b o hb e=>eb b o hb e) f0 f1 f3 f4 f5⟩
 self:=fun _ _ _ _ _ st h=>wpAny_pyIter_listiter st h
theorem qBh {P:Program} {w:World} {K:W.Frag} {A:Around} {tg:Expr} (a it:Addr):Turn P w K A tg (Itt K a) [it] it (fun i h=>h.IsTupleIter it a i) where
 mem:=by simp
 obj:=fun i h st b hb=>by
  have e:b=it:=by simpa using hb
  subst e
  obtain ⟨o,e,c,d⟩:=st
  exact ⟨o,e,fun v z=>by rw [d] at z;cases z⟩
 keep:=fun i h h' st k=>st.at fun o e=>k it (by simp) o e
 item:=by
  intro X hP hw hK _ i pins s σ H E I hf st hg
  subst hP hw hK
  obtain ⟨xs,x,hq,hx⟩:=hg
  obtain ⟨its,rv,p,hz⟩:=I.tuple hq
  obtain ⟨u,hu,ru⟩:=rv.get hx
  obtain ⟨f0,f1,f2,f3,f4,f5⟩:=hf it (by simp)
  refine wpAny_pyNext_tuple_item st (show s.heap.IsTuple a its.toArray from p) (x:=u) (by simpa using hu) fun h' st' sb => ?_
  have I1:Inv X pins σ H { s with heap:=h' }:=I.turned (t':=s.toks) (fun b o hb e=>(sb.2 b hb).trans e) f0 f1 f3 f4 f5
  obtain ⟨o,e,c,d⟩:=id st'
  exact ⟨u,rfl,qEt (s:={ s with heap:=h' }) e c d (by decide) ⟨x,H,I1,ru,⟨rfl,fun ys hy=>by rw [I.tuple_inj hy hq];exact hx⟩,st',fun b hb=>(hf b hb).1⟩⟩
 done:=by
  intro X hP hw hK _ i pins s σ H E I hf st hg
  subst hP hw hK
  obtain ⟨xs,hq,hx⟩:=hg
  obtain ⟨its,rv,p,hz⟩:=I.tuple hq
  obtain ⟨f0,f1,f2,f3,f4,f5⟩:=hf it (by simp)
  have hl:=rv.length
  exact EX.tuple_end I.hndH st (show s.heap.IsTuple a its.toArray from p) (by simp;omega) (I.hndNe f0) fun h' eb=>⟨rfl,I.turned (t':=s.toks) (fun b o hb e=>eb b o hb e) f0 f1 f3 f4 f5⟩
 self:=fun _ _ _ _ _ st h=>wpAny_pyIter_tupleiter st h
theorem qBs {P:Program} {w:World} {K:W.Frag} {A:Around} {tg:Expr} (it:Addr) (lo:Int) (n:Nat):Turn P w K A tg (Itr lo n) [it] it (fun i h=>IsRangeIter h it (lo + (i:Nat) * 1) ((n:Int) - (i:Nat)) 1) where
 mem:=by simp
 obj:=fun i h st b hb=>by
  have e:b=it:=by simpa using hb
  subst e
  exact ⟨_,st,fun v z=>by
   have z':Data.fields _=Data.cell v:=z
   cases z'⟩
 keep:=fun i h h' st k=>k it (by simp) _ st
 item:=by
  intro X hP hw hK _ i pins s σ H E I hf st hg
  subst hP hw hK
  obtain ⟨f0,f1,f2,f3,f4,f5⟩:=hf it (by simp)
  refine wpAny_pyNext_range_item st (by have:i < n:=hg;omega) fun h' st' sb => ?_
  have I1:Inv X pins σ H { s with heap:=h',toks:=s.toks + 1 }:=I.turned (fun b o hb e=>(sb.2 b hb).trans e) f0 f1 f3 f4 f5
  have st2:IsRangeIter h' it (lo + ((i + 1:Nat):Int) * 1) ((n:Int) - ((i + 1:Nat):Int)) 1:=by
   have q1:lo + (i:Int) * 1 + 1=lo + ((i + 1:Nat):Int) * 1:=by omega
   have q2:(n:Int) - (i:Int) - 1=(n:Int) - ((i + 1:Nat):Int):=by omega
   rw [← q1,← q2];exact st'
  refine ⟨_,rfl,qEt (s:={ s with heap:=h',toks:=s.toks + 1 }) (n := "range_iterator") st2 rfl rfl (by decide) ⟨.int (lo + i),H,I1,⟨s.toks,?_⟩,⟨rfl,rfl⟩,st2,fun b hb=>(hf b hb).1⟩⟩
  rw [Int.mul_one]
 done:=by
  intro X hP hw hK _ i pins s σ H E I hf st hg
  subst hP hw hK
  obtain ⟨f0,f1,f2,f3,f4,f5⟩:=hf it (by simp)
  exact EX.range_end I.hndH st (by have:n≤i:=hg;omega) fun h' eb=>⟨rfl,I.turned (t':=s.toks) (fun b o hb e=>eb b o e) f0 f1 f3 f4 f5⟩
 self:=fun _ _ _ _ _ st h=>wpAny_pyIter_rangeiter st h
end L2
namespace L2
open PySem PySem.Spec PyProof.Rows
section
variable {X:Cx} {tg:Expr}
theorem qET {pins:List (Addr×Obj)} {σ:St} {H:Hp} {s:Shared} {R:It->Hp->Prop} {E:Value->Shared->Prop} {lo hi:Int} {t u v:Tok} {tk:Nat} (I:Inv X pins σ H s) (h1:-(2 ^ 62)≤lo) (h2:lo < 2 ^ 62) (h3:-(2 ^ 62)≤hi) (h4:hi < 2 ^ 62)
  (q:R (Itr lo (hi - lo).toNat) H):wpAny (model X.prog X.w) X.A (pyIter (.ref s.heap.objs.size)) (PIE X pins σ tg R) E { s with heap:=s.heap.push { cls := .type "range",data := .fields #[.int lo t,.int hi u,.int 1 v] },toks:=tk }:=by
 refine wpAny_pyIter_range (IsRange.new ..) (small_one h1 h2 h3 h4) ?_
 have I1:Inv X pins σ H { s with heap:=s.heap.push { cls := .type "range",data := .fields #[.int lo t,.int hi u,.int 1 v] },toks:=tk }:=I.kept fun b o e=>AC _ e
 refine ⟨(s.heap.push { cls := .type "range",data := .fields #[.int lo t,.int hi u,.int 1 v] }).objs.size,[(s.heap.push { cls := .type "range",data := .fields #[.int lo t,.int hi u,.int 1 v] }).objs.size],_,_,H,rfl,
  I1.kept (t':=tk) fun b o e=>AC _ e,qBs _ lo (hi - lo).toNat,?_,fun b hb => ?_,q⟩
 ·have e1:lo + ((0:Nat):Int) * 1=lo:=by simp
  have e2:(((hi - lo).toNat:Nat):Int) - ((0:Nat):Int)=Builtin.Range.rangeSize lo hi 1:=by rw [rangeSize_one];split <;> omega
  show IsRangeIter _ _ (lo + ((0:Nat):Int) * 1) ((((hi - lo).toNat:Nat):Int) - ((0:Nat):Int)) 1
  rw [e1,e2]
  exact AV _ rfl
 ·have e:b=(s.heap.push { cls := .type "range",data := .fields #[.int lo t,.int hi u,.int 1 v] }).objs.size:=by simpa using hb
  subst e
  exact I1.fpOk (AL _) (I1.hok.fresh (AL _))
def qKf (ta:TA):TI:=fun σ H R=>ta σ H fun vs H1 => ∃ j:Int,vs=[.int j] ∧ -(2 ^ 62)≤j∧j < 2 ^ 62∧R (Itr 0 j.toNat) H1
theorem qDp {a:Expr} {ta:TA} {p pos:Pos} (hg:Gl X "range") (hm:X.mg "range" = none) (ha:PA X [a] ta) (hs:starEach [a] X.env=[(false,eval a X.env)]:=by rfl):PI X tg (.Call (.Name "range" p) [a] [] pos) (qKf ta):=by
 intro pins s σ H R I h
 refine Call_ (Zt I hg hm boot_range (Bw (thn (ha pos pins s σ H _ I h) fun us s1 ⟨vs,H1,I1,r1,q1⟩ => ?_) hs rfl))
 obtain ⟨j,e,q1,q2,q⟩:=q1
 subst e
 cases r1 with
 |cons r rr =>
  cases rr
  obtain ⟨t,rfl⟩:=r
  exact call_range_1 (qET I1 (by omega) (by omega) q1 q2 (by simpa using q))
def qLI (wi:TI) (g:TG) (tb:TS):TS:=fun D σ H=>wi σ H fun J H1 => ∃ W:Nat->Nat->St->Hp->Prop,(∃ m,W 0 m σ H1) ∧ ∀ i m σ H,W i m σ H ->
 (J.stop i H∧D.nx σ H)∨(J.go i H ∧ ∃ N:St->Hp->Prop,(∀ σ' H',N σ' H' -> ∃ m',m' < m∧W (i + 1) m' σ' H') ∧ ∀ x H',J.yld i H x H'->g x σ H' fun σ2 H2=>tb { D with nx:=N,ct:=N,bk:=D.nx } σ2 H2)
def Zj (fp:List Addr) (h:Heap):List (Addr×Obj):=fp.filterMap fun b=>(h.get? b).map fun o=>(b,o)
theorem zt {fp:List Addr} {h:Heap} {b:Addr} {o:Obj} (hb:b∈fp) (e:h.get? b=some o):(b,o)∈Zj fp h:=CC.mpr ⟨b,hb,by rw [e];rfl⟩
theorem qDH {fp:List Addr} {h:Heap} {p:Addr×Obj} (hp:p∈Zj fp h):p.1∈fp∧h.get? p.1=some p.2:=by
 obtain ⟨b,hb,e⟩:=CC.mp hp
 cases q:h.get? b with
 |none=>rw [q] at e;cases e
 |some o =>
  rw [q] at e
  have e':(b,o)=p:=Am e
  subst e'
  exact ⟨hb,q⟩
theorem Inv.pinned {pins:List (Addr×Obj)} {σ:St} {H:Hp} {s:Shared} {fp:List Addr} (I:Inv X pins σ H s) (hf:∀ b∈fp,Zg X pins H b) (ho:∀ b∈fp,∃ o,s.heap.get? b=some o ∧ ∀ v,o.data ≠ .cell v):Inv X (pins++Zj fp s.heap) σ H s :=
 I.pins_of fun p hp=>(Ar.mp hp).elim (fun z=>I.pin p (BB _ z)) fun z=>by
  obtain ⟨hb,e⟩:=qDH z
  obtain ⟨f0,f1,f2,_⟩:=hf p.1 hb
  obtain ⟨o,e',d⟩:=ho p.1 hb
  rw [e] at e';cases e'
  exact ⟨e,f0,f1,f2,d⟩
theorem Inv.unpinned {pins pl:List (Addr×Obj)} {σ:St} {H:Hp} {s:Shared} (I:Inv X (pins++pl) σ H s):Inv X pins σ H s:=I.pins_of fun p hp=>I.pin p (BB _ (List.mem_append_left _ hp))
end
end L2
namespace L2
open PySem PySem.Spec PyProof.Rows
abbrev R2:=V->V->Hp->VK->Prop
def OpR (X:Cx) (f:Value->Value->Sem Value) (r:R2):Prop :=
 ∀ (pins:List (Addr×Obj)) (s:Shared) (σ:St) (H:Hp) (x y:V) (v u:Value) (Q:VK),Inv X pins σ H s->RelV x v->RelV y u->r x y H Q ->
  wpAny (model X.prog X.w) X.A (f v u) (EP X pins σ Q) X.xe s
def UnR (X:Cx) (f:Value->Sem Value) (r:V->Hp->VK->Prop):Prop :=
 ∀ (pins:List (Addr×Obj)) (s:Shared) (σ:St) (H:Hp) (x:V) (v:Value) (Q:VK),Inv X pins σ H s->RelV x v->r x H Q ->
  wpAny (model X.prog X.w) X.A (f v) (EP X pins σ Q) X.xe s
def zH (X:Cx) (f:Value) (r:List V->Hp->VK->Prop):Prop :=
 ∀ (pins:List (Addr×Obj)) (s:Shared) (σ:St) (H:Hp) (xs:List V) (us:List Value) (Q:VK),Inv X pins σ H s->Vals xs us->r xs H Q ->
  wpAny (model X.prog X.w) X.A (call f us) (EP X pins σ Q) X.xe s
def qK8 (X:Cx) (r:V->Hp->(Bool->Hp->Prop)->Prop):Prop :=
 ∀ (pins:List (Addr×Obj)) (s:Shared) (σ:St) (H:Hp) (x:V) (v:Value) (Q:Bool->Hp->Prop),Inv X pins σ H s->RelV x v->r x H Q ->
  wpAny (model X.prog X.w) X.A (truthy v) (TP X pins σ Q) X.xe s
def tOp (r:R2) (ta tb:TE):TE:=fun σ H Q=>ta σ H fun x H1=>tb σ H1 fun y H2=>r x y H2 Q
def tUn (r:V->Hp->VK->Prop) (ta:TE):TE:=fun σ H Q=>ta σ H fun x H1=>r x H1 Q
def rI (C:Int->Int->Prop) (g:Int->Int->V):R2:=fun x y H Q => ∃ i j,x = .int i∧y = .int j∧C i j∧Q (g i j) H
def rI0 (g:Int->Int->V):R2:=fun x y H Q => ∃ i j,x = .int i∧y = .int j∧Q (g i j) H
def rU (g:Int->V):V->Hp->VK->Prop:=fun x H Q => ∃ i,x = .int i∧Q (g i) H
section
variable {X:Cx} {a b c:Expr} {ta tb tc:TE} {pos:Pos}
theorem qJf (ha:PE X a ta) (hb:PE X b tb) {pins:List (Addr×Obj)} {s:Shared} {σ:St} {H:Hp} {R:V->V->Hp->Prop} (I:Inv X pins σ H s)
  (h:ta σ H fun x H1=>tb σ H1 fun y H2=>R x y H2) {Q:Value->Shared->Prop} {f:Value->Value->Sem Value}
  (hf:∀ v u s2 x y H2,Inv X pins σ H2 s2->RelV x v->RelV y u->R x y H2->wpAny (model X.prog X.w) X.A (f v u) Q X.xe s2) :
  wpAny (model X.prog X.w) X.A (eval a X.env) (fun v s₁=>wpAny (model X.prog X.w) X.A (eval b X.env) (fun u s₂=>wpAny (model X.prog X.w) X.A (f v u) Q X.xe s₂) X.xe s₁) X.xe s:=by
 refine thn (ha pins s σ H _ I h) fun v s1 ⟨x,H1,I1,r1,q1⟩ => ?_
 refine thn (hb pins s1 σ H1 _ I1 q1) fun u s2 ⟨y,H2,I2,r2,q2⟩ => ?_
 exact hf v u s2 x y H2 I2 r1 r2 q2
theorem qFA {op:Operator} {r:R2} (ho:OpR X (binaryOp op) r) (ha:PE X a ta) (hb:PE X b tb):PE X (.BinOp a op b pos) (tOp r ta tb):=by
 intro pins s σ H Q I h
 exact wpAny_BinOp (qJf ha hb I h fun v u s2 x y H2 I2 rx ry q=>ho pins s2 σ H2 x y v u Q I2 rx ry q)
theorem qKU {op:UnaryOp} {r:V->Hp->VK->Prop} (ho:UnR X (unaryOp op) r) (ha:PE X a ta):PE X (.UnaryOp op a pos) (tUn r ta):=by
 intro pins s σ H Q I h
 exact UnaryOp_ (thn (ha pins s σ H _ I h) fun v s1 ⟨x,H1,I1,r1,q1⟩=>ho pins s1 σ H1 x v Q I1 r1 q1)
theorem opI {f:Value->Value->Sem Value} {C:Int->Int->Prop} {g:Int->Int->Int}
  (rule:∀ (i j:Int) (t u:Tok) (s:Shared) (Q:Value->Shared->Prop) (E:Value->Shared->Prop),C i j->Q (.int (g i j) s.toks) { s with toks:=s.toks + 1 }->wpAny (model X.prog X.w) X.A (f (.int i t) (.int j u)) Q E s) :
  OpR X f (rI C fun i j => .int (g i j)):=by
 intro pins s σ H x y v u Q I rx ry h
 obtain ⟨i,j,rfl,rfl,hc,q⟩:=h
 obtain ⟨t,rfl⟩:=rx
 obtain ⟨t',rfl⟩:=ry
 exact rule i j t t' s _ _ hc ⟨.int (g i j),H,I.tok _,⟨_,rfl⟩,q⟩
theorem qKH {f:Value->Value->Sem Value} {g:Int->Int->Int}
  (rule:∀ (i j:Int) (t u:Tok) (s:Shared) (Q:Value->Shared->Prop) (E:Value->Shared->Prop),Q (.int (g i j) s.toks) { s with toks:=s.toks + 1 }->wpAny (model X.prog X.w) X.A (f (.int i t) (.int j u)) Q E s) :
  OpR X f (rI0 fun i j => .int (g i j)):=by
 intro pins s σ H x y v u Q I rx ry h
 obtain ⟨i,j,rfl,rfl,q⟩:=h
 obtain ⟨t,rfl⟩:=rx
 obtain ⟨t',rfl⟩:=ry
 exact rule i j t t' s _ _ ⟨.int (g i j),H,I.tok _,⟨_,rfl⟩,q⟩
theorem qIJ {f:Value->Value->Sem Value} {g:Int->Int->Bool}
  (rule:∀ (i j:Int) (t u:Tok) (s:Shared) (Q:Value->Shared->Prop) (E:Value->Shared->Prop),Q (.bool (g i j)) s->wpAny (model X.prog X.w) X.A (f (.int i t) (.int j u)) Q E s) :
  OpR X f (rI0 fun i j => .bl (g i j)):=by
 intro pins s σ H x y v u Q I rx ry h
 obtain ⟨i,j,rfl,rfl,q⟩:=h
 obtain ⟨t,rfl⟩:=rx
 obtain ⟨t',rfl⟩:=ry
 exact rule i j t t' s _ _ ⟨.bl (g i j),H,I,rfl,q⟩
def qKz (i j:Int):Prop:=0 < j∧j < 1073741824
def qKw (i j:Int):Prop:=0≤j∧j≤1000000∧i.natAbs < 2 ^ 64
def CMul (i j:Int):Prop:=(-(2 ^ 64) < i∧i < 2 ^ 64)∨(-(2 ^ 64) < j∧j < 2 ^ 64)
theorem CMul.ok {i j:Int} (h:CMul i j):IntMulOk i j:=by
 rcases h with ⟨h1,h2⟩ |⟨h1,h2⟩
 ·exact .of_left (intBits_le_64 h1 h2)
 ·exact .of_right (intBits_le_64 h1 h2)
theorem qIT:OpR X (binaryOp .Add) (rI0 fun i j => .int (i + j)):=qKH fun _ _ _ _ _ _ _ q=>add_int q
theorem qIB:OpR X (binaryOp .Sub) (rI0 fun i j => .int (i - j)):=qKH fun _ _ _ _ _ _ _ q=>sub_int q
theorem qIk:OpR X (binaryOp .Mult) (rI CMul fun i j => .int (i * j)):=opI fun _ _ _ _ _ _ _ hc q=>mul_int q hc.ok
theorem qHS:OpR X (binaryOp .FloorDiv) (rI qKz fun i j => .int (i / j)):=opI fun i j _ _ _ _ _ hc q=>by
 have h1:(0:Int) < j:=hc.1
 have h2:j < 1073741824:=hc.2
 exact floordiv_int (by omega) (by rw [Int.fdiv_eq_ediv_of_nonneg i (by omega)];exact q) (.inl (PyProof.noPylong_small (by omega)))
theorem qIr:OpR X (binaryOp .Mod) (rI (fun _ j=>0 < j) fun i j => .int (i % j)):=opI fun i j _ _ _ _ _ hc q=>by
 have h1:(0:Int) < j:=hc
 exact mod_int' (by omega) (by rw [Int.fmod_eq_emod_of_nonneg i (by omega)];exact q)
theorem qIC:OpR X (binaryOp .Pow) (rI qKw fun i j => .int (i ^ j.toNat)):=opI fun _ _ _ _ _ _ _ hc q=>pow_int_small hc.1 hc.2.1 hc.2.2 q
theorem unI {f:Value->Sem Value} {g:Int->Int}
  (rule:∀ (i:Int) (t:Tok) (s:Shared) (Q:Value->Shared->Prop) (E:Value->Shared->Prop),Q (.int (g i) s.toks) { s with toks:=s.toks + 1 }->wpAny (model X.prog X.w) X.A (f (.int i t)) Q E s) :
  UnR X f (rU fun i => .int (g i)):=by
 intro pins s σ H x v Q I rx h
 obtain ⟨i,rfl,q⟩:=h
 obtain ⟨t,rfl⟩:=rx
 exact rule i t s _ _ ⟨.int (g i),H,I.tok _,⟨_,rfl⟩,q⟩
theorem qI5:UnR X (unaryOp .USub) (rU fun i => .int (-i)):=unI fun _ _ _ _ _ q=>neg_int q
theorem qEe {pins:List (Addr×Obj)} {σ:St} {H:Hp} {s:Shared} {Q:VK} {k k':Bool} (I:Inv X pins σ H s) (q:Q (.bl k) H) (e:k=k'):EP X pins σ Q (.bool k') s:=by
 subst e
 exact ⟨.bl k,H,I,rfl,q⟩
theorem qHx:OpR X (compareOp .Lt) (rI0 fun i j => .bl (decide (i < j))):=qIJ fun _ _ _ _ _ _ _ q=>lt_int q
theorem Jy:OpR X (compareOp .LtE) (rI0 fun i j => .bl (decide (i≤j))):=qIJ fun _ _ _ _ _ _ _ q=>le_int q
theorem qJw:OpR X (compareOp .Gt) (rI0 fun i j => .bl (decide (j < i))):=qIJ fun _ _ _ _ _ _ _ q=>gt_int q
theorem qEj:OpR X (compareOp .Is) (fun x y H Q=>y = .non∧Q (.bl (decide (x = .non))) H):=by
 intro pins s σ H x y v u Q I rx ry h
 obtain ⟨rfl,q⟩:=h
 cases ry
 refine is_none_gen (qEe I q ?_)
 cases x <;> first
  |(cases rx;rfl)
  |(obtain ⟨t,rfl⟩:=rx;rfl)
theorem qGg:OpR X (compareOp .IsNot) (fun x y H Q=>y = .non∧Q (.bl (!decide (x = .non))) H):=by
 intro pins s σ H x y v u Q I rx ry h
 obtain ⟨rfl,q⟩:=h
 cases ry
 refine isnot_none_gen (qEe I q ?_)
 cases x <;> first
  |(cases rx;rfl)
  |(obtain ⟨t,rfl⟩:=rx;rfl)
theorem qBt (b:Expr) {op:CmpOp} (h:op ≠ .In:=by decide) (h2:op ≠ .NotIn:=by decide):behindInMarks op b=false:=by
 have e1:(op==CmpOp.In)=false:=by cases op <;> first |rfl |exact absurd rfl h
 have e2:(op==CmpOp.NotIn)=false:=by cases op <;> first |rfl |exact absurd rfl h2
 cases b <;> simp [behindInMarks,e1,e2]
theorem qHJ {op:CmpOp} {r:R2} (ho:OpR X (compareOp op) r) (ha:PE X a ta) (hb:PE X b tb) (hm:behindInMarks op b=false):PE X (.Compare a [op] [b] pos) (tOp r ta tb):=by
 intro pins s σ H Q I h
 exact wpAny_Compare1 (qJf ha hb I h fun v u s2 x y H2 I2 rx ry q=>ho pins s2 σ H2 x y v u Q I2 rx ry q) hm
def qJv (t:TE):TT:=fun σ H Q=>t σ H fun x H' => ∃ k,x = .bl k∧Q k H'
theorem qG0 {op:CmpOp} {r:R2} (ho:OpR X (compareOp op) r) (ha:PE X a ta) (hb:PE X b tb) (hm:behindInMarks op b=false):PT X (.Compare a [op] [b] pos) (qJv (tOp r ta tb)):=by
 intro pins s σ H Q I h
 refine wpAny_isTrue_Compare1 (thn (ha pins s σ H _ I h) fun v s1 ⟨x,H1,I1,r1,q1⟩=>thn (hb pins s1 σ H1 _ I1 q1) fun u s2 ⟨y,H2,I2,r2,q2⟩ =>
  thn (ho pins s2 σ H2 x y v u _ I2 r1 r2 q2) fun c s3 ⟨z,H3,I3,r3,k,e,q3⟩ => ?_) hm
 subst e
 cases r3
 exact CK ⟨H3,I3,q3⟩
def qJW (r r':R2) (ta tb tc:TE):TE:=fun σ H Q=>ta σ H fun x H1=>tb σ H1 fun y H2=>r x y H2 fun z H3 => ∃ k,z = .bl k ∧
 (if k=true then tc σ H3 fun w' H4=>r' y w' H4 Q else Q (.bl false) H3)
theorem qFP {op op':CmpOp} {r r':R2} (ho:OpR X (compareOp op) r) (ho':OpR X (compareOp op') r') (ha:PE X a ta) (hb:PE X b tb) (hc:PE X c tc)
  (hm:lastMarks [op,op'] [b,c]=false:=by with_unfolding_all rfl):PE X (.Compare a [op,op'] [b,c] pos) (qJW r r' ta tb tc):=by
 intro pins s σ H Q I h
 refine Compare_chain (thn (ha pins s σ H _ I h) fun v s1 ⟨x,H1,I1,r1,q1⟩=>chain_link (thn (hb pins s1 σ H1 _ I1 q1) fun u s2 ⟨y,H2,I2,r2,q2⟩ =>
  thn (ho pins s2 σ H2 x y v u _ I2 r1 r2 q2) fun d s3 ⟨z,H3,I3,r3,k,e,q3⟩ => ?_)) hm
 subst e
 cases r3
 refine CK ?_
 cases k with
 |false=>exact ite_ff ⟨.bl false,H3,I3,rfl,q3⟩
 |true=>exact ite_tt (chain_last (thn (hc pins s3 σ H3 _ I3 q3) fun w' s4 ⟨z',H4,I4,r4,q4⟩=>ho' pins s4 σ H4 y z' u w' Q I4 r2 r4 q4))
def qGU (K:W.Frag) (x:V) (H:Hp) (k:Bool):Prop :=
 match x with
 | .non=>k=false
 | .bl b=>k=b
 | .int i=>k=(i != 0)
 | .str y=>y.length≤sizeLine∧k=((y.length:Int) != 0)
 | .byt y=>y.size≤sizeLine∧k=((y.size:Int) != 0)
 | .ref p=>(∃ xs,SqL K H p xs∧k = !xs.isEmpty)∨(∃ xs,SqT K H p xs∧k = !xs.isEmpty) ∨ ∃ kvs,H p=some (.dK kvs)∧k = !kvs.isEmpty
 |_=>False
theorem qBV {κ:Type} {kvs:List (κ×V)} {vs:List (κ×Value)} (r:KV kvs vs):(!vs.isEmpty) = !kvs.isEmpty:=by
 cases r <;> rfl
theorem Ym {xs:List V} {its:List Value} (r:Vals xs its):(!its.toArray.isEmpty) = !xs.isEmpty:=by
 cases r <;> simp
theorem Zu:(sizeLine:Nat) < 2 ^ 63:=by rw [CZ];decide
theorem qI0:qK8 X (fun x H Q => ∃ k,qGU X.K x H k∧Q k H):=by
 intro pins s σ H x v Q I rx h
 obtain ⟨k,e,q⟩:=h
 have hl:=Zu
 have hs:sizeLine=16777216:=CZ
 cases x with
 |non =>
  cases rx
  have e':k=false:=e
  subst e'
  exact truthy_none ⟨H,I,q⟩
 |bl b =>
  cases rx
  have e':k=b:=e
  subst e'
  exact CK ⟨H,I,q⟩
 |int i =>
  obtain ⟨t,rfl⟩:=rx
  have e':k=(i != 0):=e
  subst e'
  exact PySem.P.truthy_int ⟨H,I,q⟩
 |str y =>
  obtain ⟨t,rfl⟩:=rx
  obtain ⟨hy,e'⟩:y.length≤sizeLine∧k=((y.length:Int) != 0):=e
  subst e'
  exact PySem.P.truthy_str (by omega) ⟨H,I.tok _,q⟩
 |byt y =>
  obtain ⟨t,rfl⟩:=rx
  obtain ⟨hy,e'⟩:y.size≤sizeLine∧k=((y.size:Int) != 0):=e
  subst e'
  exact W.truthy_bytes (by omega) ⟨H,I.tok _,q⟩
 |ref p =>
  cases rx
  have e':(∃ xs,SqL X.K H p xs∧k = !xs.isEmpty)∨(∃ xs,SqT X.K H p xs∧k = !xs.isEmpty) ∨ ∃ kvs,H p=some (.dK kvs)∧k = !kvs.isEmpty:=e
  rcases e' with ⟨xs,hx,e'⟩ |⟨xs,hx,e'⟩ |⟨kvs,hx,e'⟩
  ·subst e'
   obtain ⟨its,r,pl,hz⟩:=I.list hx
   have hlen:=r.length
   exact wpAny_truthy_list pl.isList (by simp only [AS];omega) ⟨H,I.tok _,by rw [Ym r];exact q⟩
  ·subst e'
   obtain ⟨its,r,pl,hz⟩:=I.tuple hx
   have hlen:=r.length
   exact truthy_tuple pl (by simp only [AS];omega) ⟨H,I.tok _,by rw [Ym r];exact q⟩
  ·subst e'
   obtain ⟨hz,hS,vs,r,m⟩:kvs.length≤sizeLine∧(p==sysModules)=false ∧ ∃ vs,KV kvs vs∧s.heap.DictOf (Jo X.prog X.w) p vs:=I.hok p _ hx
   have hlen:kvs.length=vs.length:=Paired.length r
   exact wpAny_truthy_dict hS m (by omega) ⟨H,I.tok _,by rw [qBV r];exact q⟩
 |_=>exact (show False from e).elim
theorem qFt (ha:PE X a ta) (he:∀ whole,isTrue a X.env whole=(do let v ← whole;standAt a.pos;holding [v] (truthy v))) :
  PT X a (fun σ H Q=>ta σ H fun x H' => ∃ k,qGU X.K x H' k∧Q k H'):=by
 intro pins s σ H Q I h
 exact isTrue_plain (thn (ha pins s σ H _ I h) fun v s1 ⟨x,H1,I1,r1,q1⟩=>qI0 pins s1 σ H1 x v Q I1 r1 q1) (he _)
theorem qBy:OpR X (binaryOp .Add) (fun x y H Q => ∃ i j,x = .str i∧y = .str j∧i.length + j.length≤sizeLine∧Q (.str (i++j)) H):=by
 intro pins s σ H x y v u Q I rx ry h
 obtain ⟨i,j,rfl,rfl,hz,q⟩:=h
 obtain ⟨t,rfl⟩:=rx
 obtain ⟨t',rfl⟩:=ry
 exact add_str (fun t' tk=>⟨.str (i++j),H,I.tok _,⟨_,rfl⟩,q⟩) hz
theorem yv {x:V} {us:List Value} (r:Vals [x] us):∃ u,us=[u]∧RelV x u:=by
 cases r with
 |cons r1 r2=>cases r2;exact ⟨_,rfl,r1⟩
theorem qCE {x y:V} {us:List Value} (r:Vals [x,y] us):∃ u w',us=[u,w']∧RelV x u∧RelV y w':=by
 cases r with
 |cons r1 r2 =>
  cases r2 with
  |cons r3 r4=>cases r4;exact ⟨_,_,rfl,r1,r3⟩
theorem qDZ (hc:X.calm=true):zH X (.builtin "max") (fun xs H Q => ∃ i j,xs=[.int i,.int j]∧Q (.int (if j > i then j else i)) H):=by
 intro pins s σ H xs us Q I r h
 obtain ⟨i,j,rfl,q⟩:=h
 obtain ⟨u,w',rfl,⟨t,rfl⟩,⟨t',rfl⟩⟩:=qCE r
 refine max_two_ints (I.ok.hd hc) fun h' tk k=>⟨_,H,I.kept k,?_,q⟩
 by_cases hj:j > i
 ·rw [AG hj,AG hj];exact ⟨_,rfl⟩
 ·rw [AN hj,AN hj];exact ⟨_,rfl⟩
theorem qDI (hc:X.calm=true):zH X (.builtin "min") (fun xs H Q => ∃ i j,xs=[.int i,.int j]∧Q (.int (if j < i then j else i)) H):=by
 intro pins s σ H xs us Q I r h
 obtain ⟨i,j,rfl,q⟩:=h
 obtain ⟨u,w',rfl,⟨t,rfl⟩,⟨t',rfl⟩⟩:=qCE r
 refine min_two_ints (I.ok.hd hc) fun h' tk k=>⟨_,H,I.kept k,?_,q⟩
 by_cases hj:j < i
 ·rw [AG hj,AG hj];exact ⟨_,rfl⟩
 ·rw [AN hj,AN hj];exact ⟨_,rfl⟩
theorem qDA:zH X (.type "int") (fun xs H Q=>(∃ i,xs=[.int i]∧Q (.int i) H) ∨ ∃ k,xs=[.bl k]∧Q (.int (if k then 1 else 0)) H):=by
 intro pins s σ H xs us Q I r h
 rcases h with ⟨i,rfl,q⟩ |⟨k,rfl,q⟩
 ·obtain ⟨u,rfl,t,rfl⟩:=yv r
  exact call_int_int ⟨.int i,H,I,⟨_,rfl⟩,q⟩
 ·obtain ⟨u,rfl,r1⟩:=yv r
  cases r1
  exact call_int_bool ⟨.int (if k then 1 else 0),H,I.tok _,⟨_,rfl⟩,q⟩
end
end L2
namespace L2
open PySem PySem.Spec PyProof.Rows
end L2
namespace L2
open PySem PySem.Spec PyProof.Rows
structure Room (k:Nat) (A:Around):Prop where
 hd:1 < k->A.handled=none
 dp:A.depth + 3 * k + 5 < recursionLimit
 un:A.units + 16 * k + 200 < cLine
 gd:A.guards=some []
theorem Room.mono {j k:Nat} {A:Around} (r:Room k A) (h:j≤k):Room j A:=⟨fun z=>r.hd (by omega),by have:=r.dp;omega,by have:=r.un;omega,r.gd⟩
theorem Room.deeper {k:Nat} {A:Around} (r:Room (k + 1) A) (env:Env):Room k (A.deeper env) :=
 ⟨fun z=>r.hd (by omega),by have:=r.dp;show A.depth + 1 + 3 * k + 5 < _;omega,by have:=r.un;show A.units + 3 + 16 * k + 200 < _;omega,r.gd⟩
theorem Room.depth {k:Nat} {A:Around} (r:Room k A):A.depth < recursionLimit:=by have:=r.dp;omega
theorem Room.units {k:Nat} {A:Around} (r:Room k A):A.units + 64 < cLine:=by have:=r.un;omega
def qKo:TA:=fun _ H Q=>Q [] H
def qJu (ta:TE) (tr:TA):TA:=fun σ H Q=>ta σ H fun x H1=>tr σ H1 fun xs H2=>Q (x::xs) H2
section
variable {X:Cx} {e:Expr} {es:List Expr} {te:TE} {t:TA} {pos:Pos}
theorem Yz:PA X [] qKo:=fun _ _ _ _ H Q I h=>Calls.spliced_nil ⟨[],H,I,.nil,h⟩
theorem yG (ha:PE X e te) (hr:PA X es t) (hs:starEach (e::es) X.env=(false,eval e X.env)::starEach es X.env:=by rfl):PA X (e::es) (qJu te t):=by
 intro pos pins s σ H Q I h
 rw [hs]
 show wpAny _ _ (spliced ((false,eval e X.env)::backTo pos (starEach es X.env))) _ _ s
 refine Calls.spliced_cons (thn (ha pins s σ H _ I h) fun u s1 ⟨x,H1,I1,r1,q1⟩ => ?_)
 exact thn (hr pos pins s1 σ H1 _ I1 q1) fun us s2 ⟨xs,H2,I2,r2,q2⟩=>⟨x::xs,H2,I2,.cons r1 r2,q2⟩
def qLA (t:TA):TE:=fun σ H Q=>t σ H fun xs H1=>xs.length≤sizeLine ∧ ∀ p,H1 p=none->Q (.ref p) (upd H1 p (.tup xs))
def qLK (t:TA):TE:=fun σ H Q=>t σ H fun xs H1=>xs.length≤sizeLine ∧ ∀ p,H1 p=none->Q (.ref p) (upd H1 p (.lst xs))
theorem qH9 {x1} (h:PA X es t):PE X (.Tuple es x1 pos) (qLA t):=by
 intro pins s σ H Q I hq
 refine wpAny_Tuple_spliced (thn (h pos pins s σ H _ I hq) fun us s1 ⟨xs,H1,I1,r,z,q⟩=>⟨by rw [← r.length];exact z,?_⟩)
 have hf:H1 s1.heap.objs.size=none:=I1.hok.fresh (AL _)
 refine ⟨.ref s1.heap.objs.size,upd H1 s1.heap.objs.size (.tup xs),I1.laid (t':=s1.toks) (fun b u e=>AC _ e) (AL _) ?_,rfl,q _ hf⟩
 exact ⟨z,us,r,⟨_,AV _ rfl,rfl,_,rfl⟩⟩
theorem qIu (h:PA X es t):PE X (.List es pos) (qLK t):=by
 intro pins s σ H Q I hq
 refine wpAny_List_spliced (thn (h pos pins s σ H _ I hq) fun us s1 ⟨xs,H1,I1,r,z,q⟩=>⟨by rw [← r.length];exact z,?_⟩)
 have hf:H1 s1.heap.objs.size=none:=I1.hok.fresh (AL _)
 refine ⟨.ref s1.heap.objs.size,upd H1 s1.heap.objs.size (.lst xs),I1.laid (t':=s1.toks) (fun b u e=>AC _ e) (AL _) ?_,rfl,q _ hf⟩
 exact ⟨z,us,0,r,AV _ rfl⟩
end
abbrev Sp:=List V->Hp->VK->XK->Prop
abbrev CXT:=List Env->Hp->Shared->XK->Value->Shared->Prop
structure Env0 (P:Program) (w:World) (K:W.Frag) (mg:Str->Option Value) (base:Heap) (A:Around) (outer:List Env) (s:Shared) (H:Hp):Prop where
 frames:A.frames=some outer
 mod:Mod K mg base
 bs:∀ b o,base.get? b=some o->s.heap.get? b=some o∧H b=none
 bsz:base.objs.size≤s.heap.objs.size
 funs:s.heap.FunFrames base outer
 frf:∀ b∈frs outer,H b=none
 hok:HOk P w H s.heap
 bare:AllBare s.gens
 hnd:HndH A H
def CE (outer:List Env) (P:Program) (w:World) (H:Hp) (s:Shared) (Q:VK) (u:Value) (s':Shared):Prop :=
 ∃ v H',s'.os=s.os∧AllBare s'.gens∧Un (frs outer) [] H H' s.heap s'.heap∧HOk P w H' s'.heap∧RelV v u∧Q v H'
def CR (CX:CXT) (outer:List Env) (P:Program) (w:World) (H:Hp) (s:Shared) (Q:VK) (E:XK) (r:Result) (s':Shared):Prop :=
 match r with
 | .ok (.ret u)=>CE outer P w H s Q u s'
 | .ok _=>False
 | .error e=>CX outer H s E e s'
structure FnOk (P:Program) (w:World) (K:W.Frag) (mg:Str->Option Value) (base:Heap) (CX:CXT) (k:Nat) (f:Addr) (fd:FuncData) (ps:List Str) (sp:Sp):Prop where
 len:∀ vs H Q E,sp vs H Q E->vs.length=ps.length
 run:∀ (A:Around) (outer:List Env) (s:Shared) (H:Hp) (args:Args) (us:List Value) (vs:List V) (Q:VK) (E:XK),Room k A->Env0 P w K mg base A outer s H->BindsTo s fd args (ps.zip us)->Vals vs us->sp vs H Q E ->
  codeAny (model P w) A (.call (.ref f) args) (CR CX outer P w H s Q E) s
section
variable {X:Cx} {pins:List (Addr×Obj)} {σ:St} {H:Hp} {s s':Shared}
theorem Inv.env0 (I:Inv X pins σ H s):Env0 X.prog X.w X.K X.mg X.base X.A X.stack s H :=
 ⟨I.ok.frames,I.ok.mod,I.bs,Aa I.ok.bsz I.sz,I.stack,I.stkFree,I.hok,I.bare,I.hnd⟩
theorem Inv.after {Q:VK} {u:Value} (I:Inv X pins σ H s) (h:CE X.stack X.prog X.w H s Q u s'):EP X pins σ Q u s':=by
 obtain ⟨v,H',os,bare,un,hok,r,q⟩:=h
 obtain ⟨hh,g,d,t,os'⟩:=s'
 obtain rfl:os'=s.os:=os
 exact ⟨v,H',I.call (h':=hh) (g':=g) (d':=d) (t':=t) (ch:=[]) un hok bare (fun b z=>absurd z (by simp)),r,q⟩
end
def qKY (sp:Sp) (dvs:List V) (E:XK) (t:TA):TE:=fun σ H Q=>t σ H fun vs H1=>sp (vs++dvs) H1 Q E
def Binds (K:W.Frag) (fd:FuncData) (ps:List Str) (ds:List Value):Prop :=
 ∀ (s:Shared) (us:List Value),K.In s.heap->(us++ds).length=ps.length->BindsTo s fd ⟨us,[]⟩ (ps.zip (us++ds))
theorem Binds.all {K:W.Frag} {fd:FuncData} {ps:List Str} (h:∀ us:List Value,us.length=ps.length->bindArgs fd ⟨us,[]⟩=pure (ps.zip us)):Binds K fd ps []:=fun s us _ hl=>by
 rw [A6] at hl ⊢
 exact .of_eq (h us hl)
def ZN (CX:CXT) (X:Cx) (E:XK):Prop := ∀ (pins:List (Addr×Obj)) (σ:St) (H:Hp) (s:Shared) (e:Value) (s':Shared),Inv X pins σ H s->CX X.stack H s E e s'->X.xe e s'
section
variable {X:Cx} {CX:CXT} {k:Nat} {f C:Addr} {fd:FuncData} {ps:List Str} {sp:Sp} {dvs:List V} {ds:List Value} {E:XK} {x m:Str} {p pos apos:Pos} {e o:Expr} {es:List Expr} {ta:TE} {t:TA}
theorem qJi {pins:List (Addr×Obj)} {σ:St} {H:Hp} {s:Shared} {Q:VK} {us:List Value} {vs:List V} (F:FnOk X.prog X.w X.K X.mg X.base CX k f fd ps sp) (hr:Room k X.A) (hb:Binds X.K fd ps ds) (hd:Vals dvs ds) (hx:ZN CX X E)
  (I:Inv X pins σ H s) (r:Vals vs us) (h:sp (vs++dvs) H Q E):wpAny (model X.prog X.w) X.A (call (.ref f) us) (EP X pins σ Q) X.xe s:=by
 have r2:Vals (vs++dvs) (us++ds):=r.append hd
 have hl:(us++ds).length=ps.length:=by rw [← r2.length];exact F.len _ _ _ _ h
 refine CD (codeAny_mono (F.run X.A X.stack s H ⟨us,[]⟩ (us++ds) (vs++dvs) Q E hr I.env0 (hb s us I.kIn hl) r2 h) fun r s' hq => ?_)
 cases r with
 |error e=>exact hx pins σ H s e s' I hq
 |ok fl =>
  cases fl with
  |ret u=>exact I.after hq
  |next=>exact False.elim hq
  |brk=>exact False.elim hq
  |cont=>exact False.elim hq
theorem qGj (F:FnOk X.prog X.w X.K X.mg X.base CX k f fd ps sp) (hr:Room k X.A) (hg:Gl X x) (hm:X.mg x=some (.ref f)) (hk:W.keepIn X.K (.ref f)=true) (hb:Binds X.K fd ps ds) (hd:Vals dvs ds) (hx:ZN CX X E)
  (ha:PA X (e::es) t) (hdb:(x==("__debug__":Str))=false:=by decide) (he:starEach (e::es) X.env=(false,eval e X.env)::starEach es X.env:=by rfl) (hpl:(backTo pos (starEach es X.env)).any (·.1)=false:=by rfl) :
  PE X (.Call (.Name x p) (e::es) [] pos) (qKY sp dvs E t):=by
 intro pins s σ H Q I h
 refine By (Jj I hg hm ?_ hdb)
 refine W.callWith_K (h₀:=X.base) I.ok.mod.kin hk (thn (ha pos pins s σ H _ I h) fun us s1 ⟨vs,H1,I1,r,q⟩=>⟨I1.kIn,?_⟩) he hpl
 exact qJi F hr hb hd hx I1 r q
end
structure FnScope (N P:List Str) (sc:Scope):Prop where
 kind:sc.kind = .function
 co:sc.isCoroutine=false
 gen:sc.isGenerator=false
 nd:N.Nodup
 pre:N.take P.length=P
 par:∀ x∈P,sc.names.lookup x=some .local∨sc.names.lookup x=some .cell
 nofree:∀ y∈sc.names,y.2 ≠ .free
theorem jz {kindOf:Str->Option NameKind} {x:Str}:∀ {binds:List (Str×Value)} {m:Str->Option Value},(∀ v,(x,v) ∉ binds)->bindL kindOf binds m x=m x
 |[],_,_=>rfl
 |(n,v)::r,m,h=>by
  unfold bindL
  rw [jz fun w hw=>h w (AD _ hw)]
  split
  ·have:x≠n:=by rintro rfl;exact h v AI
   simp [this]
  ·rfl
theorem ju {kindOf:Str->Option NameKind} {x:Str}:∀ {binds:List (Str×Value)} {m:Str->Option Value},(∀ v,(x,v) ∉ binds)->bindC kindOf binds m x=m x
 |[],_,_=>rfl
 |(n,v)::r,m,h=>by
  unfold bindC
  rw [ju fun w hw=>h w (AD _ hw)]
  split
  ·rfl
  ·have:x≠n:=by rintro rfl;exact h v AI
   simp [this]
theorem jo {kindOf:Str->Option NameKind} {x:Str} {v:Value}:∀ {P:List Str} {vs:List Value} {i:Nat} {m:Str->Option Value},P.Nodup->P[i]? = some x->vs[i]? = some v->kindOf x=some .local ->
  bindL kindOf (P.zip vs) m x=some v
 |[],_,_,_,_,h,_,_=>by simp at h
 |_::_,[],_,_,_,_,h,_=>by simp at h
 |p::P,w::vs,0,m,nd,h1,h2,hk=>by
  simp at h1 h2;subst h1;subst h2
  show bindL kindOf ((p,w)::P.zip vs) m p=_
  unfold bindL
  rw [jz fun v hv=>(BM.mp nd).1 (List.of_mem_zip hv).1,AG hk]
  simp
 |p::P,w::vs,i + 1,m,nd,h1,h2,hk=>by
  show bindL kindOf ((p,w)::P.zip vs) m x=_
  unfold bindL
  exact jo (i:=i) (BM.mp nd).2 (by simpa using h1) (by simpa using h2) hk
theorem jx {kindOf:Str->Option NameKind} {x:Str} {v:Value}:∀ {P:List Str} {vs:List Value} {i:Nat} {m:Str->Option Value},P.Nodup->P[i]? = some x->vs[i]? = some v->kindOf x≠some .local ->
  bindC kindOf (P.zip vs) m x=some v
 |[],_,_,_,_,h,_,_=>by simp at h
 |_::_,[],_,_,_,_,h,_=>by simp at h
 |p::P,w::vs,0,m,nd,h1,h2,hk=>by
  simp at h1 h2;subst h1;subst h2
  show bindC kindOf ((p,w)::P.zip vs) m p=_
  unfold bindC
  rw [ju fun v hv=>(BM.mp nd).1 (List.of_mem_zip hv).1,AN hk]
  simp
 |p::P,w::vs,i + 1,m,nd,h1,h2,hk=>by
  show bindC kindOf ((p,w)::P.zip vs) m x=_
  unfold bindC
  exact jx (i:=i) (BM.mp nd).2 (by simpa using h1) (by simpa using h2) hk
def start (N:List Str) (vs:List V):St:=vs.map some++List.replicate (N.length - vs.length) none
def wj (CX:CXT) (P:Program) (w:World) (K:W.Frag) (mg:Str->Option Value) (base:Heap) (N:List Str) (qual:Str) (scope:Scope) (f:Addr) (cd:Value) (A:Around) (outer:List Env) (s:Shared) (H:Hp) (E:XK):Cx where
 prog:=P
 w:=w
 K:=K
 mg:=mg
 base:=base
 A:=A.deeper (envOfC qual scope s.heap.objs.size f cd)
 N:=N
 s₀:=s
 H₀:=H
 env:=envOfC qual scope s.heap.objs.size f cd
 outer:=outer
 stack:=envOfC qual scope s.heap.objs.size f cd::outer
 ex:=[]
 calm:=A.handled.isNone
 fn:=fun _=>true
 pn:=[]
 xe:=fun e s'=>wpAny (model P w) (A.deeper (envOfC qual scope s.heap.objs.size f cd)) (leaving (envOfC qual scope s.heap.objs.size f cd) e) (fun _ s''=>CX outer H s E e s'') (fun e' s''=>CX outer H s E e' s'') s'
theorem qAB {sc:Scope} {n:Nat} {x:Str} (h:sc.names.lookup x=some .cell):∃ c,(cellsFrom n sc.names []).lookup x=some c:=by
 have q:=W.cellsFrom_some sc.names n [] (.inl h)
 exact Option.isSome_iff_exists.mp q
theorem qDo {CX:CXT} {P:Program} {w:World} {K:W.Frag} {mg:Str->Option Value} {base:Heap} {N ps:List Str} {qual:Str} {scope:Scope} {f:Addr} {cd:Value} {A:Around} {outer:List Env} {s s1:Shared} {H:Hp} {E:XK} {us:List Value} {vs:List V}
  (S:FnScope N ps scope) (e0:Env0 P w K mg base A outer s H) (hl:vs.length=ps.length) (r:Vals vs us)
  (x:InCallC s s.heap.objs.size (bindL (envOfC qual scope s.heap.objs.size f cd).kindOf (ps.zip us) fun _=>none) (cellsFrom (s.heap.objs.size + 1) scope.names []) (bindC (envOfC qual scope s.heap.objs.size f cd).kindOf (ps.zip us) fun _=>none) s1) :
  Inv (wj CX P w K mg base N qual scope f cd A outer s H E) [] (start N vs) H s1:=by
 have hpl:ps.length≤N.length:=by have:=CH List.length S.pre;rw [Bh] at this;omega
 obtain ⟨h1,tk,rfl,hk⟩:=x.done
 have noA:∀ b:Addr,b ∉ (wj CX P w K mg base N qual scope f cd A outer s H E).ex:=fun b z=>absurd (show b∈([]:List Addr) from z) (by simp)
 refine ⟨⟨e0.mod,S.kind,rfl,rfl,AL _,fun y z c h1 h2 => ?_,fun y hy => ?_,fun y c _ h => ?_,fun z=>Option.isNone_iff_eq_none.mp z,Around.frames_deeper e0.frames,.inr ⟨rfl,rfl⟩,fun b z=>absurd z (noA b),e0.bs,e0.bsz,fun b _ _=>noA b,fun b z=>absurd z (noA b),e0.funs,e0.frf⟩,
  rfl,e0.bare,Un.kept hk,⟨_,x.toInCall.ns,fun i y v h1 h2 h3 => ?_⟩,fun y c h=>⟨_,x.cell y c h⟩,e0.hok.fresh (AL _),fun y c h => ?_,fun p hp=>absurd (show p∈([]:List (Addr×Obj)) from hp) (by simp),e0.hok.kept hk,?_,e0.hnd⟩
 ·exact name_of_addr x.apart (Be h1) (Be h2)
 ·have hy:scope.names.lookup y=some .cell∨scope.names.lookup y=some .free:=hy
  rcases hy with hy |hy
  ·exact qAB hy
  ·exact absurd rfl (S.nofree _ (Be hy))
 ·exact Ch (x.above y c (Be h))
 ·have hi:i < vs.length:=by
   unfold start at h2
   by_cases hi:i < vs.length
   ·exact hi
   ·rw [Af (by simpa using hi)] at h2
    rw [BC] at h2
    split at h2 <;> cases h2
  have ha:vs[i]? = some v:=by
   unfold start at h2
   rw [Ae (by simpa using hi),Ao] at h2
   cases e:vs[i]? with
   |none=>rw [e] at h2;cases h2
   |some a=>rw [e] at h2;cases h2;rfl
  obtain ⟨u,hu,rv⟩:=r.get ha
  have hp:ps[i]? = some y:=by
   rw [← S.pre,List.getElem?_take_of_lt (by omega)];exact h1
  have ndP:ps.Nodup:=by rw [← S.pre];exact S.nd.sublist (List.take_sublist _ _)
  refine ⟨u,rv,?_⟩
  rcases S.par y (Aw hp) with k |k
  ·exact .inl ⟨k,jo ndP hp hu k⟩
  ·obtain ⟨c,e⟩:=qAB (n:=s.heap.objs.size + 1) k
   refine .inr ⟨.inl k,c,e,?_⟩
   have q:=x.cell y c e
   rw [jx ndP hp hu (by show scope.names.lookup y≠_;rw [k];decide)] at q
   exact q
 ·exact e0.hok.fresh (Ch (x.above y c (Be h)))
 ·unfold start
  show _=N.length
  rw [AO,AF,List.length_replicate]
  omega
theorem qJ9 {CX:CXT} {P:Program} {w:World} {K:W.Frag} {mg:Str->Option Value} {base:Heap} {k:Nat} {f:Addr} {name qual:Str} {params:Arguments} {body:List Stmt} {scope:Scope} {dV kV doc pm cdv ct oc:Value} {an od:Option Addr}
  {osl:Array (Option Value)} {N ps:List Str} {sp:Sp} (lk:K.lookup f=some ⟨oc,od,.func (W.fnOf name qual params body scope dV kV doc pm an cdv ct),osl⟩) (hcd:W.codeIn K cdv qual=true) (S:FnScope N ps scope)
  (len:∀ vs H Q E,sp vs H Q E->vs.length=ps.length)
  (hbody:∀ (A:Around) (outer:List Env) (s:Shared) (H:Hp) (vs:List V) (Q:VK) (E:XK),Room k (A.deeper (envOfC qual scope s.heap.objs.size f cdv))->(0 < k->A.handled=none)->sp vs H Q E ->
   ∃ t,PSs (wj CX P w K mg base N qual scope f cdv A outer s H E) body t∧t { nx:=fun _ H'=>Q .non H',rt:=Q } (start N vs) H) :
  FnOk P w K mg base CX (k + 1) f (W.fnOf name qual params body scope dV kV doc pm an cdv ct) ps sp:=by
 refine ⟨len,fun A outer s H args us vs Q E hr e0 hb r hsp => ?_⟩
 have hl:=len _ _ _ _ hsp
 have KX:K.In s.heap:=e0.mod.kin.keeps fun b o e=>(e0.bs b o e).1
 have lim:s.heap.NoLimit:=e0.mod.nolimit.keeps fun b o e=>(e0.bs b o e).1
 have hkind:∀ y∈ps.zip us,scope.names.lookup y.1=some .local∨(scope.names.lookup y.1=some .cell∧((cellsFrom (s.heap.objs.size + 1) scope.names []).lookup y.1).isSome=true):=fun ⟨n,v⟩ hy=>by
  rcases S.par n (List.of_mem_zip hy).1 with q |q
  ·exact .inl q
  ·exact .inr ⟨q,W.cellsFrom_some _ _ _ (.inl q)⟩
 refine codeAny_call_function hr.depth (KX _ _ lk) rfl S.co S.gen rfl (W.codeRec_of KX hcd) (hb _ _ _ _ ?_)
 refine wpAny_newFunctionEnv_cells S.kind hkind fun env he s1 x => ?_
 subst he
 refine ⟨lim.keeps x.toInCall.keep,codeAny_func ?_⟩
 obtain ⟨t,ht,hq⟩:=hbody A outer s H vs Q E (hr.deeper _) (fun z=>hr.hd (by omega)) hsp
 have I:Inv (wj CX P w K mg base N qual scope f cdv A outer s H E) [] (start N vs) H s1:=qDo S e0 hl r x
 refine Bg (ht [] s1 (start N vs) H _ I hq) (fun fl s' hs => ?_) fun e s' hs=>hs
 have fin:∀ {σ':St} {H':Hp} {v:V} {u:Value},Inv (wj CX P w K mg base N qual scope f cdv A outer s H E) [] σ' H' s'->RelV v u->Q v H'->CE outer P w H s Q u s' :=
  fun {σ' H' v u} J rv q=>⟨v,H',J.os,J.bare,J.base,J.hok,rv,q⟩
 cases fl with
 |ret u =>
  obtain ⟨v,σ',H',J,rv,q⟩:=hs
  exact fin J rv q
 |next =>
  obtain ⟨σ',H',J,q⟩:=hs
  exact fin (v:=V.non) (u:=Value.none) J rfl q
 |brk =>
  obtain ⟨_,_,_,q⟩:=hs
  exact False.elim q
 |cont =>
  obtain ⟨_,_,_,q⟩:=hs
  exact False.elim q
end L2
namespace L2
open PySem PySem.Spec PyProof.Rows
section
variable {X:Cx} {x:Str} {p pos:Pos} {e:Expr} {es:List Expr} {t:TA} {id T:String} {r:List V->Hp->VK->Prop}
def tCB (r:List V->Hp->VK->Prop) (t:TA):TE:=fun σ H Q=>t σ H fun vs H1=>r vs H1 Q
theorem qFo (hc:zH X (.builtin id) r) (hg:Gl X x) (hm:X.mg x=none) (hv:bootBuiltins x=some (.builtin id)) (ha:PA X (e::es) t) (hn:x ≠ "__name__" := by decide) (hdb:(x==("__debug__":Str))=false:=by decide)
  (he:starEach (e::es) X.env=(false,eval e X.env)::starEach es X.env:=by rfl) (hpl:(backTo pos (starEach es X.env)).any (·.1)=false:=by rfl):PE X (.Call (.Name x p) (e::es) [] pos) (tCB r t):=by
 intro pins s σ H Q I h
 refine By (Zt I hg hm hv ?_ hn hdb)
 exact PyProof.Rows.callWith_builtin1 (thn (ha pos pins s σ H _ I h) fun us s1 ⟨vs,H1,I1,r1,q1⟩=>hc pins s1 σ H1 vs us Q I1 r1 q1) he hpl
theorem jO (hc:zH X (.type T) r) (hg:Gl X x) (hm:X.mg x=none) (hv:bootBuiltins x=some (.type T)) (ha:PA X (e::es) t) (hn:x ≠ "__name__" := by decide) (hdb:(x==("__debug__":Str))=false:=by decide)
  (he:starEach (e::es) X.env=(false,eval e X.env)::starEach es X.env:=by rfl) (hpl:(backTo pos (starEach es X.env)).any (·.1)=false:=by rfl):PE X (.Call (.Name x p) (e::es) [] pos) (tCB r t):=by
 intro pins s σ H Q I h
 refine By (Zt I hg hm hv ?_ hn hdb)
 exact Bw (thn (ha pos pins s σ H _ I h) fun us s1 ⟨vs,H1,I1,r1,q1⟩=>hc pins s1 σ H1 vs us Q I1 r1 q1) he hpl
end
end L2
namespace HT
open PySem PyProof.Rows
section
variable {prog:Program} {w:World} {A:Around} {E:Value->Shared->Prop} {s:Shared}
theorem cat_tup {t b:Addr} {vs ws:List Value} {Q:Value->Shared->Prop} (ht:IsTup s.heap t vs.toArray) (hb:IsTup s.heap b ws.toArray) (hv:vs≠[])
  (h1:ws=[]->Q (.ref t) s) (h2:ws≠[]->Q (.ref s.heap.objs.size) { s with heap:=s.heap.push { cls := .type "tuple",data := .seq (vs++ws).toArray } })
  (hsz:vs.length + ws.length≤sizeLine):wpAny (model prog w) A (binaryOp .Add (.ref t) (.ref b)) Q E s:=by
 obtain ⟨⟨cls,dd,data,sl⟩,ho,hc,n,hd⟩:=id ht
 obtain ⟨⟨cls2,dd2,data2,sl2⟩,ho2,hc2,n2,hd2⟩:=id hb
 simp only at hc hd hc2 hd2
 subst hc hd hc2 hd2
 have e:vs.toArray++ws.toArray=(vs++ws).toArray:=by simp
 by_cases hw:ws=[]
 ·exact concat_meets ⟨_,ho,rfl⟩ ⟨_,ho2,rfl⟩ noFill_tuple_add seq_tuple_add PySem.F.slot_tuple_add PySem.F.entry_tuple_add (PySem.F.args_tuple_add_2 _ _)
   (tuple_addW1 t b vs.toArray ws.toArray n n2 dd dd2 sl sl2 (by simpa using hv) (by simp [hw])) ⟨ho,ho2,h1 hw⟩
 ·refine concat_meets ⟨_,ho,rfl⟩ ⟨_,ho2,rfl⟩ noFill_tuple_add seq_tuple_add PySem.F.slot_tuple_add PySem.F.entry_tuple_add (PySem.F.args_tuple_add_2 _ _)
   (tuple_addW2 t b vs.toArray ws.toArray n n2 dd dd2 sl sl2 (by simpa using hv) (by simpa using hw) (by rw [AS,AS];exact hsz)) ⟨ho,ho2,?_⟩
  rw [e]
  exact h2 hw
def sIx (n d:Nat):Option Int->Nat
 |none=>d
 |some v=>if v < 0 then (v + (n:Int)).toNat else min v.toNat n
theorem sIx_nat (n d k:Nat):sIx n d (some (k:Int))=min k n:=by
 show (if (k:Int) < 0 then ((k:Int) + (n:Int)).toNat else min (k:Int).toNat n)=min k n
 rw [AN (by omega),BD]
theorem qIH (n d:Nat) (hd:d≤n) (o:Option Int):sIx n d o≤n:=by
 cases o with
 |none=>exact hd
 |some v =>
  show (if v < 0 then (v + (n:Int)).toNat else min v.toNat n)≤n
  by_cases hv:v < 0
  ·rw [AG hv];omega
  ·rw [AN hv];exact Nat.min_le_right _ _
theorem qC1 (v:Int) (n d:Nat):(if v < 0 then max (v + (n:Int)) 0 else min v (n:Int))=((sIx n d (some v):Nat):Int):=by
 show (if v < 0 then max (v + (n:Int)) 0 else min v (n:Int))=(((if v < 0 then (v + (n:Int)).toNat else min v.toNat n):Nat):Int)
 by_cases hv:v < 0
 ·simp only [AG hv];omega
 ·simp only [AN hv];omega
theorem qBj (lo hi:Option Int) (n:Nat):Builtin.Slice.sliceAdjust lo hi 1 (n:Int)=(((sIx n 0 lo:Nat):Int),((sIx n n hi:Nat):Int)):=by
 have h1:¬ ((1:Int) < 0):=by omega
 unfold Builtin.Slice.sliceAdjust
 simp only [h1,Bt]
 refine Prod.ext ?_ ?_
 ·cases lo with
  |none=>rfl
  |some v=>exact qC1 v n 0
 ·cases hi with
  |none=>rfl
  |some v=>exact qC1 v n n
theorem qBR (i j:Nat):Builtin.Slice.slicePlaces (i:Int) (j:Int) 1=j - i:=by
 unfold Builtin.Slice.slicePlaces
 have h1:(1:Int) > 0:=by omega
 simp only [h1,Ca,Int.ediv_one]
 split <;> omega
theorem W0 {v:Value} {o:Option Int} {Q:Option Int->Shared->Prop} (p:IsPart v o) (h:Q o s):wpAny (model prog w) A (Builtin.Slice.slicePartIndex v) Q E s:=by
 cases p with
 |none=>exact slicePart_none h
 |int i t=>exact slicePart_int h
theorem sliceApplied_gen {sl:Addr} {vl vu:Value} {lo hi:Option Int} {n:Nat} {Q:Int×Int×Nat->Shared->Prop} (hs:s.heap.IsSliceOf sl vl vu .none) (pl:IsPart vl lo) (pu:IsPart vu hi)
  (h:Q (((sIx n 0 lo:Nat):Int),1,sIx n n hi - sIx n 0 lo) s):wpAny (model prog w) A (Builtin.Slice.sliceApplied (.ref sl) (pure (n:Int))) Q E s:=by
 obtain ⟨os,hos,hcs,hds⟩:=id hs
 unfold Builtin.Slice.sliceApplied Builtin.Slice.sliceFields
 refine AA (AA (Aq hos hds (x:=vl) rfl (AA (Aq hos hds (x:=vu) rfl (AA (Aq hos hds (x := .none) rfl (AB ?_)))))))
 refine AA (slicePart_none ?_)
 show wpAny _ _ (if ((1:Int)==0)=true then _ else _) _ _ s
 rw [AN (by decide)]
 refine AA (W0 pl (AA (W0 pu (AA (AB ?_)))))
 show wpAny _ _ (match Builtin.Slice.sliceAdjust lo hi 1 (n:Int) with |(lo,hi)=>pure (lo,(1:Int),Builtin.Slice.slicePlaces lo hi 1)) _ _ s
 rw [qBj lo hi n]
 show wpAny _ _ (pure (((sIx n 0 lo:Nat):Int),(1:Int),Builtin.Slice.slicePlaces ((sIx n 0 lo:Nat):Int) ((sIx n n hi:Nat):Int) 1)) _ _ s
 rw [qBR]
 exact AB h
theorem qEH (xs:Array Value) (i k:Nat):((List.range k).filterMap fun (m:Nat)=>xs[((i:Int) + (m:Int) * 1).toNat]?).toArray=((xs.toList.drop i).take k).toArray:=by
 have e:(fun (m:Nat)=>xs[((i:Int) + (m:Int) * 1).toNat]?)=fun m=>xs[i + m]? := by
  funext m
  have:((i:Int) + (m:Int) * 1).toNat=i + m:=by omega
  rw [this]
 rw [e]
 have:=pick_run xs i k
 rw [List.filterMap_map] at this
 have e2:((fun x=>xs[x]?) ∘ fun x=>i + x)=fun m=>xs[i + m]? := rfl
 rw [e2] at this
 rw [this]
theorem getItem_tuple_cut {t sl:Addr} {items:Array Value} {vl vu:Value} {lo hi:Option Int} {Q:Value->Shared->Prop} (ht:IsTup s.heap t items) (hs:s.heap.IsSliceOf sl vl vu .none) (pl:IsPart vl lo) (pu:IsPart vu hi)
  (hw:¬ (sIx items.size 0 lo=0∧sIx items.size items.size hi=items.size))
  (h:Q (.ref s.heap.objs.size) { s with heap:=s.heap.push { cls := .type "tuple",data := .seq ((items.toList.drop (sIx items.size 0 lo)).take (sIx items.size items.size hi - sIx items.size 0 lo)).toArray } })
  (hsz:items.size≤sizeLine):wpAny (model prog w) A (getItem (.ref t) (.ref sl)) Q E s:=by
 have htake:sizeOk (.seq ((items.toList.drop (sIx items.size 0 lo)).take (sIx items.size items.size hi - sIx items.size 0 lo)).toArray):=by
  show ((items.toList.drop (sIx items.size 0 lo)).take (sIx items.size items.size hi - sIx items.size 0 lo)).toArray.size≤sizeLine
  rw [AS,Bh,CP,AX]
  omega
 have hj:sIx items.size items.size hi≤items.size:=qIH _ _ (AL _) hi
 obtain ⟨os,hos,hcs,hds⟩:=id hs
 have hTs:s.TypeIs (.ref sl) "slice" := ⟨os,hos,hcs⟩
 unfold getItem
 try with_reducible refine Au ?_
 first |refine AA (AB ?_) |skip
 refine AA (wpAny_sequenceKey ht.typeIs (by decide) ?_)
 refine AA (Ay (name:=Str.ofString "__getitem__") ht.typeIs BK
  (A7 BK ht.typeIs entry_tuple_getitem ?_ (args_tuple_getitem _ _)))
 show wpAny _ _ (Builtin.Tuple.tupleItemsOf (.ref t) >>= _) _ _ s
 refine AA (tupleItemsOf_ ht ?_)
 refine AA (Bf hTs ?_)
 rw [AG (by decide)]
 refine AA (sliceApplied_gen hs pl pu ?_)
 have hno:¬ ((((sIx items.size 0 lo:Nat):Int)==0&&(1:Int)==1&&(sIx items.size items.size hi - sIx items.size 0 lo)==items.size)=true):=by
  intro q
  rw [Aj,Aj] at q
  have q1:((sIx items.size 0 lo:Nat):Int)=0:=eq_of_beq q.1.1
  have q2:sIx items.size items.size hi - sIx items.size 0 lo=items.size:=eq_of_beq q.2
  exact hw ⟨by omega,by omega⟩
 show wpAny _ _ (if (((sIx items.size 0 lo:Nat):Int)==0&&(1:Int)==1&&(sIx items.size items.size hi - sIx items.size 0 lo)==items.size)=true then _ else _) _ _ s
 rw [AN hno,qEH]
 first
  |exact AA (m:=Builtin.Tuple.tupleExact _) (A1 (AB ⟨_,rfl,AB h⟩) htake)
  |exact AA (m:=Builtin.Tuple.tupleExact _) (A1 (AA (AB (AB ⟨_,rfl,AB h⟩))) htake)
  |exact AA (AA (m:=Builtin.Tuple.tupleExact _) (A1 (AB (AB ⟨_,rfl,AB h⟩)) htake))
  |exact AA (AA (m:=Builtin.Tuple.tupleExact _) (A1 (AB ⟨_,rfl,AB h⟩) htake))
end
end HT
namespace L2
open PySem PySem.Spec PyProof.Rows
abbrev TO:=St->Hp->(Option Int->Hp->Prop)->Prop
def PO (X:Cx) (e:Option Expr) (t:TO):Prop :=
 ∀ (pins:List (Addr×Obj)) (s:Shared) (σ:St) (H:Hp) (Q:Option Int->Hp->Prop),Inv X pins σ H s->t σ H Q ->
  wpAny (model X.prog X.w) X.A (evalPart e X.env) (fun u s' => ∃ o H',Inv X pins σ H' s'∧IsPart u o∧Q o H') X.xe s
def qG1:TO:=fun _ H Q=>Q none H
def qJ6 (t:TE):TO:=fun σ H Q=>t σ H fun x H1 => ∃ i,x = .int i∧Q (some i) H1
section
variable {X:Cx} {e:Expr} {te:TE} {lo hi:Option Expr} {tl th:TO} {pos p2:Pos}
theorem qHZ:PO X none qG1:=by
 intro pins s σ H Q I h
 rw [evalPart_none]
 exact AB ⟨none,H,I,.none,h⟩
theorem qGx (h:PE X e te):PO X (some e) (qJ6 te):=by
 intro pins s σ H Q I hw
 rw [evalPart_some]
 refine thn (h pins s σ H _ I hw) fun u s1 ⟨x,H1,I1,r1,q1⟩ => ?_
 obtain ⟨i,rfl,q⟩:=q1
 obtain ⟨t,rfl⟩:=r1
 exact ⟨some i,H1,I1,.int i t,q⟩
def SlR (X:Cx) (r:V->Option Int->Option Int->Hp->VK->Prop):Prop :=
 ∀ (pins:List (Addr×Obj)) (s:Shared) (σ:St) (H:Hp) (x:V) (v vl vu:Value) (lo hi:Option Int) (sl:Addr) (Q:VK),Inv X pins σ H s->RelV x v->s.heap.IsSliceOf sl vl vu .none->IsPart vl lo->IsPart vu hi->r x lo hi H Q ->
  ∃ T id,typeLookup (.type T) "__getitem__" = pure (some (.builtin id))∧s.TypeIs v T∧wpAny (model X.prog X.w) X.A (getItem v (.ref sl)) (EP X pins σ Q) X.xe s
theorem SlR.or {r r':V->Option Int->Option Int->Hp->VK->Prop} (h:SlR X r) (h':SlR X r'):SlR X (fun x lo hi H Q=>r x lo hi H Q∨r' x lo hi H Q):=by
 intro pins s σ H x v vl vu lo hi sl Q I rx hs pl pu q
 rcases q with q |q
 ·exact h pins s σ H x v vl vu lo hi sl Q I rx hs pl pu q
 ·exact h' pins s σ H x v vl vu lo hi sl Q I rx hs pl pu q
def tSl (r:V->Option Int->Option Int->Hp->VK->Prop) (te:TE) (tl th:TO):TE:=fun σ H Q=>te σ H fun x H1=>tl σ H1 fun l H2=>th σ H2 fun u H3=>r x l u H3 Q
theorem qAH {r:V->Option Int->Option Int->Hp->VK->Prop} (hr:SlR X r) (he:PE X e te) (hl:PO X lo tl) (hu:PO X hi th):PE X (.Subscript e (.Slice lo hi none p2) pos) (tSl r te tl th):=by
 intro pins s σ H Q I h
 refine Subscript_ (thn (he pins s σ H _ I h) fun v s1 ⟨x,H1,I1,r1,q1⟩ => ?_)
 refine wpAny_Slice (thn (hl pins s1 σ H1 _ I1 q1) fun vl s2 ⟨l,H2,I2,pl,q2⟩=>thn (hu pins s2 σ H2 _ I2 q2) fun vu s3 ⟨u,H3,I3,pu,q3⟩ => ?_)
 rw [evalPart_none]
 refine AB ?_
 have I4:Inv X pins σ H3 { s3 with heap:=s3.heap.push { cls := .type "slice",data := .fields #[vl,vu,.none] } }:=I3.kept (t':=s3.toks) fun b ob q=>AC _ q
 obtain ⟨T,id,hT,ht,hg⟩:=hr pins { s3 with heap:=s3.heap.push { cls := .type "slice",data := .fields #[vl,vu,.none] } } σ H3 x v vl vu l u s3.heap.objs.size Q I4 r1 (Heap.IsSliceOf.new ..) pl pu q3
 show wpAny (model X.prog X.w) X.A (subscriptTail e (.Slice lo hi none p2) v (.ref s3.heap.objs.size)) (EP X pins σ Q) X.xe { s3 with heap:=s3.heap.push { cls := .type "slice",data := .fields #[vl,vu,.none] } }
 exact tail_any (ops:=[.ref s3.heap.objs.size,v]) ht hT hg (by with_unfolding_all rfl)
def jB (xs:List V) (lo hi:Option Int):List V:=(xs.drop (HT.sIx xs.length 0 lo)).take (HT.sIx xs.length xs.length hi - HT.sIx xs.length 0 lo)
theorem yq (xs:List V) (lo hi:Option Int):(jB xs lo hi).length≤xs.length:=by
 unfold jB
 rw [Bh,CP]
 omega
def qK9 (K:W.Frag):V->Option Int->Option Int->Hp->VK->Prop:=fun x lo hi H Q => ∃ a xs,x = .ref a∧SqT K H a xs ∧
 ¬ (HT.sIx xs.length 0 lo=0∧HT.sIx xs.length xs.length hi=xs.length) ∧ ∀ p,H p=none->Q (.ref p) (upd H p (.tup (jB xs lo hi)))
theorem sl_tup:SlR X (qK9 X.K):=by
 intro pins s σ H x v vl vu lo hi sl Q I rx hs pl pu h
 obtain ⟨a,xs,rfl,hx,hw,q⟩:=h
 cases rx
 obtain ⟨its,r,ht,hz⟩:=I.tuple hx
 have hlen:its.toArray.size=xs.length:=by rw [AS];exact r.length.symm
 refine ⟨"tuple",_,PyProof.Rows.slot_tuple_getitem.lookup,ht.typeIs,?_⟩
 refine HT.getItem_tuple_cut ht hs pl pu (by rw [hlen];exact hw) ?_ (by rw [hlen];exact hz)
 rw [hlen]
 refine ⟨.ref s.heap.objs.size,_,I.laid (t':=s.toks) (o := .tup (jB xs lo hi)) (fun b ob q=>AC _ q) (AL _) ?_,rfl,q _ (I.hok.fresh (AL _))⟩
 exact ⟨Aa (yq xs lo hi) hz,_,(r.drop (HT.sIx xs.length 0 lo)).take (HT.sIx xs.length xs.length hi - HT.sIx xs.length 0 lo),IsTup.new _ _⟩
def qKV (K:W.Frag):R2:=fun x y H Q => ∃ a b xs ys,x = .ref a∧y = .ref b∧SqT K H a xs∧SqT K H b ys∧xs≠[]∧xs.length + ys.length≤sizeLine ∧
 (ys=[]->Q (.ref a) H)∧(ys≠[] -> ∀ p,H p=none->Q (.ref p) (upd H p (.tup (xs++ys))))
theorem Vals.nil_iff {xs:List V} {us:List Value} (r:Vals xs us):us=[] ↔ xs=[]:=by
 cases r with
 |nil=>simp
 |cons _ _=>simp
theorem qGR:OpR X (binaryOp .Add) (qKV X.K):=by
 intro pins s σ H x y v u Q I rx ry h
 obtain ⟨a,b,xs,ys,rfl,rfl,ha,hb,hx,hz,q1,q2⟩:=h
 cases rx
 cases ry
 obtain ⟨its,r1,p1,_⟩:=I.tuple ha
 obtain ⟨its2,r2,p2,_⟩:=I.tuple hb
 refine HT.cat_tup p1 p2 (fun z=>hx (r1.nil_iff.mp z)) (fun z=>⟨.ref a,H,I,rfl,q1 (r2.nil_iff.mp z)⟩) (fun z => ?_) (by rw [← r1.length,← r2.length];exact hz)
 refine ⟨.ref s.heap.objs.size,_,I.laid (t':=s.toks) (o := .tup (xs++ys)) (fun b ob q=>AC _ q) (AL _) ?_,rfl,q2 (fun w=>z (r2.nil_iff.mpr w)) _ (I.hok.fresh (AL _))⟩
 exact ⟨by rw [AO];exact hz,_,r1.append r2,IsTup.new _ _⟩
end
end L2
namespace L2
open PySem PySem.Spec PyProof.Rows
def ixN (n:Nat) (i:Int):Option Nat:=if 0≤i then (if i < n then some i.toNat else none) else if -(n:Int)≤i then some (i + n).toNat else none
def atI {α:Type} (xs:List α) (i:Int):Option α:=(ixN xs.length i).bind fun j=>xs[j]?
theorem qC6 {n:Nat} {i:Int} {j:Nat} (h:ixN n i=some j):seqIndex? i n=some j∧j < n ∧ -(n:Int)≤i∧i < n:=by
 unfold ixN at h
 by_cases h0:0≤i
 ·rw [AG h0] at h
  by_cases h1:i < n
  ·rw [AG h1] at h
   have e:i.toNat=j:=Am h
   exact ⟨by rw [seqIndex_of h0 h1,e],by omega,by omega,h1⟩
  ·rw [AN h1] at h;cases h
 ·rw [AN h0] at h
  by_cases h1:-(n:Int)≤i
  ·rw [AG h1] at h
   have e:(i + n).toNat=j:=Am h
   exact ⟨by rw [seqIndex_neg (by omega) h1,e],by omega,h1,by omega⟩
  ·rw [AN h1] at h;cases h
theorem JK {α:Type} {xs:List α} {i:Int} {v:α} (h:atI xs i=some v):∃ j,seqIndex? i xs.length=some j∧xs[j]? = some v∧j < xs.length ∧ -(xs.length:Int)≤i∧i < xs.length:=by
 unfold atI at h
 cases e:ixN xs.length i with
 |none=>rw [e] at h;cases h
 |some j =>
  rw [e] at h
  obtain ⟨h1,h2,h3,h4⟩:=qC6 e
  exact ⟨j,h1,h,h2,h3,h4⟩
def qCL (b:Expr):Prop := ∀ o i,subscripted b false o i=operate [o,i] (getItem o i)
def IxR (X:Cx) (r:R2):Prop :=
 ∀ (value slice:Expr) (pins:List (Addr×Obj)) (s:Shared) (σ:St) (H:Hp) (x y:V) (v u:Value) (Q:VK),Inv X pins σ H s->RelV x v->RelV y u->r x y H Q ->
  subscripted slice false v u=operate [v,u] (getItem v u)->wpAny (model X.prog X.w) X.A (subscriptTail value slice v u) (EP X pins σ Q) X.xe s
def MtR (X:Cx) (id:String) (r:V->List V->Hp->VK->Prop):Prop :=
 ∀ (pins:List (Addr×Obj)) (s:Shared) (σ:St) (H:Hp) (x:V) (xs:List V) (v:Value) (us:List Value) (Q:VK),Inv X pins σ H s->RelV x v->Vals xs us->r x xs H Q ->
  wpAny (model X.prog X.w) X.A (call (.builtin id) (v::us)) (EP X pins σ Q) X.xe s
section
variable {X:Cx} {a b:Expr} {ta tb:TE} {pos:Pos}
theorem IxR.or {r r':R2} (h:IxR X r) (h':IxR X r'):IxR X (fun x y H Q=>r x y H Q∨r' x y H Q):=by
 intro value slice pins s σ H x y v u Q I rx ry q hs
 rcases q with q |q
 ·exact h value slice pins s σ H x y v u Q I rx ry q hs
 ·exact h' value slice pins s σ H x y v u Q I rx ry q hs
theorem qJ8 {r:R2} (hr:IxR X r) (ha:PE X a ta) (hb:PE X b tb) (hs:qCL b):PE X (.Subscript a b pos) (tOp r ta tb):=by
 intro pins s σ H Q I h
 exact Subscript_ (qJf ha hb I h fun v u s2 x y H2 I2 rx ry q=>hr a b pins s2 σ H2 x y v u Q I2 rx ry q (hs _ _))
def qKB (K:W.Frag):R2:=fun x y H Q => ∃ p xs i v,x = .ref p∧y = .int i∧SqL K H p xs∧atI xs i=some v∧Q v H
def qJ2 (K:W.Frag):R2:=fun x y H Q => ∃ p xs i v,x = .ref p∧y = .int i∧SqT K H p xs∧atI xs i=some v∧Q v H
def qKE:R2:=fun x y H Q => ∃ z i c,x = .str z∧y = .int i∧z.length≤sizeLine∧atI z.cps.toList i=some c∧Q (.str ⟨#[c]⟩) H
theorem ix_list:IxR X (qKB X.K):=by
 intro value slice pins s σ H x y v u Q I rx ry h hs
 obtain ⟨p,xs,i,z,rfl,rfl,hq,he,q⟩:=h
 cases rx
 obtain ⟨t,rfl⟩:=ry
 obtain ⟨its,r,pl,hz⟩:=I.list hq
 obtain ⟨j,h1,h2,h3,h4,h5⟩:=JK he
 obtain ⟨w,ew,rw'⟩:=r.get h2
 have hl:=r.length
 have hn:=Zu
 have fin:EP X pins σ Q w s:=⟨z,H,I,rw',q⟩
 by_cases h0:0≤i
 ·have hj:i.toNat=j:=by
   rw [seqIndex_of h0 h5] at h1
   exact Am h1
  exact item_listR pl.isList h0 (by omega) (by rw [hj];simpa using ew) fin hs
 ·have hj:(i + (its.toArray.size:Int)).toNat=j:=by
   rw [seqIndex_neg (by omega) h4] at h1
   rw [AS,← hl]
   exact Am h1
  exact subscriptTail_builtinR (x:=w) pl.isList.typeIs slot_list_getitem.lookup
   (wpAny_getItem_list_neg (Q:=fun r s'=>r=w∧EP X pins σ Q r s') pl.isList (by omega) (by rw [AS] <;> omega) (by omega) (by rw [hj];simpa using ew) ⟨rfl,fin⟩) hs
theorem ix_tup:IxR X (qJ2 X.K):=by
 intro value slice pins s σ H x y v u Q I rx ry h hs
 obtain ⟨p,xs,i,z,rfl,rfl,hq,he,q⟩:=h
 cases rx
 obtain ⟨t,rfl⟩:=ry
 obtain ⟨its,r,pl,hz⟩:=I.tuple hq
 obtain ⟨j,h1,h2,h3,h4,h5⟩:=JK he
 obtain ⟨w,ew,rw'⟩:=r.get h2
 have hl:=r.length
 have hn:=Zu
 have fin:EP X pins σ Q w s:=⟨z,H,I,rw',q⟩
 exact subscriptTail_builtinR (x:=w) pl.typeIs slot_tuple_getitem.lookup
  (getItem_tuple (j:=j) (Q:=fun r s'=>r=w∧EP X pins σ Q r s') pl (by omega) (by omega) (by rw [AS,← hl];exact h1) (by simpa using ew) ⟨rfl,fin⟩) hs
theorem qIz:IxR X qKE:=by
 intro value slice pins s σ H x y v u Q I rx ry h hs
 obtain ⟨z,i,c,rfl,rfl,hz,he,q⟩:=h
 obtain ⟨t,rfl⟩:=rx
 obtain ⟨t',rfl⟩:=ry
 obtain ⟨j,h1,h2,h3,h4,h5⟩:=JK he
 have hl:z.cps.toList.length=z.length:=by simp [Str.length]
 rw [hl] at h1 h4 h5
 have hn:=Zu
 exact tail_any (typeIs_str s z t) slot_str_getitem.lookup (getItem_str (c:=c) (by
  have e1:decide (i < -(2 ^ 63:Int))=false:=Ac (by omega)
  have e2:decide (i ≥ 2 ^ 63)=false:=Ac (by omega)
  rw [e1,e2,Bool.or_false]) (by rw [h1];simpa using h2) ⟨.str ⟨#[c]⟩,H,I.tok _,⟨_,rfl⟩,q⟩) hs
def rIx (K:W.Frag):R2:=fun x y H Q=>qKB K x y H Q∨qJ2 K x y H Q∨qKE x y H Q
theorem qJe:IxR X (rIx X.K):=ix_list.or (ix_tup.or qIz)
theorem qBz (its:List Value) (n j:Nat) (u:Value):Obj.mapSeq (·.setIfInBounds j u) { cls := .type "list",data := .seq its.toArray n }={ cls := .type "list",data := .seq (its.set j u).toArray n }:=by
 simp [Obj.mapSeq]
theorem Inv.lst {pins:List (Addr×Obj)} {σ:St} {H:Hp} {s:Shared} {p:Addr} {xs:List V} (I:Inv X pins σ H s) (h:H p=some (.lst xs)) :
  ∃ (its:List Value) (n:Nat),Vals xs its∧s.heap.get? p=some { cls := .type "list",data := .seq its.toArray n }∧xs.length≤sizeLine:=by
 obtain ⟨z,its,n,r,e⟩:=I.hok p _ h
 exact ⟨its,n,r,e,z⟩
theorem Inv.lstUpd {pins:List (Addr×Obj)} {σ:St} {H:Hp} {s:Shared} {p:Addr} {xs ys:List V} {its its':List Value} {n n':Nat} {f:Obj->Obj} (I:Inv X pins σ H s) (h:H p=some (.lst xs))
  (ho:s.heap.get? p=some { cls := .type "list",data := .seq its.toArray n }) (hf:f { cls := .type "list",data := .seq its.toArray n }={ cls := .type "list",data := .seq its'.toArray n' }) (r:Vals ys its') (hz:ys.length≤sizeLine) (t:Nat) :
  Inv X pins σ (upd H p (.lst ys)) { s with heap:=s.heap.update p f,toks:=t }:=by
 have e:(s.heap.update p f).get? p=some { cls := .type "list",data := .seq its'.toArray n' }:=by
  rw [A2 f ho (by rw [hf] <;> rfl),hf]
 refine I.write (x:=p) (e:=p) (by rw [h];trivial) (.inl rfl) (fun b u hb q=>(Ah _ _ (Ne.symm hb)).trans q) ⟨_,e⟩ ?_
 exact ⟨hz,its',n',r,e⟩
def qHi:V->V->V->Hp->(Hp->Prop)->Prop:=fun o i v H Q => ∃ p xs k j,o = .ref p∧i = .int k∧H p=some (.lst xs)∧ixN xs.length k=some j∧Q (upd H p (.lst (xs.set j v)))
theorem Z3:qIL X qHi:=by
 intro pins s σ H o i v ov iv u Q I ro ri rv h
 obtain ⟨p,xs,k,j,rfl,rfl,hp,hj,q⟩:=h
 cases ro
 obtain ⟨t,rfl⟩:=ri
 obtain ⟨its,n,r,ho,hz⟩:=I.lst hp
 obtain ⟨h1,h2,h3,h4⟩:=qC6 hj
 have hl:=r.length
 have hn:=Zu
 have I':Inv X pins σ (upd H p (.lst (xs.set j v))) { s with heap:=s.heap.update p (Obj.mapSeq (·.setIfInBounds j u)) } :=
  I.lstUpd hp ho (qBz its n j u) (r.set rv j) (by rw [Cd];exact hz) s.toks
 by_cases h0:0≤k
 ·have hk:k.toNat=j:=by
   rw [seqIndex_of h0 h4] at h1
   exact Am h1
  exact W.ki_setAt ho h0 (by omega) (by rw [AS,← hl];exact h4) (by rw [hk];exact ⟨_,I',q⟩)
 ·have hk:(k + (its.toArray.size:Int)).toNat=j:=by
   rw [seqIndex_neg (by omega) h3] at h1
   rw [AS,← hl]
   exact Am h1
  exact W.ki_setBack ho (by omega) (by rw [AS,← hl];exact h3) (by omega) (by rw [hk];exact ⟨_,I',q⟩)
theorem JH (lo hi:Option Int) (n:Nat):(sliceBounds lo hi none n).1=((HT.sIx n 0 lo:Nat):Int)∧(sliceBounds lo hi none n).2.1=((HT.sIx n n hi:Nat):Int)∧(sliceBounds lo hi none n).2.2=1:=by
 refine ⟨?_,?_,rfl⟩
 ·cases lo with
  |none=>simp [sliceBounds,HT.sIx]
  |some i =>
   simp only [sliceBounds,HT.sIx,Option.getD_none,show (1:Int) > 0 by decide,Ca]
   by_cases h:i < 0
   ·simp only [h,Ca] <;> omega
   ·simp only [h,Bt] <;> omega
 ·cases hi with
  |none=>simp [sliceBounds,HT.sIx]
  |some i =>
   simp only [sliceBounds,HT.sIx,Option.getD_none,show (1:Int) > 0 by decide,Ca]
   by_cases h:i < 0
   ·simp only [h,Ca] <;> omega
   ·simp only [h,Bt] <;> omega
theorem jA (its:List Value) (lo hi:Option Int):slicePick its.toArray lo hi none=((its.drop (HT.sIx its.length 0 lo)).take (HT.sIx its.length its.length hi - HT.sIx its.length 0 lo)).toArray:=by
 obtain ⟨h1,h2,h3⟩:=JH lo hi its.toArray.size
 unfold slicePick
 rw [h1,h2,h3]
 simp only [sliceRange_one,pick_run,AS] <;> rfl
def qKp (K:W.Frag):V->Option Int->Option Int->Hp->VK->Prop:=fun x lo hi H Q => ∃ a xs,x = .ref a∧SqL K H a xs ∧ ∀ p,H p=none->Q (.ref p) (upd H p (.lst (jB xs lo hi)))
theorem qGe:SlR X (qKp X.K):=by
 intro pins s σ H x v vl vu lo hi sl Q I rx hs pl pu h
 obtain ⟨a,xs,rfl,hx,q⟩:=h
 cases rx
 obtain ⟨its,r,ht,hz⟩:=I.list hx
 have hlen:=r.length
 refine ⟨"list",_,slot_list_getitem.lookup,ht.isList.typeIs,?_⟩
 refine wpAny_getItem_list_slice ht.isList hs pl pu .none (by simp) ?_ (by rw [AS] <;> omega)
 rw [jA,← hlen]
 refine ⟨.ref s.heap.objs.size,_,I.laid (t':=s.toks) (o := .lst (jB xs lo hi)) (fun b ob q=>AC _ q) (AL _) ?_,rfl,q _ (I.hok.fresh (AL _))⟩
 exact ⟨Aa (yq xs lo hi) hz,_,0,(r.drop (HT.sIx xs.length 0 lo)).take (HT.sIx xs.length xs.length hi - HT.sIx xs.length 0 lo),AV _ rfl⟩
theorem JI:zH X (.builtin "len") (fun xs H Q => ∃ p ys,xs=[.ref p]∧(SqL X.K H p ys∨SqT X.K H p ys)∧Q (.int ys.length) H):=by
 intro pins s σ H xs us Q I r h
 obtain ⟨p,ys,rfl,hq,q⟩:=h
 obtain ⟨u,rfl,rx⟩:=yv r
 cases rx
 have hn:=Zu
 rcases hq with hq |hq
 ·obtain ⟨its,r',pl,hz⟩:=I.list hq
  have hlen:=r'.length
  exact Calls.call_len_list pl.isList (by simp only [AS] <;> omega) ⟨.int ys.length,H,I.tok _,⟨s.toks + 1,by rw [AS,hlen]⟩,q⟩
 ·obtain ⟨its,r',pl,hz⟩:=I.tuple hq
  have hlen:=r'.length
  exact len_tuple pl (by simp only [AS] <;> omega) ⟨.int ys.length,H,I.tok _,⟨s.toks + 1,by rw [AS,hlen]⟩,q⟩
theorem j8:zH X (.type "list") (fun xs H Q => ∃ p ys,xs=[.ref p]∧(SqL X.K H p ys∨SqT X.K H p ys) ∧ ∀ l,H l=none->Q (.ref l) (upd H l (.lst ys))):=by
 intro pins s σ H xs us Q I r h
 obtain ⟨p,ys,rfl,hq,q⟩:=h
 obtain ⟨u,rfl,rx⟩:=yv r
 cases rx
 have fin:∀ (its:List Value),Vals ys its->ys.length≤sizeLine -> ∀ (h':Heap) (c':Nat),(∀ b o',s.heap.get? b=some o'->h'.get? b=some o') ->
   h'.get? s.heap.objs.size=some { cls := .type "list",dict:=none,data := .seq its.toArray c',slots := #[] }->EP X pins σ Q (.ref s.heap.objs.size) { s with heap:=h' }:=fun its r' hz h' c' kp e =>
  ⟨.ref s.heap.objs.size,_,I.laid (t':=s.toks) kp (AL _) (show ObjOk X.prog X.w _ h' _ (.lst ys) from ⟨hz,its,c',r',e⟩),rfl,q _ (I.hok.fresh (AL _))⟩
 rcases hq with hq |hq
 ·obtain ⟨its,r',pl,hz⟩:=I.list hq
  have hlen:=r'.length
  obtain ⟨o,ho,hc,n,hd⟩:=pl.isList
  exact call_list_seq p (.inl rfl) ho hc hd (fun h' c' kp e=>fin its r' hz h' c' kp e) (by simp only [AS] <;> omega)
 ·obtain ⟨its,r',pl,hz⟩:=I.tuple hq
  have hlen:=r'.length
  obtain ⟨o,ho,hc,n,hd⟩:=pl
  exact call_list_seq p (.inr rfl) ho hc hd (fun h' c' kp e=>fin its r' hz h' c' kp e) (by simp only [AS] <;> omega)
theorem jE:zH X (.type "tuple") (fun xs H Q => ∃ p ys,xs=[.ref p]∧((SqL X.K H p ys ∧ ∀ l,H l=none->Q (.ref l) (upd H l (.tup ys)))∨(SqT X.K H p ys∧Q (.ref p) H))):=by
 intro pins s σ H xs us Q I r h
 obtain ⟨p,ys,rfl,h⟩:=h
 obtain ⟨u,rfl,rx⟩:=yv r
 cases rx
 rcases h with ⟨hq,q⟩ |⟨hq,q⟩
 ·obtain ⟨its,r',pl,hz⟩:=I.list hq
  have hlen:=r'.length
  refine call_tuple_list pl.isList (fun h' kp => ?_) (by simp only [AS] <;> omega)
  have I1:Inv X pins σ H { s with heap:=h' }:=I.kept (t':=s.toks) kp
  have I2:Inv X pins σ (upd H h'.objs.size (.tup ys)) { s with heap:=h'.push { cls := .type "tuple",data := .seq its.toArray } } :=
   I1.laid (t':=s.toks) (fun b o e=>AC _ e) (AL _) (show ObjOk X.prog X.w _ _ _ (.tup ys) from ⟨hz,its,r',IsTup.new _ _⟩)
  exact ⟨.ref h'.objs.size,_,I2,rfl,q _ (I1.hok.fresh (AL _))⟩
 ·obtain ⟨its,r',pl,hz⟩:=I.tuple hq
  exact call_tuple_same pl ⟨.ref p,H,I,rfl,q⟩
def tyV (K:W.Frag) (T:String) (x:V) (H:Hp):Prop:=match x with
 | .str _=>T = "str"
 | .int _=>T = "int"
 | .ref p=>(T = "list" ∧ ∃ xs,SqL K H p xs)∨(T = "tuple" ∧ ∃ o,K.lookup p=some o∧o.cls = .type "tuple" ∧ o.dict=none) ∨
   (T = "dict" ∧ ((∃ kvs,H p=some (.dK kvs)) ∨ ∃ kvs,H p=some (.dT kvs)))∨(T = "set" ∧ ∃ S n,H p=some (.set S n))
 |_=>False
theorem qJX {pins:List (Addr×Obj)} {σ:St} {H:Hp} {s:Shared} {T:String} {x:V} {v:Value} (I:Inv X pins σ H s) (r:RelV x v) (ty:tyV X.K T x H) :
  s.TypeIs v T ∧ ∀ a,v = .ref a -> ∃ ob,s.heap.get? a=some ob∧ob.dict=none:=by
 cases x with
 |str z =>
  obtain ⟨t,rfl⟩:=r
  cases (show T = "str" from ty)
  exact ⟨typeIs_str s z t,fun _ e=>nomatch e⟩
 |int i =>
  obtain ⟨t,rfl⟩:=r
  cases (show T = "int" from ty)
  exact ⟨typeIs_int s i t,fun _ e=>nomatch e⟩
 |ref p =>
  cases r
  rcases ty with ⟨rfl,xs,hq⟩ |⟨rfl,o,hk,hc,hd⟩ |⟨rfl,hk⟩ |⟨rfl,S,n,hk⟩
  ·obtain ⟨its,_,pl,_⟩:=I.list hq
   refine ⟨pl.isList.typeIs,fun a e => ?_⟩
   cases e
   obtain ⟨o,n,e,c,hd,_⟩:=pl
   exact ⟨o,e,hd⟩
  ·refine ⟨⟨o,I.kIn p o hk,hc⟩,fun a e => ?_⟩
   cases e
   exact ⟨o,I.kIn _ o hk,hd⟩
  ·have z:∃ o,s.heap.get? p=some o∧o.ExactDict:=by
    rcases hk with ⟨kvs,hk⟩ |⟨kvs,hk⟩
    ·obtain ⟨_,_,_,_,o,_,_,e,ex,_⟩:=I.hok p _ hk
     exact ⟨o,e,ex⟩
    ·obtain ⟨_,_,_,_,o,_,_,e,ex,_⟩:=I.hok p _ hk
     exact ⟨o,e,ex⟩
   obtain ⟨o,e,ex⟩:=z
   refine ⟨⟨o,e,ex.1⟩,fun a e2 => ?_⟩
   cases e2
   exact ⟨o,e,ex.2.1⟩
  ·obtain ⟨o,_,_,_,e,ex,_⟩:=I.hok p _ hk
   refine ⟨⟨o,e,ex.1⟩,fun a e2 => ?_⟩
   cases e2
   exact ⟨o,e,ex.2.1⟩
 |_=>exact False.elim ty
def tBM (K:W.Frag) (T:String) (r:V->List V->Hp->VK->Prop) (to:TE) (t:TA):TE:=fun σ H Q=>to σ H fun x H1=>tyV K T x H1∧t σ H1 fun xs H2=>r x xs H2 Q
variable {o e:Expr} {es:List Expr} {to:TE} {t:TA} {name:Str} {apos cpos:Pos} {T id:String} {r:V->List V->Hp->VK->Prop}
theorem qD4 (pa:PlainAttrs T) (slot:Slot T name id) (hty:typeOf (.builtin id)=pure (.type "method_descriptor")) (hm:MtR X id r) (ho:PE X o to) (ha:PA X (e::es) t)
  (hbase:attributeBase o name X.env (eval o X.env)=eval o X.env:=by rfl)
  (hfew:((backTo cpos (starEach (e::es) X.env)).all (fun x => !x.1)&&(backToKw cpos (keywordEach [] X.env)).all (fun x=>x.1.isSome)
   && decide ((e::es).length + ([]:List Keyword).length + (if ([]:List Keyword).isEmpty then 0 else 1) < 30))=true:=by rfl)
  (hline:(apos.endLine==cpos.line)=true:=by rfl) (hs:starEach (e::es) X.env=(false,eval e X.env)::starEach es X.env:=by rfl) (hplain:(backTo cpos (starEach es X.env)).any (·.1)=false:=by rfl) :
  PE X (.Call (.Attribute o name apos) (e::es) [] cpos) (tBM X.K T r to t):=by
 intro pins s σ H Q I h
 refine wpAny_Call_method_late hbase hfew hline rfl (thn (ho pins s σ H _ I h) fun v s1 ⟨x,H1,I1,r1,ty,q1⟩ => ?_)
 obtain ⟨h1,h2⟩:=qJX I1 r1 ty
 refine ⟨T,id,pa,slot,hty,h1,h2,?_⟩
 have hA:=ha cpos pins s1 σ H1 _ I1 q1
 rw [hs] at hA ⊢
 refine Calls.callWith_builtin (by show (false || (backTo cpos (starEach es X.env)).any (·.1))=false;rw [hplain] <;> rfl) (Calls.evalArgs_plain ?_)
 exact thn hA fun us s2 ⟨vs,H2,I2,r2,q2⟩=>hm pins s2 σ H2 x vs v us Q I2 r1 r2 q2
end
end L2
namespace L2
open PySem PySem.Spec PyProof.Rows
def MtM (X:Cx) (id:String) (r:V->List V->Hp->VK->Prop):Prop :=
 ∀ (pins:List (Addr×Obj)) (s:Shared) (σ:St) (H:Hp) (x:V) (xs:List V) (v:Value) (us:List Value) (Q:VK),Inv X pins σ H s->RelV x v->Vals xs us->r x xs H Q ->
  wpAny (model X.prog X.w) X.A (call (.builtin id) (v::us)) (EP X pins σ Q) X.xe s
theorem Vals.one:∀ {x:V} {us:List Value},Vals [x] us -> ∃ u,us=[u]∧RelV x u
 |_,_,.cons r .nil=>⟨_,rfl,r⟩
theorem Vals.eraseIdx:∀ {xs:List V} {us:List Value} (i:Nat),Vals xs us->Vals (xs.eraseIdx i) (us.eraseIdx i)
 |_,_,_,.nil => .nil
 |_,_,0,.cons _ t=>t
 |_,_,i + 1,.cons r t => .cons r (Vals.eraseIdx i t)
theorem Vals.rep {xs:List V} {us:List Value} (h:Vals xs us):∀ k:Nat,Vals (List.replicate k xs).flatten (List.replicate k us).flatten
 |0 => .nil
 |k + 1=>by
  rw [BI,BI,Bp,Bp]
  exact Vals.append h (Vals.rep h k)
theorem jS {α:Type}:∀ (l:List α) (i:Nat),(l.eraseIdx i).length≤l.length
 |[],_=>AL _
 |_::_,0=>Nat.le_succ _
 |_::r,i + 1=>CQ (jS r i)
theorem jg (its:List Value):∀ (k:Nat) (acc:List Value),
  List.foldl (fun x1 x2=>x1++x2) acc.toArray (List.replicate k its.toArray)=(acc++(List.replicate k its).flatten).toArray
 |0,acc=>by simp
 |k + 1,acc=>by
  have e:acc.toArray++its.toArray=(acc++its).toArray:=by simp
  have e2:(acc++its)++(List.replicate k its).flatten=acc++(List.replicate (k + 1) its).flatten:=by
   rw [BI,Bp,Ab]
  rw [← e2,← jg its k (acc++its),← e,BI,Bl]
section
variable {X:Cx} {pins:List (Addr×Obj)} {σ:St} {H:Hp} {s:Shared} {l b:Addr} {xs ys zs:List V}
theorem Inv.lset {its its':List Value} {n:Nat} {f:Array Value->Array Value} {t':Nat} (I:Inv X pins σ H s) (hH:H l=some (.lst xs))
  (e:s.heap.get? l=some { cls := .type "list",data := .seq its.toArray n }) (hf:f its.toArray=its'.toArray) (hv:Vals ys its') (hz:ys.length≤sizeLine) :
  Inv X pins σ (upd H l (.lst ys)) { s with heap:=s.heap.update l (Obj.mapSeq f),toks:=t' }:=by
 have q:=PySem.IsL.update e f
 rw [hf] at q
 refine I.write (x:=l) (e:=l) (by rw [hH];exact trivial) (.inl rfl) (fun b' u hb hu=>(Ah s.heap (Obj.mapSeq f) (Ne.symm hb)).trans hu) ⟨_,q⟩ ?_
 exact ⟨hz,its',_,hv,q⟩
theorem Inv.lnew {its:List Value} {t':Nat} (I:Inv X pins σ H s) (hv:Vals ys its) (hz:ys.length≤sizeLine) :
  Inv X pins σ (upd H s.heap.objs.size (.lst ys)) { s with heap:=s.heap.push { cls := .type "list",data := .seq its.toArray },toks:=t' } :=
 I.laid (fun _ _ q=>AC _ q) (AL _) ⟨hz,its,0,hv,AV _ rfl⟩
theorem Inv.fresh (I:Inv X pins σ H s):H s.heap.objs.size=none:=I.hok.fresh (AL _)
theorem Inv.lstM (I:Inv X pins σ H s) (hH:H l=some (.lst xs)):xs.length≤sizeLine ∧ ∃ (its:List Value) (n:Nat),Vals xs its∧xs.length=its.length∧s.heap.get? l=some { cls := .type "list",data := .seq its.toArray n }:=by
 obtain ⟨z,its,n,r,e⟩:=I.hok l _ hH
 exact ⟨z,its,n,r,r.length,e⟩
theorem qFu {n:Nat} (h:n≤sizeLine):Builtin.List.listTooLong n=false:=by
 unfold Builtin.List.listTooLong
 exact Ac (by omega)
end
section
variable {X:Cx}
def qHc:V->List V->Hp->VK->Prop:=fun x vs H Q => ∃ l xs y,x = .ref l∧vs=[y]∧H l=some (.lst xs)∧xs.length < sizeLine∧Q .non (upd H l (.lst (xs++[y])))
theorem jP:MtM X "list.append" qHc:=by
 intro pins s σ H x vs v us Q I rx rv h
 obtain ⟨l,xs,y,rfl,rfl,hH,hz,q⟩:=h
 cases rx
 obtain ⟨u,rfl,ru⟩:=rv.one
 obtain ⟨z,its,n,r,hl,e⟩:=I.lstM hH
 refine call_meets F.slot_list_append ⟨_,e,rfl⟩ F.entry_list_append (F.args_list_append_2 _ _) (PySem.list_append l its.toArray n u (by rw [AS];omega)) ⟨e,?_⟩
 refine ⟨.non,_,I.lset (its':=its++[u]) hH e (by simp) (r.append (.cons ru .nil)) ?_,rfl,q⟩
 rw [AO,Ag]
 omega
def qIy:V->List V->Hp->VK->Prop:=fun x vs H Q => ∃ l xs i k y,x = .ref l∧vs=[.int i]∧H l=some (.lst xs) ∧ -(2 ^ 63)≤i∧i < 2 ^ 63∧seqIndex? i xs.length=some k∧xs[k]? = some y∧Q y (upd H l (.lst (xs.eraseIdx k)))
theorem qFd:MtM X "list.pop" qIy:=by
 intro pins s σ H x vs v us Q I rx rv h
 obtain ⟨l,xs,i,k,y,rfl,rfl,hH,h1,h2,hk,hy,q⟩:=h
 cases rx
 obtain ⟨u,rfl,ru⟩:=rv.one
 obtain ⟨t,rfl⟩:=ru
 obtain ⟨z,its,n,r,hl,e⟩:=I.lstM hH
 obtain ⟨w,hw,rw'⟩:=r.get hy
 refine call_meets F.slot_list_pop ⟨_,e,rfl⟩ F.entry_list_pop (F.args_list_pop_2 _ _)
  (MeetsSeq.list_pop_at l its.toArray n i t k w (fitsIndex_both h1 h2) (by rw [AS,← hl];exact hk) (by rw [← A3];exact hw) (by rw [AS];omega)) ⟨e,?_⟩
 refine ⟨y,_,I.lset (its':=its.eraseIdx k) hH e ?_ (r.eraseIdx k) ?_,rw',q⟩
 ·show its.toArray.eraseIdxIfInBounds k=(its.eraseIdx k).toArray
  rw [List.eraseIdxIfInBounds_toArray]
 ·have:=jS xs k
  omega
def qK4:R2:=fun x y H Q => ∃ l k xs,x = .ref l∧y = .int k∧H l=some (.lst xs) ∧ -(2 ^ 63)≤k∧k < 2 ^ 63∧xs.length * k.toNat≤sizeLine ∧
 ∀ p,H p=none->Q (.ref p) (upd H p (.lst (List.replicate k.toNat xs).flatten))
theorem qF7 {α:Type} (xs:List α) (k:Nat):(List.replicate k xs).flatten.length=k * xs.length:=by
 induction k with
 |zero=>simp
 |succ k ih=>rw [BI,Bp,AO,ih,Nat.succ_mul,Nat.add_comm]
theorem qJh:OpR X (binaryOp .Mult) qK4:=by
 intro pins s σ H x y v u Q I rx ry h
 obtain ⟨l,k,xs,rfl,rfl,hH,h1,h2,hz,q⟩:=h
 cases rx
 obtain ⟨t,rfl⟩:=ry
 obtain ⟨z,its,n,r,hl,e⟩:=I.lstM hH
 have hlen:its.toArray.size * k.toNat≤sizeLine:=by rw [AS,← hl];exact hz
 have hcap:¬ its.toArray.size * k.toNat > (2 ^ 63 - 1) / 8:=by
  have:(sizeLine:Nat)≤(2 ^ 63 - 1) / 8:=by decide
  omega
 have hfit:¬ (!Builtin.List.listFitsIndex k)=true:=by
  rw [fitsIndex_both h1 h2]
  exact BL
 have hlong:¬ Builtin.List.listTooLong (its.toArray.size * k.toNat)=true:=by
  rw [qFu hlen]
  exact BL
 have hnew:List.foldl (fun x1 x2=>x1++x2) #[] (List.replicate (if its.toArray.isEmpty=true then 0 else k.toNat) its.toArray)=(List.replicate k.toNat its).flatten.toArray:=by
  have f0:∀ m:Nat,List.foldl (fun x1 x2=>x1++x2) #[] (List.replicate m its.toArray)=(List.replicate m its).flatten.toArray:=fun m=>by
   have:=jg its m []
   rw [Ce] at this
   exact this
  rw [f0]
  cases its with
  |nil=>simp
  |cons a r'=>rw [AN (by simp)]
 refine wpAny_binaryOp_repeat_ref (T := "list") (U := "int") (by decide) ⟨_,e,rfl⟩ (fun s'=>typeIs_int s' k t) noFill_list_mul F.fills_int_mul F.slot_int_rmul repeat_list F.slot_int_index.lookup
  (call_meets F.slot_int_rmul (typeIs_int s k t) F.entry_int_rmul (F.args_int_rmul_2 _ _) (int___rmul___int_list k t l its.toArray n)
   ⟨e,rfl,⟨_,e,rfl⟩,call_meets F.slot_list_mul ⟨_,e,rfl⟩ F.entry_list_mul (F.args_list_mul_2 _ _) (AutoListH.list___mul___list_int_3 l its.toArray n k t hfit hcap hlong) ⟨e,?_⟩⟩)
 rw [hnew]
 exact ⟨.ref _,_,I.lnew (t':=s.toks) (r.rep k.toNat) (by rw [qF7,Nat.mul_comm];exact hz),rfl,q _ I.fresh⟩
end
end L2
namespace Att
open PySem PySem.W PySem.Calls PyProof.Rows
theorem YD {P:Params} {h:Heap}:∀ (ns:List Int) (vs:List Value),WellAll P h vs (ns.map WData.int)->IntsAre vs ns:=by
 intro ns
 induction ns with
 |nil =>
  intro vs w
  rw [Ci] at w
  cases w
  exact .nil
 |cons n ns ih =>
  intro vs w
  rw [Ap] at w
  cases w with
  |cons a b =>
   cases a
   exact .cons _ _ (ih _ b)
theorem qDN {l:OpenLaw} {n:Nat} (hn:l.most=some n) {P:Params} {h:Heap} {args:List WData} {vals:List Value}
  (hpre:l.row.toRowW.claim.pre args=true) (hwl:WellAll P h vals args) :
  ∃ a vs ns,vals=[Value.ref a]∧args=[WData.list (ns.map WData.int)]∧h.get? a=some { cls := .type "list",data := .seq vs.toArray }∧IntsAre vs ns∧ns.length≤n:=by
 have hsh:WShape.hasAll [] args [.list .int]=true:=(pre_splitW hpre).1
 have hc:l.pre.holds [] { args:=args }=true:=(pre_splitW hpre).2
 obtain ⟨d,r,rfl,h1,h2⟩:=hasAllW_cons hsh
 obtain rfl:=hasAllW_nil h2
 obtain ⟨xs,rfl,h3⟩:=hasW_list h1
 obtain ⟨ns,rfl⟩:=items_int h3
 have hlen:ns.length≤n:=by
  unfold OpenLaw.pre at hc
  have h4:(WTm.not (.lt (.lit (.int (n:Int))) (.len (.arg 0)))).holds [] { args:=[.list (ns.map .int)] }=true:=by
   have h4:=(holds_andW hc).1
   rw [hn] at h4
   exact h4
  have h5:=condW_of h4 (w_not (w_lt w_lit (w_len_list (w_arg rfl))))
  rw [AF] at h5
  refine Nat.le_of_not_lt fun q => ?_
  have q':(n:Int) < ((ns.length:Nat):Int):=by omega
  first
   |(rw [Ai q'] at h5;exact absurd h5 (by decide))
   |(simp at h5;omega)
 cases hwl with
 |cons w1 w2 =>
  cases w2
  cases w1 with
  |list ho hall=>exact ⟨_,_,ns,rfl,rfl,ho,YD ns _ hall,hlen⟩
theorem qDW (l:OpenLaw) (args:List WData):l.row.toRowW.claim.post args (.bool true) args=true :=
 postW_of (r:=l.row.toRowW) (X:=(true==true))
  (show WShape.has [] (.bool true) .bool=true by first |rfl |decide |simp [WShape.has,WShape.arms,WShape.armsAll])
  (show (WTm.eq .res (.lit (.bool true))).value [] { args:=args,res:=some (.bool true),after:=args }=some (.bool (true==true)) from w_eq_bool (w_res rfl) w_lit) rfl
end Att
namespace L2
open PySem PySem.Spec PyProof.Rows
theorem j0:∀ {vs:List Value} {ns:List Int},IntsAre vs ns->Vals (ns.map V.int) vs
 |_,_,.nil => .nil
 |_,_,.cons n t h => .cons ⟨t,rfl⟩ (j0 h)
def qJM (H:Hp):Prop := ∀ b,H b=none ∨ ∃ o xs,H b=some (.frz o (.lst xs))
theorem qE8 {P:Program} {w:World} {K:W.Frag} {mg mb:Str->Option Value} {CX:CXT} {k:Nat} {fa a:Addr} {fd:FuncData} {x:Str} {sp:Sp} {s₁:Shared} {vs:List Value} {ns:List Int}
  (KX:K.In s₁.heap) (hns:s₁.heap.Ns mainGlobals mg) (hb:s₁.heap.Ns builtinsNs mb) (hbb:∀ x:Str,x ≠ "__name__" -> mb x=bootBuiltins x) (hlim:s₁.heap.NoLimit) (hg:s₁.gens = #[])
  (ha:s₁.heap.get? a=some { cls := .type "list",data := .seq vs.toArray }) (hi:IntsAre vs ns) (hl:ns.length≤sizeLine) (hr:Room k callerA)
  (F:∀ base:Heap,K.In base->base.Ns mainGlobals mg->FnOk P w K mg base CX k fa fd [x] sp) (hbind:∀ (s:Shared) (u:Value),BindsTo s fd ⟨[u],[]⟩ [(x,u)])
  (hsp:∀ H:Hp,qJM H->SqL K H a (ns.map V.int)->sp [.ref a] H (fun v _=>v = .bl true) fun _ _ _=>False)
  (hCX:∀ H e s',CX [] H s₁ (fun _ _ _=>False) e s'->False) :
  codeAny (model P w) callerA (.call (.ref fa) ⟨[.ref a],[]⟩) (fun r s'=>r = .ok (.ret (.bool true))∧OldK s₁.heap s'.heap∧s'.os=s₁.os∧AllBare s'.gens) s₁:=by
 have rv:=j0 hi
 have lenV:=hi.length
 -- from an abstract heap in which nothing but the script may be tracked
 have core:∀ H:Hp,qJM H->SqL K H a (ns.map V.int)->HOk P w H s₁.heap->(∀ b,H b≠none->b=a)->(H a≠none->K.lookup a=none) ->
   codeAny (model P w) callerA (.call (.ref fa) ⟨[.ref a],[]⟩) (fun r s'=>r = .ok (.ret (.bool true))∧OldK s₁.heap s'.heap∧s'.os=s₁.os∧AllBare s'.gens) s₁:=by
  intro H hO hS hok hA hK
  have base_of:∀ {b:Addr} {o:Obj},s₁.heap.get? b=some o->H b=none->(Jg s₁.heap H).get? b=some o:=fun e n=>qD5 e n
  have noA:∀ {b:Addr} {o:Obj} {es:Array DictEntry} {ep:Nat},s₁.heap.get? b=some o->o.data = .dict es ep->H b=none:=fun {b o es ep} e d=>by
   cases q:H b with
   |none=>rfl
   |some u =>
    have e':b=a:=hA b (by rw [q];simp)
    subst e'
    rw [ha] at e;cases e
    have d':Data.seq vs.toArray _=Data.dict es ep:=d
    cases d'
  have nsK:∀ {b:Addr} {m:Str->Option Value},s₁.heap.Ns b m->(Jg s₁.heap H).Ns b m:=fun {b m} ⟨o,es,ep,e,d,r⟩=>⟨o,es,ep,base_of e (noA e d),d,r⟩
  have hKb:K.In (Jg s₁.heap H):=fun b o e=>base_of (KX b o e) (by
   cases q:H b with
   |none=>rfl
   |some u =>
    have e':b=a:=hA b (by rw [q];simp)
    subst e'
    rw [hK (by rw [q];simp)] at e;cases e)
  have hM:Mod K mg (Jg s₁.heap H):=⟨hKb,nsK hns,⟨mb,nsK hb,hbb⟩,let ⟨mc,h1,h2⟩:=hlim;⟨mc,nsK h1,h2⟩⟩
  have e0:Env0 P w K mg (Jg s₁.heap H) callerA [] s₁ H:=⟨rfl,hM,fun b o e=>qGL e,Nat.le_of_eq (qDt _ _),trivial,fun b hb=>absurd (show b∈([]:List Addr) from hb) (by simp),hok,.of_eq hg,HndH.none rfl⟩
  refine codeAny_mono ((F _ hKb (nsK hns)).run callerA [] s₁ H ⟨[.ref a],[]⟩ [.ref a] [.ref a] _ _ hr e0 (hbind s₁ (.ref a)) (.cons rfl .nil) (hsp H hO hS)) fun r s' h => ?_
  cases r with
  |error e=>exact (hCX H e s' h).elim
  |ok fl =>
   cases fl with
   |next=>exact False.elim h
   |brk=>exact False.elim h
   |cont=>exact False.elim h
   |ret u =>
    obtain ⟨v,H',os,bare,un,hok',r',q⟩:=h
    have q':v = .bl true:=q
    subst q'
    obtain rfl:u=Value.bool true:=r'
    refine ⟨rfl,OldK.of_keep fun b o e => ?_,os,bare⟩
    cases q:H b with
    |none=>exact un.keep b o e q (by intro z;exact absurd (show b∈([]:List Addr) from z) (by simp)) (by simp)
    |some u =>
     rcases hO b with z |⟨ob,xs,z⟩
     ·rw [q] at z;cases z
     ·have z2:=un.frzs b ob _ z
      obtain ⟨e1,_⟩:=hok b _ z
      obtain ⟨e2,_⟩:=hok' b _ z2
      rw [e] at e1;cases e1
      exact e2
 cases hk:K.lookup a with
 |some o =>
  -- the script is one of the module's own objects
  have e:=KX a o hk
  rw [ha] at e
  cases e
  refine core (fun _=>none) (fun _ => .inl rfl) (.inr ⟨_,vs.toArray,_,hk,rfl,rfl,rfl,by rw [AS,lenV];exact hl,by simpa using rv⟩) (fun b u z=>by have z':(none:Option HO)=some u:=z;cases z') (fun b z=>absurd rfl z) fun z=>absurd rfl z
 |none =>
  refine core (fun b=>if b=a then some (.frz { cls := .type "list",data := .seq vs.toArray } (.lst (ns.map V.int))) else none) (fun b => ?_) (.inl (.inr ⟨{ cls := .type "list",data := .seq vs.toArray },AG rfl⟩)) (fun b u z => ?_) (fun b z => ?_) fun _=>hk
  ·by_cases hb:b=a
   ·exact .inr ⟨_,_,AG hb⟩
   ·exact .inl (AN hb)
  ·by_cases hb:b=a
   ·have z':=(AG hb).symm.trans z
    cases z'
    subst hb
    exact ⟨ha,by rw [AF];exact hl,vs,_,rv,ha⟩
   ·have z':=(AN hb).symm.trans z
    cases z'
  ·by_cases hb:b=a
   ·exact hb
   ·exact absurd (AN hb) z
end L2
namespace L2
open PySem PySem.Spec PyProof.Rows
end L2
namespace L2
open PySem PySem.Spec PyProof.Rows
def qd (s:Stmt):Arguments:=match s with
 | .FunctionDef _ a _ _ _ _ _ _ _ _=>a
 |_=>{ posonlyargs:=[],args:=[],vararg:=none,kwonlyargs:=[],kw_defaults:=[],kwarg:=none,defaults:=[] }
def qZ (s:Stmt):List Stmt:=match s with
 | .FunctionDef _ _ b _ _ _ _ _ _ _=>b
 |_=>[]
def qJ (s:Stmt):Scope:=match s with
 | .FunctionDef _ _ _ _ _ _ sc _ _ _=>sc
 |_=>{ kind := .function,names:=[],isGenerator:=false,isCoroutine:=false }
abbrev E0:XK:=fun _ _ _=>False
structure Fun (K:W.Frag) (x qual:Str) (st:Stmt) (f:Addr) (fd:FuncData):Prop where
 ex:∃ (oc:Value) (od:Option Addr) (kV doc pm:Value) (an:Option Addr) (cdv ct:Value) (osl:Array (Option Value)),
  fd=W.fnOf x qual (qd st) (qZ st) (qJ st) .none kV doc pm an cdv ct∧K.lookup f=some ⟨oc,od,.func fd,osl⟩∧W.codeIn K cdv qual=true
 kp:W.keepIn K (.ref f)=true
section
variable {P:Program} {w:World} {K:W.Frag} {mg:Str->Option Value} {base:Heap}
theorem Fun.binds {x qual:Str} {st:Stmt} {f:Addr} {fd:FuncData} {ps:List Str} (F:Fun K x qual st f fd)
  (h:∀ (kV doc pm:Value) (an:Option Addr) (cdv ct:Value) (us:List Value),us.length=ps.length->bindArgs (W.fnOf x qual (qd st) (qZ st) (qJ st) .none kV doc pm an cdv ct) ⟨us,[]⟩=pure (ps.zip us)):Binds K fd ps []:=by
 obtain ⟨oc,od,kV,doc,pm,an,cdv,ct,osl,rfl,lk,hcd⟩:=F.ex
 exact .all (h kV doc pm an cdv ct)
theorem QS {x qual:Str} {st:Stmt} {f:Addr} {oc:Value} {od an:Option Addr} {osl:Array (Option Value)} {kV doc pm cdv ct:Value} (l:K.lookup f=some ⟨oc,od,.func (W.fnOf x qual (qd st) (qZ st) (qJ st) .none kV doc pm an cdv ct),osl⟩)
  (c:W.codeIn K cdv qual=true) (k:W.keepIn K (.ref f)=true):Fun K x qual st f (W.fnOf x qual (qd st) (qZ st) (qJ st) .none kV doc pm an cdv ct):=⟨⟨oc,od,kV,doc,pm,an,cdv,ct,osl,rfl,l,c⟩,k⟩
end
section
variable {X:Cx}
theorem pv (i:Nat) {x:Str} {pos:Pos} (hN:X.N[i]? = some x:=by rfl) (hv:Vis X.env.scope x:=by first |exact Or.inl rfl |exact Or.inr (Or.inl rfl) |exact Or.inr (Or.inr rfl)) (hd:(x==("__debug__":Str))=false:=by decide)
  (hcd:(x==("__classdict__":Str))=false:=by decide):PE X (.Name x pos) (qJA i):=qJY hN hv hd hcd
end
theorem qDX {A B:Prop} (h:B):if false=true then A else B:=by
 rw [AN BL]
 exact h
theorem qDj {A B:Prop} (h:A):if true=true then A else B:=by
 rw [AG rfl]
 exact h
def Same (H H':Hp):Prop := ∀ b o,H b=some o->H' b=some o
theorem Same.refl (H:Hp):Same H H:=fun _ _ h=>h
end L2
end
section
namespace L2
open PySem PySem.Spec PyProof.Rows
section
variable {X:Cx} {pins:List (Addr×Obj)} {σ:St} {H:Hp} {s:Shared} {a:Addr} {y v:V} {u r:Value} {o:Option V} {A:Around} {E:Value->Shared->Prop}
theorem Inv.big (I:Inv X pins σ H s):sysModules < s.heap.objs.size:=by
 have h:mainGlobals < s.heap.objs.size:=(I.mod.glob.keeps I.bk).lt
 exact Nat.lt_trans (by decide) h
end
theorem qFU {P:Program} {w:World} {H:Hp} (h:Heap) (hb:sysModules < h.objs.size):ObjOk P w H (h.push { cls := .type "dict",data := .dict #[] }) h.objs.size (.dK []) :=
 ⟨BJ _,AH.mpr (Ne.symm (AZ hb)),[],.nil,Heap.DictOf.new h⟩
def qIp:TE:=fun _ H Q => ∀ p,H p=none->Q (.ref p) (upd H p (.dK []))
section
variable {X:Cx} {pos:Pos}
theorem qE2:PE X (.Dict [] [] pos) qIp:=fun pins s σ H Q I h =>
 wpAny_Dict_empty ⟨.ref s.heap.objs.size,_,I.laid (a:=s.heap.objs.size) (o := .dK []) (t':=s.toks) (fun _ _ q=>AC _ q) (AL _) (qFU s.heap I.big),rfl,h _ (I.hok.fresh (AL _))⟩
end
end L2
namespace L2
open PySem PySem.Spec PyProof.Rows
end L2
end
section
namespace EX
open PySem PySem.Spec PyProof.Rows
def Trc (h B:Heap) (e:Addr) (cls:Value) (dd:Option Addr) (fl:Value):Prop :=
 ∃ oe vs T oT ts,h.get? e=some oe∧oe.cls=cls∧oe.dict=dd∧oe.data = .fields vs∧vs[1]? = some (Value.ref T)∧vs[2]? = some Value.none∧B.get? T=none∧T≠e∧h.get? T=some oT∧oT.data = .fields ts∧ts[3]? = some fl
def Fly (B:Heap) (l:List Env) (e:Addr) (cls:Value) (dd:Option Addr) (fl:Value) (h:Heap):Prop:=B.StaysIn h∧B.get? e=none∧h.FunFrames B l∧Trc h B e cls dd fl
theorem Fly.tail {B h:Heap} {env:Env} {l:List Env} {e:Addr} {cls fl:Value} {dd:Option Addr} (x:Fly B (env::l) e cls dd fl h):Fly B l e cls dd fl h:=⟨x.1,x.2.1,x.2.2.1.2.2,x.2.2.2⟩
section
variable {M:Model} {A:Around} {E:Value->Shared->Prop} {s:Shared} {B:Heap} {env:Env} {outer:List Env} {L e:Addr} {cls:Value} {dd:Option Addr} {Q:Unit->Shared->Prop}
theorem qAQ {oe:Obj} {vs:Array Value} {head:Value} {nx:Bool} (f1:A.frames=some (env::outer)) (f2:s.heap.FunFrames B (env::outer)) (f3:env.frame=some L) (k1:B.StaysIn s.heap) (k2:B.get? e=none)
  (g1:s.heap.get? e=some oe) (g2:oe.data = .fields vs) (g3:1 < vs.size) (g4:vs[2]? = some Value.none) (h:∀ h',Fly B (env::outer) e oe.cls oe.dict (rawInt L) h'->s.heap.UpToSlots h'->Q () { s with heap:=h' }) :
  wpAny M A (do let a ← frameOf env;let pl ← entryPlaceOf L nx;let b ← EntryCells.newEntry head a .none (rawInt L) .none pl;setField (.ref e) 1 b) Q E s:=by
 have nfr:e ∉ (env::outer).filterMap (·.frame):=fun hm=>by
  obtain ⟨_,o,ho,hnf⟩:=f2.mem hm
  rw [g1] at ho;cases ho;exact hnf vs g2
 refine AA (wpAny_frameOf_fun f1 f2 f3 fun h1 so=>AA (wpAny_entryPlaceOf fun pl hpl => ?_))
 unfold EntryCells.newEntry newFields
 refine AA (A1 ?_ (hpl.sizeOk5 _ _ _ _ _))
 generalize hts:([head,Value.ref L,.none,rawInt L,.none]++(if pl.isEmpty then List.replicate 6 Value.none else pl)).toArray=ts
 have ht3:ts[3]? = some (rawInt L):=by rw [← hts];first |(simp;done) |(rcases hpl with rfl |⟨_,_,_,_,_,_,_,rfl⟩ <;> simp)
 have a1:h1.get? e=some oe:=(so.2.1 e nfr).trans g1
 have kb:B.StaysIn h1:=fun b o q=>(so.2.1 b fun hm=>by rw [(f2.mem hm).1] at q;cases q).trans (k1 b o q)
 have a2:=AC (h:=h1) { cls := .type "traceback",dict:=none,data := .fields ts } a1
 refine BV a2 g2 g3 (h _ ?_ ?_)
 ·have ne1:h1.objs.size≠e:=CN (AM a1)
  have d3:=BA g2 (·.setIfInBounds 1 (Value.ref h1.objs.size))
  have a3:=A2 (Obj.mapFields (·.setIfInBounds 1 (Value.ref h1.objs.size))) a2 (Bj d3)
  have a4:=(Ah (h1.push { cls := .type "traceback",dict:=none,data := .fields ts }) (Obj.mapFields (·.setIfInBounds 1 (Value.ref h1.objs.size))) (Ne.symm ne1)).trans (AV h1 rfl)
  have kp:∀ b o,b≠e->h1.get? b=some o->((h1.push { cls := .type "traceback",dict:=none,data := .fields ts }).update e (Obj.mapFields (·.setIfInBounds 1 (Value.ref h1.objs.size)))).get? b=some o:=fun b o hb q =>
   (Ah _ _ (Ne.symm hb)).trans (AC _ q)
  refine ⟨fun b o q=>kp b o (fun z=>by rw [z,k2] at q;cases q) (kb b o q),k2,f2.of_keeps fun b o q nf => ?_,_,_,h1.objs.size,_,ts,a3,CJ _ _,?_,d3,?_,?_,kb.fresh,ne1,a4,rfl,ht3⟩
  ·obtain ⟨sl,q2⟩:=so.2.2 b o q
   exact ⟨_,kp b _ (fun z=>by rw [z,g1] at q;cases q;exact nf vs g2) q2,rfl⟩
  ·obtain ⟨c,d,dt,sl⟩:=oe
   have g2:dt = .fields vs:=g2
   subst g2;rfl
  ·simp [g3]
  ·rw [Array.getElem?_setIfInBounds_ne (by decide)];exact g4
 ·intro b o q nf
  have hb:b≠e:=fun z=>by rw [z,g1] at q;cases q;exact nf vs g2
  obtain ⟨sl,q2⟩:=so.2.2 b o q
  exact ⟨sl,(Ah _ _ (Ne.symm hb)).trans (AC _ q2)⟩
theorem qBX {oe:Obj} {vs:Array Value} (f1:A.frames=some (env::outer)) (f2:s.heap.FunFrames B (env::outer)) (f3:env.frame=some L) (k1:B.StaysIn s.heap) (k2:B.get? e=none)
  (g1:s.heap.get? e=some oe) (g2:oe.data = .fields vs) (g3:vs[1]? = some Value.none) (g4:vs[2]? = some Value.none) (h:∀ h',Fly B (env::outer) e oe.cls oe.dict (rawInt L) h'->s.heap.UpToSlots h'->Q () { s with heap:=h' }) :
  wpAny M A (noteFrame (.ref e) env) Q E s:=by
 unfold noteFrame
 simp only [f3]
 refine AA (Aq g1 g2 g3 ?_)
 rw [AN (show ¬ ((Value.none != Value.none)=true) by decide)]
 exact qAQ f1 f2 f3 k1 k2 g1 g2 (BU.mp g3).1 g4 h
theorem jr (f1:A.frames=some (env::outer)) (f3:env.frame=some L) (x:Fly B (env::outer) e cls dd .none s.heap) (h:∀ h',Fly B (env::outer) e cls dd (rawInt L) h'->s.heap.UpToSlots h'->Q () { s with heap:=h' }) :
  wpAny M A (noteFrame (.ref e) env) Q E s:=by
 obtain ⟨k1,k2,f2,oe,vs,T,oT,ts,g1,rfl,rfl,g2,g3,g4,t1,t2,t3,t4,t5⟩:=x
 unfold noteFrame
 simp only [f3]
 refine AA (Aq g1 g2 g3 ?_)
 rw [AG (show (Value.ref T != Value.none)=true by simp)]
 refine AA (Aq t3 t4 t5 ?_)
 rw [AN (show ¬ ((Value.none==rawInt L)=true) by simp [rawInt])]
 refine AA (BV t3 t4 (BU.mp t5).1 ?_)
 have ot:∀ b,b≠T->(s.heap.update T (Obj.mapFields (·.setIfInBounds 3 Value.none))).get? b=s.heap.get? b:=fun b hb=>Ah _ _ (Ne.symm hb)
 have nr:∀ b o,s.heap.get? b=some o->(∀ us,o.data ≠ .fields us)->b≠T:=fun b o q nf z=>by rw [z,t3] at q;cases q;exact nf ts t4
 refine qAQ f1 (f2.of_keeps fun b o q nf=>⟨o,(ot b (nr b o q nf)).trans q,rfl⟩) f3 (fun b o q=>(ot b fun z=>by rw [z,t1] at q;cases q).trans (k1 b o q)) k2 ((ot e (Ne.symm t2)).trans g1) g2 (BU.mp g3).1 g4 fun h' x u=>h h' x fun b o q nf => ?_
 exact u b o ((ot b (nr b o q nf)).trans q) nf
theorem qC8 {l:List Env} {fl:Value} (x:Fly B l e cls dd fl s.heap) (h:∀ h',Fly B l e cls dd .none h'->s.heap.UpToSlots h'->Q () { s with heap:=h' }):wpAny M A (setFlight (.ref e) none) Q E s:=by
 obtain ⟨k1,k2,f2,oe,vs,T,oT,ts,g1,g0,g00,g2,g3,g4,t1,t2,t3,t4,t5⟩:=x
 have t6:3 < ts.size:=(BU.mp t5).1
 have ot:∀ b,b≠T->(s.heap.update T (Obj.mapFields (·.setIfInBounds 3 ((none:Option Addr).elim Value.none fun f=>rawInt f)))).get? b=s.heap.get? b:=fun b hb=>Ah _ _ (Ne.symm hb)
 have nr:∀ b o,s.heap.get? b=some o->(∀ us,o.data ≠ .fields us)->b≠T:=fun b o q nf z=>by rw [z,t3] at q;cases q;exact nf ts t4
 unfold setFlight
 refine AA (Aq g1 g2 g3 ?_)
 rw [AG (show (Value.ref T != Value.none)=true by simp)]
 refine BV t3 t4 t6 (h _ ⟨fun b o q=>(ot b fun z=>by rw [z,t1] at q;cases q).trans (k1 b o q),k2,f2.of_keeps fun b o q nf=>⟨o,(ot b (nr b o q nf)).trans q,rfl⟩,?_⟩ fun b o q nf=>⟨o.slots,(ot b (nr b o q nf)).trans q⟩)
 exact ⟨oe,vs,T,_,_,(ot e (Ne.symm t2)).trans g1,g0,g00,g2,g3,g4,t1,t2,A2 _ t3 (Bj (BA t4 _)),BA t4 _,by simp [t6]⟩
theorem JV {oe:Obj} {vs:Array Value} (f1:A.frames=some (env::outer)) (f2:s.heap.FunFrames B (env::outer)) (f3:env.frame=some L) (k1:B.StaysIn s.heap) (k2:B.get? e=none)
  (g1:s.heap.get? e=some oe) (g2:oe.data = .fields vs) (g3:vs[1]? = some Value.none) (g4:vs[2]? = some Value.none) (h:∀ h',Fly B outer e oe.cls oe.dict .none h'->s.heap.UpToSlots h'->Q () { s with heap:=h' }) :
  wpAny M A (leaving env (.ref e)) Q E s:=by
 unfold leaving
 exact AA (qBX f1 f2 f3 k1 k2 g1 g2 g3 g4 fun h1 x1 u1=>qC8 x1 fun h2 x2 u2=>h h2 x2.tail (u1.trans u2))
theorem qBD (f1:A.frames=some (env::outer)) (f3:env.frame=some L) (x:Fly B (env::outer) e cls dd .none s.heap) (h:∀ h',Fly B outer e cls dd .none h'->s.heap.UpToSlots h'->Q () { s with heap:=h' }) :
  wpAny M A (leaving env (.ref e)) Q E s:=by
 unfold leaving
 exact AA (jr f1 f3 x fun h1 x1 u1=>qC8 x1 fun h2 x2 u2=>h h2 x2.tail (u1.trans u2))
end
end EX
end
section
namespace EX
open PySem PySem.Spec PyProof.Rows L2
structure UnB (fs:List Addr) (H H1:Hp) (h B:Heap):Prop where
 keep:∀ b o,h.get? b=some o->H b=none->b ∉ fs->B.get? b=some o
 free:∀ b o,h.get? b=some o->H b=none->H1 b=none
 there:∀ b o,h.get? b=some o->b ∉ fs -> ∃ o',B.get? b=some o'
 tups:∀ b xs,H b=some (.tup xs)->H1 b=some (.tup xs)
 frzs:∀ b o u,H b=some (.frz o u)->H1 b=some (.frz o u)
 tbls:∀ b ps,H b=some (.tbl ps) -> ∃ more,H1 b=some (.tbl (ps++more))
def CXF (P:Program) (w:World):CXT:=fun outer H s E e s' =>
 ∃ ea cls dd B H1,e=Value.ref ea∧Fly B outer ea cls dd .none s'.heap∧HOk P w H1 B∧s'.os=s.os∧AllBare s'.gens∧UnB (frs outer) H H1 s.heap B ∧
  (∀ b∈frs outer,∀ o,s.heap.get? b=some o -> ∃ sl,s'.heap.get? b=some { o with slots:=sl })∧E cls dd H1
theorem J8 {env:Env} {outer:List Env} {L:Addr} (h:env.frame=some L):frs (env::outer)=L::frs outer:=by
 unfold frs;rw [BH,h]
theorem CXF.un {P:Program} {w:World} {outer:List Env} {H H1:Hp} {s s':Shared} {B:Heap} (hs:B.StaysIn s'.heap) (un:UnB (frs outer) H H1 s.heap B) (sl:∀ b∈frs outer,∀ o,s.heap.get? b=some o -> ∃ sl,s'.heap.get? b=some { o with slots:=sl }) :
  Un (frs outer) [] H H1 s.heap s'.heap where
 keep:=fun b o e n hb _=>hs b o (un.keep b o e n hb)
 slot:=fun b o e n hb _=>sl b hb o e
 free:=fun b o e n _=>un.free b o e n
 there:=fun b o e _=>by
  by_cases hb:b∈frs outer
  ·obtain ⟨x,q⟩:=sl b hb o e;exact ⟨_,q⟩
  ·obtain ⟨o',q⟩:=un.there b o e hb;exact ⟨o',hs b o' q⟩
 tups:=un.tups
 frzs:=un.frzs
 tbls:=un.tbls
section
variable {P:Program} {w:World} {K:W.Frag} {mg:Str->Option Value} {base:Heap} {N:List Str} {qual:Str} {scope:Scope} {f:Addr} {cd:Value} {A:Around} {outer:List Env} {s₀:Shared} {H₀:Hp} {E:XK}
theorem qj:ZN (CXF P w) (wj (CXF P w) P w K mg base N qual scope f cd A outer s₀ H₀ E) E:=by
 intro pins σ H s e s' I c
 obtain ⟨ea,cls,dd,B,H1,rfl,fl,hok,os,bare,un,sl,q⟩:=c
 have hfr:(envOfC qual scope s₀.heap.objs.size f cd).frame=some s₀.heap.objs.size:=rfl
 have ef:frs (wj (CXF P w) P w K mg base N qual scope f cd A outer s₀ H₀ E).stack=s₀.heap.objs.size::frs outer:=J8 hfr
 have Ib:Un (frs outer) [] H₀ H s₀.heap s.heap:=I.base
 have ne:∀ b o,s₀.heap.get? b=some o->b≠s₀.heap.objs.size:=fun b o e=>AZ (AM e)
 refine qBD I.ok.frames hfr fl fun h' x u=>⟨ea,cls,dd,B,H1,rfl,x,hok,os.trans I.os,bare,?_,fun b hb o e => ?_,q⟩
 ·refine ⟨fun b o e n hb => ?_,fun b o e n => ?_,fun b o e hb => ?_,fun b xs e=>un.tups b xs (Ib.tups b xs e),fun b o u e=>un.frzs b o u (Ib.frzs b o u e),fun b ps e => ?_⟩
  ·exact un.keep b o (Ib.keep b o e n hb (by simp)) (Ib.free b o e n (by simp)) (by rw [ef];intro z;exact (AJ.mp z).elim (ne b o e) hb)
  ·obtain ⟨o',e'⟩:=Ib.there b o e (by simp)
   exact un.free b o' e' (Ib.free b o e n (by simp))
  ·obtain ⟨o',e'⟩:=Ib.there b o e (by simp)
   exact un.there b o' e' (by rw [ef];intro z;exact (AJ.mp z).elim (ne b o e) hb)
  ·obtain ⟨m1,e1⟩:=Ib.tbls b ps e
   obtain ⟨m2,e2⟩:=un.tbls b _ e1
   exact ⟨m1++m2,by rw [e2,Array.append_assoc]⟩
 ·obtain ⟨sl1,e1⟩:=Ib.slot b o e (I.ok.frf b hb) hb (by simp)
  obtain ⟨sl2,e2⟩:=sl b (by rw [ef];exact AD _ hb) _ e1
  have nf:∀ vs,o.data ≠ .fields vs:=by
   obtain ⟨_,o2,ho2,nf⟩:=I.ok.funs.mem hb
   have e:(wj (CXF P w) P w K mg base N qual scope f cd A outer s₀ H₀ E).s₀.heap.get? b=some o:=e
   rw [e] at ho2;cases ho2;exact nf
  obtain ⟨sl3,e3⟩:=u b _ e2 nf
  exact ⟨sl3,e3⟩
theorem qDd {pins:List (Addr×Obj)} {σ:L2.St} {H:Hp} {s:Shared} {h':Heap} {e:Addr} {oe:Obj} {vs:Array Value} {H1:Hp} {B0:Heap} (I:L2.Inv (wj (CXF P w) P w K mg base N qual scope f cd A outer s₀ H₀ E) pins σ H s) (k:∀ b o,s.heap.get? b=some o->h'.get? b=some o) (hn:s.heap.get? e=none)
  (g1:h'.get? e=some oe) (g2:oe.data = .fields vs) (g3:vs[1]? = some Value.none) (g4:vs[2]? = some Value.none) (q:E oe.cls oe.dict H):(wj (CXF P w) P w K mg base N qual scope f cd A outer s₀ H₀ E).xe (.ref e) { s with heap:=h' }:=by
 have hfr:(envOfC qual scope s₀.heap.objs.size f cd).frame=some s₀.heap.objs.size:=rfl
 have ef:frs (wj (CXF P w) P w K mg base N qual scope f cd A outer s₀ H₀ E).stack=s₀.heap.objs.size::frs outer:=J8 hfr
 have Ib:Un (frs outer) [] H₀ H s₀.heap s.heap:=I.base
 have ne:∀ b o,s₀.heap.get? b=some o->b≠s₀.heap.objs.size:=fun b o e=>AZ (AM e)
 generalize hB:W.hideAll s.heap (frs (wj (CXF P w) P w K mg base N qual scope f cd A outer s₀ H₀ E).stack)=B
 have toB:∀ b o,s.heap.get? b=some o->b ∉ frs (wj (CXF P w) P w K mg base N qual scope f cd A outer s₀ H₀ E).stack->B.get? b=some o:=fun b o e hb=>by rw [← hB];exact W.hideAll_get _ e hb
 have ofB:∀ b o,B.get? b=some o->s.heap.get? b=some o:=fun b o e=>by rw [← hB] at e;exact W.of_hideAll _ e
 have trk:∀ b u,H b=some u->b ∉ frs (wj (CXF P w) P w K mg base N qual scope f cd A outer s₀ H₀ E).stack:=fun b u e z=>by rw [I.stkFree b z] at e;cases e
 have fun1:h'.FunFrames B (wj (CXF P w) P w K mg base N qual scope f cd A outer s₀ H₀ E).stack:=by
  have:=W.funFrames_hide (as:=frs (wj (CXF P w) P w K mg base N qual scope f cd A outer s₀ H₀ E).stack) I.stack fun env he a ha=>CC.mpr ⟨env,he,ha⟩
  rw [hB] at this
  exact this.of_keeps fun b o e _=>⟨o,k b o e,rfl⟩
 have eB:B.get? e=none:=by
  cases z:B.get? e with
  |none=>rfl
  |some o=>have:=ofB e o z;rw [hn] at this;cases this
 refine JV (s:={ s with heap:=h' }) I.ok.frames fun1 hfr (fun b o z=>k b o (ofB b o z)) eB g1 g2 g3 g4 fun h2 x u=>⟨e,oe.cls,oe.dict,B,H,rfl,x,?_,I.os,I.bare,?_,fun b hb o e1 => ?_,q⟩
 ·exact fun b u e1=>(I.hok b u e1).stay (fun c v hc z=>toB c v z (hc.elim (fun z=>by rw [z];exact trk b u e1) fun z=>trk c _ z)) (fun _ z=>z) fun _ _ z=>z
 ·refine ⟨fun b o e n hb => ?_,fun b o e n=>Ib.free b o e n (by simp),fun b o e hb => ?_,fun b xs e=>Ib.tups b xs e,fun b o u e=>Ib.frzs b o u e,fun b ps e=>Ib.tbls b ps e⟩
  ·exact toB b o (Ib.keep b o e n hb (by simp)) (by rw [ef];intro z;exact (AJ.mp z).elim (ne b o e) hb)
  ·obtain ⟨o',e'⟩:=Ib.there b o e (by simp)
   exact ⟨o',toB b o' e' (by rw [ef];intro z;exact (AJ.mp z).elim (ne b o e) hb)⟩
 ·obtain ⟨sl1,e2⟩:=Ib.slot b o e1 (I.ok.frf b hb) hb (by simp)
  have nf:∀ vs,o.data ≠ .fields vs:=by
   obtain ⟨_,o2,ho2,nf⟩:=I.ok.funs.mem hb
   have e1:(wj (CXF P w) P w K mg base N qual scope f cd A outer s₀ H₀ E).s₀.heap.get? b=some o:=e1
   rw [e1] at ho2;cases ho2;exact nf
  obtain ⟨sl3,e3⟩:=u b _ (k b _ e2) nf
  exact ⟨sl3,e3⟩
end
section
variable {prog:Program} {w:World} {A:Around} {E:Value->Shared->Prop} {s:Shared} {K:W.Frag} {x D:Addr} {ox:Obj} {od:Option Obj}
structure ExcK (K:W.Frag) (D:Addr):Prop where
 ga:W.findIn K (.ref D) "__getattribute__" = some (some (.builtin "BaseException.__getattribute__"))
 gn:W.findIn K (.ref D) "__getattr__" = some none
 fo:∀ od,W.findObj K D od "__class__" = some (.bind (.builtin "getset_descriptor.__get__") (.builtin "object.__class__"))
 mo:W.mroIn K D (.type "object")=some true
 mb:W.mroIn K D (.type "BaseException")=some true
theorem qDY {Q:Option Value->Shared->Prop} (C:ExcK K D) (X:K.In s.heap) (I:W.InstAt s.heap x ox D od) (h:Q (some (.ref D)) { s with toks:=s.toks + 1 }):wpAny (model prog w) A (getAttr? (.ref x) "__class__") Q E s:=by
 obtain ⟨hh,g,d,t,os⟩:=s
 have L0:=I.type (M:=model prog w)
 have L1:=W.looks_findIn (M:=model prog w) X C.ga
 have L2:=W.looks_findIn (M:=model prog w) X C.gn
 have L3:=W.looks_find (M:=model prog w) X I (C.fo od)
 have L4:=W.looks_mroIn (M:=model prog w) X C.mb
 have LI:W.Looks (model prog w) hh (isInstance (.ref x) (.type "BaseException")) true:=L0.andThen L4
 have f3:=F.attr_ValueError.ga.bind (.ref x)
 unfold getAttr? getAttrBy? getAttrBy
 refine AA (wpAny_mkText (AA (Bs (Au (AA (L0.at (AA (L1.at ?_))))))))
 show wpAny _ _ (getAttrByItsOwn _ _ _ _ _ _) _ _ _
 unfold getAttrByItsOwn
 refine AA (L2.at (AA (Bs (Au ?_))))
 show wpAny _ _ (boundAndCalled _ _ _) _ _ _
 unfold boundAndCalled
 refine AA (An f3 ?_)
 refine CD (CS F.attr_ValueError.ga.plain F.entry_bexc_ga ?_)
 have hk:builtinKind "BaseException.__getattribute__" = some .slot:=by decide +kernel
 have hsp:splitId "BaseException.__getattribute__" = some ("BaseException","__getattribute__"):=by decide +kernel
 have ha:=F.args_bexc_ga (.ref x) (.str "__class__" t)
 simp only [checkBuiltinCall,hk,hsp]
 refine AA (LI.at ?_)
 rw [AN (show ¬ ((!true)=true) by decide)]
 refine An (a:=()) ha ?_
 show wpAny _ A.in1 (Builtin.«object.__getattribute__» ⟨[.ref x,.str "__class__" t],[]⟩) _ _ _
 unfold Builtin.«object.__getattribute__»
 refine AA (AB ?_)
 refine AA (AB ?_)
 refine AA (L0.at (AA (L3.at ?_)))
 show wpAny _ A.in1 (holding [Value.builtin "object.__class__"] (call (.builtin "getset_descriptor.__get__") [.builtin "object.__class__",.ref x,.ref D]) >>= ret) _ _ _
 refine AA (Au (CD (W.class_get X I C.mo ?_)))
 exact AB (AB (AB h))
end
theorem qGi {K:W.Frag} {h:Heap} {C:Addr} {bmB:List Value} {newId:String} (X:K.In h) (q:W.excIn K C bmB newId=true) :
  ∃ bm N nm qn bs hd sn sb ab co dd k0 k1 k2 k3 k5 mN,h.get? C=some (excClassObj nm qn C N bs bm hd sn sb ab co dd k0 k1 k2 k3 k5 newId)∧h.Ns N mN∧mN "__init__" = none∧OwnTail h bmB bm:=by
 unfold W.excIn at q
 split at q
 ·rename_i dd cd sl ho
  split at q
  ·rename_i C' bm k0 k1 k2 k3 n k5 hm hs
   simp only [Aj,B4,Bool.not_eq_true'] at q
   obtain ⟨⟨⟨⟨⟨e1,e2⟩,e3⟩,e4⟩,e5⟩,e6⟩:=q
   subst e1;subst e2
   cases cd with
   |mk nm bs mro ns qn hd sn sb ab co del =>
    have hm:mro=_:=hm
    have e3:del=false:=e3
    subst hm;subst e3
    have hsl:sl = #[k0,k1,k2,k3,some (.builtin n),k5]:=by cases sl with |mk l=>rw [show l=_ from hs]
    subst hsl
    exact ⟨bm,ns,nm,qn,bs,hd,sn,sb,ab,co,dd,k0,k1,k2,k3,k5,_,X _ _ ho,.of_isNs (W.isNs_of_in X e5),W.nsMap_none_of_in X e5 e6,W.tail_of_in X e4⟩
  ·cases q
 ·cases q
def Rz (X:Cx) (E:XK):Prop := ∀ (pins:List (Addr×Obj)) (σ:L2.St) (H:Hp) (s:Shared) (h':Heap) (e:Addr) (oe:Obj) (vs:Array Value),L2.Inv X pins σ H s->(∀ b o,s.heap.get? b=some o->h'.get? b=some o)->s.heap.get? e=none ->
 h'.get? e=some oe->oe.data = .fields vs->vs[1]? = some Value.none->vs[2]? = some Value.none->E oe.cls oe.dict H->X.xe (.ref e) { s with heap:=h' }
theorem qHk {P:Program} {w:World} {K:W.Frag} {mg:Str->Option Value} {base:Heap} {N:List Str} {qual:Str} {scope:Scope} {f:Addr} {cd:Value} {A:Around} {outer:List Env} {s₀:Shared} {H₀:Hp} {E:XK} :
  Rz (wj (CXF P w) P w K mg base N qual scope f cd A outer s₀ H₀ E) E:=fun _ _ _ _ _ _ _ _ I k hn g1 g2 g3 g4 q=>qDd (H1:=H₀) (B0:=base) I k hn g1 g2 g3 g4 q
abbrev bmV:List Value:=[.type "ValueError",.type "Exception",.type "BaseException",.type "object"]
section
variable {X:Cx} {E:XK} {x:Str} {C:Addr} {e:Expr} {es:List Expr} {t:TA} {np cpos pos:Pos}
theorem qFk (hz:Rz X E) (hc:X.calm=true) (hg:Gl X x) (hm:X.mg x=some (.ref C)) (q:W.excIn X.K C bmV "ValueError.__new__" = true) (ha:PA X (e::es) t) (hdb:(x==("__debug__":Str))=false:=by decide)
  (he:starEach (e::es) X.env=(false,eval e X.env)::starEach es X.env:=by rfl) (hpl:(backTo cpos (starEach es X.env)).any (·.1)=false:=by rfl) :
  PS X (.Raise (some (.Call (.Name x np) (e::es) [] cpos)) none pos) (fun D σ H=>t σ H fun vs H1=>vs.length≤sizeLine∧E (.ref C) none H1):=by
 intro pins s σ H D I h
 obtain ⟨bm,N,nm,qn,bs,hd,sn,sb,ab,co,dd,k0,k1,k2,k3,k5,mN,o1,o2,o3,o4⟩:=qGi I.ok.mod.kin q
 refine wpAny_Raise_call_subU (C:=C) (nm:=nm) (q:=qn) (N:=N) (bs:=bs) (bm:=bm) (hdct:=hd) (sn:=sn) (sub:=sb) (ab:=ab) (col:=co) (dd:=dd) (k0:=k0) (k1:=k1) (k2:=k2) (k3:=k3) (k5:=k5) (mN:=mN)
  F.excBase_ValueError F.excBase_ValueError.hasB F.excBase_ValueError (o4.hasType F.excBase_ValueError.hasBase) (I.ok.hd hc) (by rw [he];show (false || (backTo cpos (starEach es X.env)).any (·.1))=false;rw [hpl];rfl) o3 (Jj I hg hm ⟨rfl,?_⟩ hdb)
 have ha':=ha cpos pins s σ H _ I h
 rw [he] at ha' ⊢
 refine Calls.evalArgs_plain (thn ha' fun us s1 ⟨vs,H1,I1,r1,q1,q2⟩=>⟨rfl,by rw [← r1.length];exact q1,I1.bk _ _ o1,o2.keeps I1.bk,o4.keeps I1.bk,fun h' ea hx => ?_⟩)
 obtain ⟨tt,h1,_,_⟩:=hx.there
 exact hz pins σ H1 s1 h' ea _ _ I1 hx.keeps hx.new h1 rfl rfl rfl q2
end
section
variable {M:Model} {A:Around} {E:Value->Shared->Prop} {K:W.Frag} {h:Heap} {g:Array GenState} {d:Drawn} {t:Nat} {os:OsState} {e Bx C:Addr} {oe:Obj} {dd:Option Addr} {cd:ClassData} {sl:Array (Option Value)} {Q:Bool->Shared->Prop}
theorem qAZ (X:K.In h) (o1:K.lookup Bx=some ⟨.type "type",dd,.cls cd,sl⟩) (m1:W.mroIn K Bx (.type "BaseException")=some true) (he:h.get? e=some oe) (hc:oe.cls = .ref C) (m2:W.mroIn K C (.ref Bx)=some true)
  (hq:Q true ⟨h,g,d,t,os⟩):wpAny M A (excMatches (.ref e) (.ref Bx)) Q E ⟨h,g,d,t,os⟩:=by
 have hB:=X _ _ o1
 have L4:=W.looks_mroIn (M:=M) X m1
 have L5:=W.looks_mroIn (M:=M) X m2
 have f:=tc_notTuple
 unfold excMatches
 repeat (first |(with_reducible refine wpAny_loadPart_at he ?_;rw [hc]) |with_reducible refine wpAny_loadPart_at hB ?_ |with_reducible refine L4.at ?_ |with_reducible refine L5.at ?_ |wp_step)
 exact hq
end
def qAo (X:Cx) (pins:List (Addr×Obj)) (xe:Value->Shared->Prop):Cx:={ X with xe:=xe,pn:=X.pn++pins }
def suX (X:Cx) (ea:Addr):Cx:={ X with A:=X.A.mark (some (.ref ea)),calm:=false,xe:=fun _ _=>False }
abbrev qD8:HO := .ext fun _=>True
section
variable {X:Cx} {pins:List (Addr×Obj)} {σ:L2.St} {H:Hp} {s:Shared} {xe:Value->Shared->Prop}
theorem qG7 (I:L2.Inv X pins σ H s):L2.Inv (qAo X pins xe) [] σ H s :=
 ⟨⟨I.ok.mod,I.ok.kind,I.ok.glob,I.ok.blt,I.ok.above,I.ok.inj,I.ok.has,I.ok.cab,I.ok.hd,I.ok.frames,I.ok.stk,I.ok.exf,I.ok.bs,I.ok.bsz,I.ok.noex,I.ok.exfs,I.ok.funs,I.ok.frf⟩,I.os,I.bare,I.base,I.loc,I.cell,I.free,I.freeC,
  fun p hp=>I.pin p (by simpa [qAo] using hp),I.hok,I.len,I.hnd⟩
theorem zi {pins':List (Addr×Obj)} (I:L2.Inv (qAo X pins xe) pins' σ H s):L2.Inv X pins σ H s :=
 ⟨⟨I.ok.mod,I.ok.kind,I.ok.glob,I.ok.blt,I.ok.above,I.ok.inj,I.ok.has,I.ok.cab,I.ok.hd,I.ok.frames,I.ok.stk,I.ok.exf,I.ok.bs,I.ok.bsz,I.ok.noex,I.ok.exfs,I.ok.funs,I.ok.frf⟩,I.os,I.bare,I.base,I.loc,I.cell,I.free,I.freeC,
  fun p hp=>I.pin p (List.mem_append_left _ hp),I.hok,I.len,I.hnd⟩
theorem qFR {D:Ends} {f:Flow} (q:SP (qAo X pins xe) [] D f s):SP X pins D f s:=by
 cases f with
 |next=>obtain ⟨a,b,c,d⟩:=q;exact ⟨a,b,zi c,d⟩
 |brk=>obtain ⟨a,b,c,d⟩:=q;exact ⟨a,b,zi c,d⟩
 |cont=>obtain ⟨a,b,c,d⟩:=q;exact ⟨a,b,zi c,d⟩
 |ret u=>obtain ⟨v,a,b,c,d⟩:=q;exact ⟨v,a,b,zi c,d⟩
theorem qDB (I:L2.Inv X pins σ H s) {ea:Addr} {oe:Obj} (hn:H ea=none) (ho:s.heap.get? ea=some oe) (h0:X.s₀.heap.get? ea=none) (hL:ea≠X.env.locals) (hC:∀ x c,X.env.cells.lookup x=some c->c≠ea) (hP:∀ p∈X.pn++pins,p.1≠ea) :
  L2.Inv X pins σ (upd H ea (.frz oe qD8)) s:=by
 have ne:∀ b u,H b=some u->b≠ea:=fun b u e z=>by rw [z,hn] at e;cases e
 have nb:∀ b o,X.s₀.heap.get? b=some o->b≠ea:=fun b o e z=>by rw [z,h0] at e;cases e
 refine ⟨I.ok,I.os,I.bare,⟨I.base.keep,I.base.slot,fun b o e n hx => ?_,I.base.there,fun b xs e => ?_,fun b o u e => ?_,fun b ps e => ?_⟩,I.loc,I.cell,?_,fun x c e => ?_,fun p hp => ?_,fun b u e => ?_,I.len,fun v hv => ?_⟩
 ·rw [qU (nb b o e)];exact I.base.free b o e n hx
 ·have:=I.base.tups b xs e;rw [qU (ne b _ this)];exact this
 ·have:=I.base.frzs b o u e;rw [qU (ne b _ this)];exact this
 ·obtain ⟨m,this⟩:=I.base.tbls b ps e;exact ⟨m,by rw [qU (ne b _ this)];exact this⟩
 ·rw [qU (Ne.symm hL)];exact I.free
 ·rw [qU (hC x c e)];exact I.freeC x c e
 ·obtain ⟨a,b,c,d⟩:=I.pin p hp
  exact ⟨a,by rw [qU (hP p hp)];exact b,c,d⟩
 ·by_cases hb:b=ea
  ·subst hb
   rw [Qd] at e;cases e
   exact ⟨ho,trivial,⟨oe,ho⟩,fun _ _ z _=>z⟩
  ·rw [qU hb] at e
   exact (I.hok b u e).stay (fun _ _ _ z=>z) (fun c z=>by rw [qU (ne c _ z)];exact z) fun c xs z=>by rw [qU (ne c _ z)];exact z
 ·obtain ⟨a,o,u,vs,e1,e2,e3⟩:=I.hnd v hv
  exact ⟨a,o,u,vs,e1,by rw [qU (ne a _ e2)];exact e2,e3⟩
theorem qDc (I:L2.Inv X pins σ H s) {ea:Addr} {oe:Obj} {u:HO} {vs:Array Value} (h1:H ea=some (.frz oe u)) (h2:oe.data = .fields vs) (h3:vs[2]? = some Value.none):L2.Inv (suX X ea) pins σ H s :=
 ⟨⟨I.ok.mod,I.ok.kind,I.ok.glob,I.ok.blt,I.ok.above,I.ok.inj,I.ok.has,I.ok.cab,(fun z=>absurd (show false=true from z) BL),I.ok.frames,I.ok.stk,I.ok.exf,I.ok.bs,I.ok.bsz,I.ok.noex,I.ok.exfs,I.ok.funs,I.ok.frf⟩,I.os,I.bare,I.base,I.loc,I.cell,I.free,I.freeC,
  I.pin,I.hok,I.len,fun v hv=>by
   have hv:some (Value.ref ea)=some v:=hv
   cases hv
   exact ⟨ea,oe,u,vs,rfl,h1,h2,h3⟩⟩
theorem qAT {ea:Addr} (ok:X.Ok) (hc:X.calm=true) (I:L2.Inv (suX X ea) pins σ H s):L2.Inv X pins σ H s :=
 ⟨ok,I.os,I.bare,I.base,I.loc,I.cell,I.free,I.freeC,I.pin,I.hok,I.len,HndH.none (ok.hd hc)⟩
theorem qEo (I:L2.Inv X pins σ H s) (hN:X.N.Nodup) {i:Nat} {n:Str} (hi:X.N[i]? = some n) {m:Str->Option Value} {v:Option Value} {h':Heap} {tk:Nat} (hm:∀ (j:Nat) (x:Str) (w:V),X.N[j]? = some x->σ[j]? = some (some w)->Vis X.env.scope x -> ∃ u,RelV w u∧qJ0 X.env s.heap m x u)
  (hn:h'.Ns X.env.locals (fun x=>if x=n then v else m x)) (hs:Heap.SameBut X.env.locals s.heap h'):L2.Inv X pins (σ.set i none) H { s with heap:=h',toks:=tk }:=by
 have cne:=I.cne
 refine ⟨I.ok,I.os,I.bare,⟨fun b o e n hb hx => ?_,fun b o e n hb hx => ?_,I.base.free,fun b o e hx => ?_,I.base.tups,I.base.frzs,I.base.tbls⟩,⟨_,hn,fun j y w e1 e2 e3 => ?_⟩,fun y c e => ?_,I.free,I.freeC,fun p hp => ?_,fun b ob e => ?_,by simpa using I.len,I.hnd⟩
 ·exact (hs.2 b (AZ (As (AM e) I.ok.above))).trans (I.base.keep b o e n hb hx)
 ·obtain ⟨sl,e1⟩:=I.base.slot b o e n hb hx
  exact ⟨sl,(hs.2 b (AZ (As (AM e) I.ok.above))).trans e1⟩
 ·obtain ⟨o',e1⟩:=I.base.there b o e hx
  exact ⟨o',(hs.2 b (AZ (As (AM e) I.ok.above))).trans e1⟩
 ·have hj:j≠i:=fun z=>by
   subst z
   by_cases hl:j < σ.length
   ·rw [Av hl] at e2;cases e2
   ·rw [BP (by simpa using hl)] at e2;cases e2
  rw [Ax (Ne.symm hj)] at e2
  obtain ⟨u,r,l⟩:=hm j y w e1 e2 e3
  refine ⟨u,r,?_⟩
  rcases l with ⟨k,l⟩ |⟨k,c,e,z⟩
  ·refine .inl ⟨k,?_⟩
   have:y≠n:=fun e=>hj (Yt hN e1 (e ▸ hi))
   simp [this,l]
  ·exact .inr ⟨k,c,e,z.sameBut hs (cne y c e)⟩
 ·obtain ⟨w',z⟩:=I.cell y c e
  exact ⟨w',z.sameBut hs (cne y c e)⟩
 ·obtain ⟨e,n,ne,nf,d⟩:=I.pin p hp
  exact ⟨(hs.2 p.1 ne).trans e,n,ne,nf,d⟩
 ·refine (I.hok b ob e).stay (fun c w' hc q=>(hs.2 c ?_).trans q) (fun _ q=>q) fun _ _ q=>q
  rintro rfl
  rcases hc with rfl |hc
  ·rw [I.free] at e;cases e
  ·rw [I.free] at hc;cases hc
def qK6 (i k:Nat) (ok:Value->Prop) (tb:XK->TS) (th:TS):TS:=fun D σ H=>tb (fun cls dd H1=>ok cls ∧ ∀ (σ':L2.St) (ea:Addr) (oe:Obj),σ'.length=k->H1 ea=none->oe.cls=cls->oe.dict=dd->(∃ vs,oe.data = .fields vs) ->
 th { nx:=fun σ2 H2=>D.nx (σ2.set i none) H2,rt:=D.rt,bk:=fun σ2 H2=>D.bk (σ2.set i none) H2,ct:=fun σ2 H2=>D.ct (σ2.set i none) H2 } (σ'.set i (some (.ref ea))) (upd H1 ea (.frz oe qD8))) D σ H
structure FrameX (X:Cx):Prop where
 stk:X.stack=X.env::X.outer
 fr:X.env.frame=some X.env.locals
 ex:X.ex=[]
theorem got {P:Program} {w:World} {H:Hp} {h:Heap} {a:Addr} {o:HO} (x:ObjOk P w H h a o):∃ u,h.get? a=some u:=by
 cases o with
 |lst xs=>obtain ⟨_,_,_,_,e⟩:=x;exact ⟨_,e⟩
 |tup xs=>obtain ⟨_,_,_,o,e,_⟩:=x;exact ⟨_,e⟩
 |dK kvs=>obtain ⟨_,_,_,_,o,_,_,e,_⟩:=x;exact ⟨_,e⟩
 |dT kvs=>obtain ⟨_,_,_,_,o,_,_,e,_⟩:=x;exact ⟨_,e⟩
 |set S n=>obtain ⟨o,_,_,_,e,_⟩:=x;exact ⟨_,e⟩
 |ins C dx fs=>obtain ⟨_,_,_,e,_⟩:=x;exact ⟨_,e⟩
 |own y=>exact x
 |xd fs=>obtain ⟨_,⟨_,_,_,e,_⟩,_⟩:=x;exact ⟨_,e⟩
 |rng lo hi=>obtain ⟨_,_,_,e⟩:=x;exact ⟨_,e⟩
 |frz ob u=>obtain ⟨e,_⟩:=x;exact ⟨_,e⟩
 |tbl ps=>exact ⟨_,x⟩
 |met f y=>exact ⟨_,x⟩
 |ext φ=>obtain ⟨_,e,_⟩:=x;exact e
theorem qJQ {X:Cx} {x n:Str} {i:Nat} {Bx:Addr} {dd:Option Addr} {cd:ClassData} {sl:Array (Option Value)} {body:List Stmt} {b0:Stmt} {suite:List Stmt} {np hpos pos:Pos} {ok:Value->Prop} {tb:XK->TS} {th:TS} (FX:FrameX X) (hc:X.calm=true) (hN:X.N.Nodup) (hi:X.N[i]? = some n) (hl:X.env.scope.names.lookup n=some .local)
  (hg:Gl X x) (hm:X.mg x=some (.ref Bx)) (o1:X.K.lookup Bx=some ⟨.type "type",dd,.cls cd,sl⟩) (m1:W.mroIn X.K Bx (.type "BaseException")=some true) (hok:∀ v,ok v -> ∃ C,v = .ref C∧W.mroIn X.K C (.ref Bx)=some true)
  (hb:∀ (pins:List (Addr×Obj)) (xe:Value->Shared->Prop) (E':XK),ZN (CXF X.prog X.w) (qAo X pins xe) E'->PSs (qAo X pins xe) body (tb E')) (hh:∀ ea,PSs (suX X ea) (b0::suite) th) (hdb:(x==("__debug__":Str))=false:=by decide) :
  PS X (.Try body [.ExceptHandler (some (.Name x np)) (some n) (b0::suite) hpos] [] [] pos) (qK6 i X.N.length ok tb th):=by
 intro pins s σ H D I h
 refine wpAny_Try_except ?_
 generalize hE:(fun (cls:Value) (dd:Option Addr) (H1:Hp)=>ok cls ∧ ∀ (σ':L2.St) (ea:Addr) (oe:Obj),σ'.length=X.N.length->H1 ea=none->oe.cls=cls->oe.dict=dd->(∃ vs,oe.data = .fields vs) ->
  th { nx:=fun σ2 H2=>D.nx (σ2.set i none) H2,rt:=D.rt,bk:=fun σ2 H2=>D.bk (σ2.set i none) H2,ct:=fun σ2 H2=>D.ct (σ2.set i none) H2 } (σ'.set i (some (.ref ea))) (upd H1 ea (.frz oe qD8)))=E'
 have h:tb E' D σ H:=by rw [← hE];exact h
 refine Bg (hb pins _ E' ?_ [] s σ H D (qG7 I) h) (fun f s1 q => ?_) fun e s1 q=>q
 rotate_left
 ·have q:=qFR q
  cases f with
  |next=>exact wpAny_execs_nil q
  |brk=>exact q
  |cont=>exact q
  |ret u=>exact q
 ·intro pins' σ' H' s1 e s2 J c
  obtain ⟨ea,cls,d2,B,H1,rfl,fl,hok1,os,bare,un,sl1,qE⟩:=c
  have J':=zi J
  rw [← hE] at qE
  obtain ⟨q1,q2⟩:=qE
  obtain ⟨C,rfl,m2⟩:=hok cls q1
  have fr':X.A.frames=some (X.env::X.outer):=by rw [← FX.stk];exact I.ok.frames
  have fl':Fly B (X.env::X.outer) ea (.ref C) d2 .none s2.heap:=by rw [← FX.stk];exact fl
  have un:UnB (frs X.stack) H' H1 s1.heap B:=un
  have sl1:∀ b∈frs X.stack,∀ o,s1.heap.get? b=some o -> ∃ sl,s2.heap.get? b=some { o with slots:=sl }:=sl1
  have stk1:s1.heap.FunFrames X.base X.stack:=J'.stack
  have baseB:∀ b o,X.base.get? b=some o->B.get? b=some o:=fun b o z=>un.keep b o (J'.bs b o z).1 (J'.bs b o z).2 fun hm=>by rw [(stk1.mem hm).1] at z;cases z
  refine jr (A:=X.A) fr' FX.fr fl' fun h4 x4 u4=>qC8 x4 fun h5 x5 u5 => ?_
  have ns5:h5.Ns X.env.globals X.mg:=by rw [I.ok.glob];exact I.mod.glob.keeps fun b o z=>x5.1 b o (baseB b o z)
  have k5:X.K.In h5:=I.ok.mod.kin.keeps fun b o z=>x5.1 b o (baseB b o z)
  obtain ⟨_,_,_,oe5,_,_,_,_,he5,hc5,_⟩:=id x5
  refine wpAny_handleBy_cons (codeAny_handlers_test (Calls.Name_function_global I.ok.kind hg (Calls.loadGlobal_global ns5 hm ?_) hdb)) (by intro q;cases q)
  refine qAZ k5 o1 m1 he5 hc5 m2 (codeAny_handlers_suite_as (qC8 x5 fun h6 x6 u6 => ?_))
  have u26:s2.heap.UpToSlots h6:=(u4.trans u5).trans u6
  obtain ⟨k1,k2,k3,oe,vs,T,oT,ts,g1,g2,g3,g4,g5,g6,g7⟩:=x6
  have nf:∀ b∈frs X.stack,∀ o,s1.heap.get? b=some o -> ∀ vs,o.data ≠ .fields vs:=fun b hb o z=>by
   obtain ⟨_,o2,ho2,nf⟩:=stk1.mem hb
   rw [z] at ho2;cases ho2;exact nf
  have slN:∀ b∈frs X.stack,∀ o,s1.heap.get? b=some o -> ∃ sl,h6.get? b=some { o with slots:=sl }:=fun b hb o z=>by
   obtain ⟨sl2,z2⟩:=sl1 b hb o z
   obtain ⟨sl3,z3⟩:=u26 b _ z2 (nf b hb o z)
   exact ⟨sl3,z3⟩
  have I6:L2.Inv X pins σ' H1 { s2 with heap:=h6 }:=J'.call' (s':={ s2 with heap:=h6 }) (ch:=[]) os (CXF.un (P:=X.prog) (w:=X.w) (s:=s1) (s':={ s2 with heap:=h6 }) k1 un slN) (hok1.kept k1) bare fun b z=>by cases z
  have neW:∀ b o,s1.heap.get? b=some o->b≠ea:=fun b o z hz=>by
   subst hz
   by_cases hb:b∈frs X.stack
   ·obtain ⟨sl2,z2⟩:=slN b hb o z
    rw [g1] at z2;cases z2
    exact nf b hb o z vs g4
   ·obtain ⟨o',z'⟩:=un.there b o z hb
    rw [k2] at z';cases z'
  have hn1:H1 ea=none:=by
   cases z:H1 ea with
   |none=>rfl
   |some u=>obtain ⟨o',z'⟩:=got (hok1 ea u z);rw [k2] at z';cases z'
  have I7:L2.Inv X pins σ' (upd H1 ea (.frz oe qD8)) { s2 with heap:=h6 }:=by
   refine qDB I6 hn1 g1 ?_ ?_ (fun x c z => ?_) fun p hp => ?_
   ·cases z:X.s₀.heap.get? ea with
    |none=>rfl
    |some o=>obtain ⟨o',z'⟩:=J'.base.there ea o z (by rw [FX.ex];simp);exact (neW ea o' z' rfl).elim
   ·obtain ⟨m,⟨o,_,_,z,_⟩,_⟩:=J'.loc
    exact Ne.symm (neW _ o z)
   ·obtain ⟨v,o,z',_⟩:=J'.cell x c z
    exact neW c o z'
   ·exact neW p.1 p.2 (J'.pin p hp).1
  have I8:=qDc I7 Qd g4 g6
  refine zd (X:=suX X ea) (v := .ref ea) I8 hN hi (.inl hl) (show RelV (.ref ea) (.ref ea) from rfl) (fun s7 I9 => ?_) (.inr hl)
  have hlen:σ'.length=X.N.length:=J'.len
  refine wpAny_noRaise (thn (hh ea pins s7 _ _ _ I9 (q2 σ' ea oe hlen hn1 g2 g3 ⟨vs,g4⟩)) fun f s8 q => ?_)
  have hp:(X.env.scope.kind == .class || (X.env.scope.kind == .module&&X.env.locals != X.env.globals))=false:=by rw [I.ok.kind];rfl
  have goes:∀ {σ8:L2.St} {H8:Hp} {Q:Shared->Prop},L2.Inv (suX X ea) pins σ8 H8 s8->(∀ s9,L2.Inv X pins (σ8.set i none) H8 s9->Q s9)->wpAny (model X.prog X.w) X.A (do bindName X.env n .none;unbindBehindTheSuite X.env n hpos) (fun _ s9=>Q s9) X.xe s8:=fun {σ8 H8 Q} I8 hQ=>by
   have I9:=qAT I.ok hc I8
   obtain ⟨m,hn,hl'⟩:=id I9.loc
   exact wpAny_nameGoes_keeps hl hn hp fun h9 v hn9 hs9=>hQ _ (qEo I9 hN hi hl' hn9 hs9)
  cases f with
  |next=>obtain ⟨σ8,H8,I8,q8⟩:=q;exact goes I8 fun s9 I9=>⟨_,H8,I9,q8⟩
  |brk=>obtain ⟨σ8,H8,I8,q8⟩:=q;exact goes I8 fun s9 I9=>⟨_,H8,I9,q8⟩
  |cont=>obtain ⟨σ8,H8,I8,q8⟩:=q;exact goes I8 fun s9 I9=>⟨_,H8,I9,q8⟩
  |ret u=>obtain ⟨v,σ8,H8,I8,r8,q8⟩:=q;exact goes I8 fun s9 I9=>⟨v,_,H8,I9,r8,q8⟩
end
def ZX (A:Around):List Addr:=match A.handled with
 |some (.ref ea)=>[ea]
 |_=>[]
theorem Hnd.frame {A:Around} {h h':Heap} (x:Hnd A h) (k:∀ b∈ZX A,∀ o,h.get? b=some o->h'.get? b=some o):Hnd A h':=fun v hv=>by
 obtain ⟨ea,oe,vs,e1,e2,e3⟩:=x v hv
 subst e1
 exact ⟨ea,oe,vs,rfl,k ea (by unfold ZX;rw [hv];simp) oe e2,e3⟩
theorem qHl {A:Around} {I:Addr} (hI:∀ ea∈ZX A,ea≠I):∀ v,A.handled=some v->v ≠ .ref I:=fun v hv z=>by
 subst z
 exact hI I (by unfold ZX;rw [hv];simp) rfl
theorem qBG {prog:Program} {w:World} {A:Around} (I ax:Addr) (hne:ax≠I) (items:Array Value) (hI:∀ ea∈ZX A,ea≠I) :
  Walks prog w A I (I::ax::ZX A) [I] items.size (fun i v=>items[i]? = some v) (fun i h=>(h.IsListIter I ax i∧h.IsList ax items)∧Hnd A h) where
 sub:=fun b hb=>by simp at hb;simp [hb]
 frame:=fun _ _ _ st hk=>⟨⟨st.1.1.at fun o e=>hk I (by simp) o e,st.1.2.at fun o e=>hk ax (by simp) o e⟩,st.2.frame fun b hb o e=>hk b (by simp [hb]) o e⟩
 item:=fun i s Q E hi st hQ=>wpAny_pyNext_list_item st.1.1 st.1.2 (x:=items[i]) (by simp [hi]) fun h' z1 z2 =>
  hQ _ h' s.toks (by simp [hi]) ⟨⟨z1,st.1.2.extBut z2.extBut hne⟩,st.2.frame fun b hb o e=>(z2.2 b (hI b hb)).trans e⟩ fun b o hb e=>z2.extBut b o (fun h=>hb (by simp [h])) e
 done:=fun s Q E st hQ=>list_end st.2 st.1.1 st.1.2 (by simp) (qHl hI) fun h' z=>hQ h' s.toks fun b o hb e=>z b o (fun h=>hb (by simp [h])) e
 self:=fun _ _ _ _ st hQ=>wpAny_pyIter_listiter st.1.1 hQ
theorem qA4 {prog:Program} {w:World} {A:Around} (I ax:Addr) (hne:ax≠I) (items:Array Value) (hI:∀ ea∈ZX A,ea≠I) :
  Walks prog w A I (I::ax::ZX A) [I] items.size (fun i v=>items[i]? = some v) (fun i h=>(h.IsTupleIter I ax i∧h.IsTuple ax items)∧Hnd A h) where
 sub:=fun b hb=>by simp at hb;simp [hb]
 frame:=fun _ _ _ st hk=>⟨⟨st.1.1.at fun o e=>hk I (by simp) o e,st.1.2.at fun o e=>hk ax (by simp) o e⟩,st.2.frame fun b hb o e=>hk b (by simp [hb]) o e⟩
 item:=fun i s Q E hi st hQ=>wpAny_pyNext_tuple_item st.1.1 st.1.2 (x:=items[i]) (by simp [hi]) fun h' z1 z2 =>
  hQ _ h' s.toks (by simp [hi]) ⟨⟨z1,st.1.2.extBut z2.extBut hne⟩,st.2.frame fun b hb o e=>(z2.2 b (hI b hb)).trans e⟩ fun b o hb e=>z2.extBut b o (fun h=>hb (by simp [h])) e
 done:=fun s Q E st hQ=>tuple_end st.2 st.1.1 st.1.2 (by simp) (qHl hI) fun h' z=>hQ h' s.toks fun b o hb e=>z b o (fun h=>hb (by simp [h])) e
 self:=fun _ _ _ _ st hQ=>wpAny_pyIter_tupleiter st.1.1 hQ
section
variable {X:Cx} {pins:List (Addr×Obj)} {σ:L2.St} {H:Hp} {s:Shared}
theorem qHu (I:L2.Inv X pins σ H s):∀ ea∈ZX X.A,ea≠s.heap.objs.size:=fun ea hea=>by
 have hd:X.A.handled=some (.ref ea):=by
  unfold ZX at hea
  split at hea
  ·rename_i a ha;rw [Ak.mp hea];exact ha
  ·cases hea
 obtain ⟨a,oe,vs,e1,e2,_⟩:=I.hndH _ hd
 cases e1
 exact AZ (AM e2)
theorem j5 (I:L2.Inv X pins σ H s) {p:Addr} {its:List Value} (pl:PlainL s.heap p its.toArray) {E:Value->Shared->Prop} {Q:Value->Shared->Prop}
  (h:Walks X.prog X.w X.A.in1 s.heap.objs.size (s.heap.objs.size::p::ZX X.A) [s.heap.objs.size] its.toArray.size (fun i v=>its.toArray[i]? = some v) (fun i h=>(h.IsListIter s.heap.objs.size p i∧h.IsList p its.toArray)∧Hnd X.A.in1 h) ->
   ((s.heap.push { cls := .type "list_iterator",data := .fields #[.ref p,.int 0 0] }).IsListIter s.heap.objs.size p 0∧(s.heap.push { cls := .type "list_iterator",data := .fields #[.ref p,.int 0 0] }).IsList p its.toArray)∧Hnd X.A.in1 (s.heap.push { cls := .type "list_iterator",data := .fields #[.ref p,.int 0 0] }) ->
   (∀ b∈s.heap.objs.size::p::ZX X.A,b < (s.heap.push { cls := .type "list_iterator",data := .fields #[.ref p,.int 0 0] }).objs.size) ->
   (∀ h':Heap,(∀ b o,b ∉ [s.heap.objs.size]->(s.heap.push { cls := .type "list_iterator",data := .fields #[.ref p,.int 0 0] }).get? b=some o->h'.get? b=some o) -> ∀ b o,s.heap.get? b=some o->h'.get? b=some o) ->
   Q (.ref s.heap.objs.size) { s with heap:=s.heap.push { cls := .type "list_iterator",data := .fields #[.ref p,.int 0 0] } }) :
  wpAny (model X.prog X.w) X.A.in1 (pyIter (.ref p)) Q E s:=by
 obtain ⟨ob,po,_⟩:=id pl.isList
 have hlt:p < s.heap.objs.size:=AM po
 refine wpAny_pyIter_list pl.isList (h (qBG _ p (AZ hlt) _ (qHu I)) ⟨⟨⟨_,AV _ rfl,rfl,rfl⟩,pl.isList.at fun o e=>AC _ e⟩,?_⟩ (fun b hb => ?_) fun h' k b o e => ?_)
 ·exact Hnd.frame (show Hnd X.A.in1 s.heap from I.hndH) fun b _ o e=>AC _ e
 ·rw [A8]
  rcases AJ.mp hb with rfl |hb
  ·exact Nat.lt_succ_self _
  ·rcases AJ.mp hb with rfl |hb
   ·exact BE hlt
   ·have hd:X.A.handled=some (.ref b):=by
     unfold ZX at hb
     split at hb
     ·rename_i a ha;rw [Ak.mp hb];exact ha
     ·cases hb
    obtain ⟨a,oe,vs,e1,e2,_⟩:=I.hndH _ hd
    cases e1
    exact BE (AM e2)
 ·exact k b o (by simp;exact AZ (AM e)) (AC _ e)
theorem qCB:∀ {bs:List Bool} {us:List Value},Vals (bs.map V.bl) us->us=bs.map Value.bool
 |[],_,.nil=>rfl
 |b::bs,_,.cons r t=>by rw [show _=Value.bool b from r,qCB t];rfl
theorem Ys:∀ {ns:List Int} {us:List Value} {i:Nat} {v:Value},Vals (ns.map V.int) us->us[i]? = some v -> ∃ t,v=Value.int (ns.getD i 0) t
 |[],_,_,_,.nil,e=>by simp at e
 |n::ns,_,0,_,.cons r t,e=>by simp at e;subst e;exact r
 |n::ns,_,i + 1,v,.cons r t,e=>by simpa using Ys (i:=i) t (by simpa using e)
theorem qFv {prog:Program} {w:World} {A:Around} {bs:List Bool}:TruthOf prog w A (fun i v=>(bs.map Value.bool).toArray[i]? = some v) (fun i=>bs.getD i false):=fun i v s Q E hP hQ=>by
 have hP:(bs.map Value.bool).toArray[i]? = some v:=hP
 rw [List.getElem?_toArray,Ao] at hP
 cases e:bs[i]? with
 |none=>rw [e] at hP;cases hP
 |some b =>
  rw [e] at hP;cases hP
  have hQ:Q (bs.getD i false) s:=hQ
  rw [AK,e] at hQ
  exact AB hQ
theorem qDM (bs:List Bool):(List.range bs.length).all (fun i=>bs.getD i false)=bs.all id:=by
 induction bs with
 |nil=>rfl
 |cons b bs ih =>
  rw [AU,CI,Cm,List.all_map,Cm]
  have:(((fun i=>(b::bs).getD i false) ∘ Nat.succ))=fun i=>bs.getD i false:=by funext i;simp
  rw [this,ih];simp
theorem qDe:zH X (.builtin "all") (fun xs H Q => ∃ (p:Addr) (bs:List Bool),xs=[.ref p]∧SqL X.K H p (bs.map V.bl)∧Q (.bl (bs.all id)) H):=by
 intro pins s σ H xs us Q I r h
 obtain ⟨p,bs,rfl,hq,q⟩:=h
 obtain ⟨u,rfl,rx⟩:=yv r
 cases rx
 obtain ⟨its,r',pl,hz⟩:=I.list hq
 have e:=qCB r'
 subst e
 refine call_all_walk (j5 I pl fun W st fp k=>⟨_,_,_,_,_,_,_,rfl,W,st,qFv,fun h' tk hk => ?_⟩)
 rw [show (bs.map Value.bool).toArray.size=bs.length by simp,qDM]
 exact ⟨.bl _,H,I.kept (k h' hk),rfl,q⟩
theorem ZC (ns:List Int):∀ k,k≤ns.length->preSum (fun i=>ns.getD i 0) k=(ns.take k).sum
 |0,_=>by simp [preSum]
 |k + 1,h=>by
  have hk:k < ns.length:=h
  rw [preSum,ZC ns k (Ch hk),B6 hk,List.sum_append]
  simp [AK,hk]
theorem qDh:zH X (.builtin "sum") (fun xs H Q => ∃ (p:Addr) (ns:List Int),xs=[.ref p]∧SqL X.K H p (ns.map V.int)∧Q (.int ns.sum) H):=by
 intro pins s σ H xs us Q I r h
 obtain ⟨p,ns,rfl,hq,q⟩:=h
 obtain ⟨u,rfl,rx⟩:=yv r
 cases rx
 obtain ⟨its,r',pl,hz⟩:=I.list hq
 have hl:=r'.length
 refine call_sum_walkAnyS (j5 I pl fun W st fp k=>⟨_,_,_,_,_,_,_,fun i=>ns.getD i 0,rfl,W.toS,st,fp,fun i v hv=>Ys r' (by simpa using hv),fun s' t' m => ?_⟩)
 have hsz:its.toArray.size=ns.length:=by rw [AS,← hl,AF]
 rw [hsz,ZC ns _ (AL _),CT]
 obtain ⟨hh,g,d,t,o⟩:=s'
 have g1:g=s.gens:=m.gens
 have d1:d=s.drawn:=m.drawn
 have o1:o=s.os:=m.os
 subst g1;subst d1;subst o1
 exact ⟨.int _,H,I.kept (k hh fun b o hb e=>m.heap b o hb e),⟨t',rfl⟩,q⟩
end
theorem qEp {K:W.Frag} {x D:Addr} (C:ExcK K D):W.KitX K (.ref x) (.ref D) (fun h => ∃ ox od,W.InstAt h x ox D od):=by
 obtain ⟨cd,hcd,_⟩:=Option.bind_eq_some_iff.mp (C.fo none)
 unfold W.clsIn at hcd
 split at hcd
 ·rename_i c' d' cd' sl' ho
  refine ⟨fun _ _ _ ⟨ox,od,I⟩=>I.type,fun M h X p => ?_,fun h tp dd its n sl X htp => ?_,fun {prog w A E Q s} X ⟨ox,od,I⟩ k=>qDY C X I k⟩
  ·intro A' Q' E' s' k q
   unfold isType loadHead
   exact AA (wpAny_loadPart (k _ _ (X _ _ ho)) (AB q))
  ·refine Bool.eq_false_iff.mpr fun q => ?_
   have e:D=tp:=Value.ref.inj (B4.mp q)
   subst e
   have z:=(X _ _ ho).symm.trans htp
   cases z
 ·cases hcd
end EX
end
section
namespace EV
open PySem PySem.Spec PyProof.Rows L2
inductive PV where
 |non |bl (b:Bool) |int (i:Int) |str (x:Str) |tup (l:List PV) |lst (l:List PV) |ref (i:Nat) |dct |ty (n:String) |fn (a:Addr) |exc (c:Addr) (fs:List (Str×Int))
inductive SO where
 |l (xs:List PV)
 |d (kvs:List (List L2.Key×PV))
 |z (kvs:List (List L2.Key×PV))
abbrev qC:=List SO
structure Exc where
 cls:Addr
 fs:List (Str×Int)
inductive Rs (α:Type) where
 |ok (a:α) (st:qC) |ex (x:Exc) (st:qC) |no
def Rs.bind {α β:Type} (r:Rs α) (k:α->qC->Rs β):Rs β:=match r with
 | .ok a st=>k a st
 | .ex x st => .ex x st
 | .no => .no
abbrev QO:=List (Option PV)
abbrev FE:=QO->qC->Rs PV
abbrev FA:=QO->qC->Rs (List PV)
abbrev FT:=QO->qC->Rs Bool
inductive RS where
 |nx (e:QO) (st:qC) |rt (v:PV) (st:qC) |bk (e:QO) (st:qC) |ct (e:QO) (st:qC) |ex (x:Exc) (st:qC) |no
abbrev FS:=QO->qC->RS
structure Bz where
 b:List Addr
 z:List Addr
def Bz.out (b:Bz) (a:Addr):Prop:=a ∉ b.b∧a ∉ b.z
def KL (K:W.Frag) (a:Addr) (xs:List V):Prop :=
 ∃ (o:Obj) (its:Array Value) (n:Nat),K.lookup a=some o∧o.cls = .type "list" ∧ o.dict=none∧o.data = .seq its n∧its.size≤sizeLine∧Vals xs its.toList
def KT (K:W.Frag) (a:Addr) (xs:List V):Prop :=
 ∃ (o:Obj) (its:Array Value) (n:Nat),K.lookup a=some o∧o.cls = .type "tuple" ∧ o.data = .seq its n∧its.size≤sizeLine∧Vals xs its.toList
def LA (K:W.Frag) (H:Hp) (b:Bz) (a:Addr) (xs:List V):Prop:=(Rd H a (.lst xs)∧b.out a)∨KL K a xs
def TA' (K:W.Frag) (H:Hp) (b:Bz) (a:Addr) (xs:List V):Prop:=(H a=some (.tup xs)∧b.out a)∨KT K a xs
mutual
def RV (K:W.Frag) (H:Hp) (b:Bz):PV->V->Prop
 | .non,v=>v = .non
 | .bl x,v=>v = .bl x
 | .int i,v=>v = .int i
 | .str x,v=>v = .str x
 | .tup l,v => ∃ a xs,v = .ref a∧TA' K H b a xs∧RVs K H b l xs
 | .lst l,v => ∃ a xs,v = .ref a∧LA K H b a xs∧RVs K H b l xs
 | .ref i,v => ∃ a,v = .ref a∧b.b[i]? = some a
 | .dct,v => ∃ a,v = .ref a∧H a=some (.dK [])∧b.out a
 | .ty n,v=>v = .ty n
 | .fn a,v=>v = .ref a
 | .exc c fs,v => ∃ a o u,v = .ref a∧H a=some (.frz o u)∧b.out a∧o.cls = .ref c∧(∃ vs,o.data = .fields vs)∧((fs=[]∧o.dict=none) ∨ ∃ d,o.dict=some d∧H d=some (.xd (fs.map fun p=>(p.1,V.int p.2)))∧b.out d)
def RVs (K:W.Frag) (H:Hp) (b:Bz):List PV->List V->Prop
 |[],xs=>xs=[]
 |p::ps,xs => ∃ x r,xs=x::r∧RV K H b p x∧RVs K H b ps r
end
def SOk (K:W.Frag) (H:Hp) (b:Bz):SO->HO->Prop
 | .l xs,o => ∃ vs,o = .lst vs∧RVs K H b xs vs
 | .d kvs,o => ∃ vs,o = .dT vs∧kvs.map (·.1)=vs.map (·.1)∧RVs K H b (kvs.map (·.2)) (vs.map (·.2))
 | .z kvs,o => ∃ od vs,o = .frz od (.dT vs)∧kvs.map (·.1)=vs.map (·.1)∧RVs K H b (kvs.map (·.2)) (vs.map (·.2))
structure SR (K:W.Frag) (H:Hp) (b:Bz) (st:qC):Prop where
 len:b.b.length=st.length
 nd:b.b.Nodup
 at_:∀ (i:Nat) (x:SO),st[i]? = some x -> ∃ a o,b.b[i]? = some a∧H a=some o∧SOk K H b x o
 zo:∀ a∈b.z,∃ xs,H a=some (.lst xs)
 zb:∀ a∈b.z,a ∉ b.b
structure WE (H:Hp) (b:Bz) (H':Hp) (b':Bz):Prop where
 more:∃ n,b'.b=b.b++n ∧ ∀ a∈n,H a=none
 zm:∃ y,b'.z=y++b.z ∧ ∀ a∈y,H a=none
 keep:∀ a o,H a=some o->b.out a->H' a=some o
 dom:∀ a o,H a=some o -> ∃ o',H' a=some o'
theorem WE.refl (H:Hp) (b:Bz):WE H b H b:=⟨⟨[],by simp,by simp⟩,⟨[],rfl,by simp⟩,fun _ _ h _=>h,fun _ o h=>⟨o,h⟩⟩
theorem WE.none_of {H H':Hp} {b b':Bz} (e:WE H b H' b') {a:Addr} (h:H' a=none):H a=none:=by
 cases q:H a with
 |none=>rfl
 |some o=>obtain ⟨o',e'⟩:=e.dom a o q;rw [h] at e';cases e'
theorem WE.not_in {H H':Hp} {b b':Bz} (e:WE H b H' b') {a:Addr} {o:HO} (h:H a=some o) (hn:b.out a):b'.out a:=by
 obtain ⟨n,hb,hh⟩:=e.more
 obtain ⟨y,hz,hy⟩:=e.zm
 refine ⟨fun hm => ?_,fun hm => ?_⟩
 ·rw [hb] at hm
  rcases Ar.mp hm with hm |hm
  ·exact hn.1 hm
  ·rw [hh a hm] at h;cases h
 ·rw [hz] at hm
  rcases Ar.mp hm with hm |hm
  ·rw [hy a hm] at h;cases h
  ·exact hn.2 hm
theorem WE.trans {H H1 H2:Hp} {b b1 b2:Bz} (e:WE H b H1 b1) (f:WE H1 b1 H2 b2):WE H b H2 b2:=by
 obtain ⟨n,hn,hh⟩:=e.more
 obtain ⟨m,hm,hk⟩:=f.more
 obtain ⟨y,hz,hy⟩:=e.zm
 obtain ⟨x,hx,hw⟩:=f.zm
 refine ⟨⟨n++m,by rw [hm,hn,Ab],fun a ha => ?_⟩,⟨x++y,by rw [hx,hz,Ab],fun a ha => ?_⟩,fun a o h hb=>f.keep a o (e.keep a o h hb) (e.not_in h hb),fun a o h => ?_⟩
 ·rcases Ar.mp ha with ha |ha
  ·exact hh a ha
  ·exact e.none_of (hk a ha)
 ·rcases Ar.mp ha with ha |ha
  ·exact e.none_of (hw a ha)
  ·exact hy a ha
 ·obtain ⟨o',h'⟩:=e.dom a o h
  exact f.dom a o' h'
theorem WE.ix {H H':Hp} {b b':Bz} (e:WE H b H' b') {i:Nat} {a:Addr} (h:b.b[i]? = some a):b'.b[i]? = some a:=by
 obtain ⟨n,hb,_⟩:=e.more
 have hi:i < b.b.length:=(AQ.mp h).1
 rw [hb,Ae hi];exact h
theorem WE.new {H:Hp} {b:Bz} {p:Addr} {o:HO} (h:H p=none):WE H b (upd H p o) b :=
 ⟨⟨[],by simp,by simp⟩,⟨[],rfl,by simp⟩,fun a u e _=>by rw [qU (qQ e h)];exact e,fun a u e=>⟨u,by rw [qU (qQ e h)];exact e⟩⟩
theorem WE.hide {H:Hp} {b:Bz} {p:Addr} {o:HO} (h:H p=none):WE H b (upd H p o) ⟨b.b,p::b.z⟩ :=
 ⟨⟨[],by simp,by simp⟩,⟨[p],rfl,fun a ha=>by rw [Ak.mp ha];exact h⟩,fun a u e _=>by rw [qU (qQ e h)];exact e,fun a u e=>⟨u,by rw [qU (qQ e h)];exact e⟩⟩
theorem WE.wr {H:Hp} {b:Bz} {p:Addr} {o:HO} (h:p∈b.b∨p∈b.z):WE H b (upd H p o) b :=
 ⟨⟨[],by simp,by simp⟩,⟨[],rfl,by simp⟩,fun a u e hb=>by rw [qU (fun z=>h.elim (fun q=>hb.1 (by rw [z];exact q)) fun q=>hb.2 (by rw [z];exact q))];exact e,fun a u e=>by
  by_cases hz:a=p
  ·exact ⟨o,by rw [hz];exact Qd⟩
  ·exact ⟨u,by rw [qU hz];exact e⟩⟩
theorem Rd.some_of {H:Hp} {a:Addr} {u:HO} (h:Rd H a u):∃ o,H a=some o:=h.elim (fun h=>⟨_,h⟩) fun ⟨_,h⟩=>⟨_,h⟩
theorem Rd.wext {H H':Hp} {b b':Bz} {a:Addr} {u:HO} (e:WE H b H' b') (h:Rd H a u∧b.out a):Rd H' a u∧b'.out a:=by
 obtain ⟨o,ho⟩:=Rd.some_of h.1
 refine ⟨?_,e.not_in ho h.2⟩
 rcases h.1 with q |⟨o',q⟩
 ·exact .inl (e.keep _ _ q h.2)
 ·exact .inr ⟨o',e.keep _ _ q h.2⟩
theorem LA.wext {K:W.Frag} {H H':Hp} {b b':Bz} {a:Addr} {xs:List V} (e:WE H b H' b') (h:LA K H b a xs):LA K H' b' a xs:=h.elim (fun h => .inl (Rd.wext e h)) .inr
theorem TA'.wext {K:W.Frag} {H H':Hp} {b b':Bz} {a:Addr} {xs:List V} (e:WE H b H' b') (h:TA' K H b a xs):TA' K H' b' a xs:=h.elim (fun h => .inl ⟨e.keep _ _ h.1 h.2,e.not_in h.1 h.2⟩) .inr
theorem LA.sq {K:W.Frag} {H:Hp} {b:Bz} {a:Addr} {xs:List V} (h:LA K H b a xs):SqL K H a xs:=h.elim (fun h => .inl h.1) .inr
theorem TA'.sq {K:W.Frag} {H:Hp} {b:Bz} {a:Addr} {xs:List V} (h:TA' K H b a xs):SqT K H a xs:=h.elim (fun h => .inl (.inl h.1)) .inr
mutual
theorem RV.wext {K:W.Frag} {H H':Hp} {b b':Bz} (e:WE H b H' b'):∀ (p:PV) {v:V},RV K H b p v->RV K H' b' p v
 | .non,_,h=>by unfold RV at h ⊢;exact h
 | .bl _,_,h=>by unfold RV at h ⊢;exact h
 | .int _,_,h=>by unfold RV at h ⊢;exact h
 | .str _,_,h=>by unfold RV at h ⊢;exact h
 | .tup l,_,h=>by
  unfold RV at h ⊢
  obtain ⟨a,xs,h1,h2,h3⟩:=h
  exact ⟨a,xs,h1,h2.wext e,RVs.wext e l h3⟩
 | .lst l,_,h=>by
  unfold RV at h ⊢
  obtain ⟨a,xs,h1,h2,h3⟩:=h
  exact ⟨a,xs,h1,h2.wext e,RVs.wext e l h3⟩
 | .ref i,_,h=>by
  unfold RV at h ⊢
  obtain ⟨a,h1,h2⟩:=h
  exact ⟨a,h1,e.ix h2⟩
 | .ty _,_,h=>by unfold RV at h ⊢;exact h
 | .fn _,_,h=>by unfold RV at h ⊢;exact h
 | .exc _ _,_,h=>by
  unfold RV at h ⊢
  obtain ⟨a,o,u,h1,h2,h3,h4,h6,h5⟩:=h
  exact ⟨a,o,u,h1,e.keep _ _ h2 h3,e.not_in h2 h3,h4,h6,h5.imp id fun ⟨d,q1,q2,q3⟩=>⟨d,q1,e.keep _ _ q2 q3,e.not_in q2 q3⟩⟩
 | .dct,_,h=>by
  unfold RV at h ⊢
  obtain ⟨a,h1,h2,h3⟩:=h
  exact ⟨a,h1,e.keep _ _ h2 h3,e.not_in h2 h3⟩
theorem RVs.wext {K:W.Frag} {H H':Hp} {b b':Bz} (e:WE H b H' b'):∀ (l:List PV) {xs:List V},RVs K H b l xs->RVs K H' b' l xs
 |[],_,h=>by unfold RVs at h ⊢;exact h
 |p::ps,_,h=>by
  unfold RVs at h ⊢
  obtain ⟨x,r,h1,h2,h3⟩:=h
  exact ⟨x,r,h1,RV.wext e p h2,RVs.wext e ps h3⟩
end
structure Ext (H:Hp) (b:Bz) (H':Hp) (b':Bz):Prop extends WE H b H' b' where
 same:b'.z=b.z
 hid:∀ a o,a∈b.z->H a=some o->H' a=some o
 fz:∀ a o u,H a=some (.frz o u)->H' a=some (.frz o u)
theorem Ext.refl (H:Hp) (b:Bz):Ext H b H b:=⟨WE.refl H b,rfl,fun _ _ _ h=>h,fun _ _ _ h=>h⟩
theorem Ext.none_of {H H':Hp} {b b':Bz} (e:Ext H b H' b') {a:Addr} (h:H' a=none):H a=none:=e.toWE.none_of h
theorem Ext.not_in {H H':Hp} {b b':Bz} (e:Ext H b H' b') {a:Addr} {o:HO} (h:H a=some o) (hn:b.out a):b'.out a:=e.toWE.not_in h hn
theorem Ext.trans {H H1 H2:Hp} {b b1 b2:Bz} (e:Ext H b H1 b1) (f:Ext H1 b1 H2 b2):Ext H b H2 b2:=⟨e.toWE.trans f.toWE,f.same.trans e.same,fun a o ha h=>f.hid a o (by rw [e.same];exact ha) (e.hid a o ha h),fun a o u h=>f.fz a o u (e.fz a o u h)⟩
theorem Ext.ix {H H':Hp} {b b':Bz} (e:Ext H b H' b') {i:Nat} {a:Addr} (h:b.b[i]? = some a):b'.b[i]? = some a:=e.toWE.ix h
theorem Ext.new {H:Hp} {b:Bz} {p:Addr} {o:HO} (h:H p=none):Ext H b (upd H p o) b:=⟨WE.new h,rfl,fun a u _ e=>by rw [qU (qQ e h)];exact e,fun a u _ e=>by rw [qU (qQ e h)];exact e⟩
theorem Ext.wr {H:Hp} {b:Bz} {p:Addr} {o:HO} (h:p∈b.b) (hz:∀ a∈b.z,a ∉ b.b) (hf:∀ o u,H p≠some (.frz o u)):Ext H b (upd H p o) b:=⟨WE.wr (.inl h),rfl,fun a u ha e=>by rw [qU (fun z=>hz a ha (by rw [z];exact h))];exact e,fun a u v e=>by rw [qU (fun z=>hf u v (by rw [← z];exact e))];exact e⟩
theorem nfz {H:Hp} {p:Addr} {u:HO} (h:H p=some u) (hu:∀ o v,u ≠ .frz o v):∀ o v,H p≠some (.frz o v):=fun o v z=>by rw [h] at z;cases z;exact hu _ _ rfl
theorem qF4 {H:Hp} {p:Addr} {xs:List V} (h:H p=some (.lst xs)):∀ o v,H p≠some (.frz o v):=nfz h fun _ _ z=>nomatch z
theorem Ext.of_same {H H':Hp} {b:Bz} (h:Same H H'):Ext H b H' b:=⟨⟨⟨[],by simp,by simp⟩,⟨[],rfl,by simp⟩,fun a o e _=>h a o e,fun a o e=>⟨o,h a o e⟩⟩,rfl,fun a o _ e=>h a o e,fun a o u e=>h a _ e⟩
theorem RV.ext {K:W.Frag} {H H':Hp} {b b':Bz} (e:Ext H b H' b') (p:PV) {v:V} (h:RV K H b p v):RV K H' b' p v:=RV.wext e.toWE p h
theorem RVs.ext {K:W.Frag} {H H':Hp} {b b':Bz} (e:Ext H b H' b') (l:List PV) {xs:List V} (h:RVs K H b l xs):RVs K H' b' l xs:=RVs.wext e.toWE l h
theorem RVs.length {K:W.Frag} {H:Hp} {b:Bz}:∀ {l:List PV} {xs:List V},RVs K H b l xs->l.length=xs.length
 |[],_,h=>by unfold RVs at h;rw [h];rfl
 |p::ps,_,h=>by
  unfold RVs at h
  obtain ⟨x,r,rfl,_,h3⟩:=h
  rw [AU,AU,RVs.length h3]
theorem RVs.nil {K:W.Frag} {H:Hp} {b:Bz}:RVs K H b [] []:=by unfold RVs;rfl
theorem RVs.cons {K:W.Frag} {H:Hp} {b:Bz} {p:PV} {ps:List PV} {x:V} {r:List V} (h:RV K H b p x) (t:RVs K H b ps r):RVs K H b (p::ps) (x::r):=by
 unfold RVs;exact ⟨x,r,rfl,h,t⟩
theorem RVs.get {K:W.Frag} {H:Hp} {b:Bz}:∀ {l:List PV} {xs:List V} {i:Nat} {p:PV},RVs K H b l xs->l[i]? = some p -> ∃ x,xs[i]? = some x∧RV K H b p x
 |[],_,_,_,_,h=>by simp at h
 |q::ps,_,0,p,r,h=>by
  unfold RVs at r
  obtain ⟨x,t,rfl,h2,h3⟩:=r
  simp at h;subst h
  exact ⟨x,rfl,h2⟩
 |q::ps,_,i + 1,p,r,h=>by
  unfold RVs at r
  obtain ⟨x,t,rfl,h2,h3⟩:=r
  obtain ⟨y,e,hy⟩:=RVs.get (i:=i) h3 (by simpa using h)
  exact ⟨y,by simpa using e,hy⟩
theorem RVs.append {K:W.Frag} {H:Hp} {b:Bz}:∀ {l m:List PV} {xs ys:List V},RVs K H b l xs->RVs K H b m ys->RVs K H b (l++m) (xs++ys)
 |[],_,_,_,h,g=>by unfold RVs at h;subst h;exact g
 |p::ps,_,_,_,h,g=>by
  unfold RVs at h
  obtain ⟨x,r,rfl,h2,h3⟩:=h
  exact RVs.cons h2 (RVs.append h3 g)
theorem RVs.take {K:W.Frag} {H:Hp} {b:Bz}:∀ {l:List PV} {xs:List V} (n:Nat),RVs K H b l xs->RVs K H b (l.take n) (xs.take n)
 |_,_,0,_=>RVs.nil
 |[],_,_ + 1,h=>by unfold RVs at h;subst h;exact RVs.nil
 |p::ps,_,n + 1,h=>by
  unfold RVs at h
  obtain ⟨x,r,rfl,h2,h3⟩:=h
  exact RVs.cons h2 (RVs.take n h3)
theorem RVs.drop {K:W.Frag} {H:Hp} {b:Bz}:∀ {l:List PV} {xs:List V} (n:Nat),RVs K H b l xs->RVs K H b (l.drop n) (xs.drop n)
 |_,_,0,h=>h
 |[],_,_ + 1,h=>by unfold RVs at h;subst h;exact RVs.nil
 |p::ps,_,n + 1,h=>by
  unfold RVs at h
  obtain ⟨x,r,rfl,h2,h3⟩:=h
  exact RVs.drop n h3
theorem RVs.set {K:W.Frag} {H:Hp} {b:Bz} {p:PV} {x:V} (hp:RV K H b p x):∀ {l:List PV} {xs:List V} (n:Nat),RVs K H b l xs->RVs K H b (l.set n p) (xs.set n x)
 |[],_,_,h=>by unfold RVs at h;subst h;exact RVs.nil
 |q::ps,_,0,h=>by
  unfold RVs at h
  obtain ⟨y,r,rfl,h2,h3⟩:=h
  exact RVs.cons hp h3
 |q::ps,_,n + 1,h=>by
  unfold RVs at h
  obtain ⟨y,r,rfl,h2,h3⟩:=h
  exact RVs.cons h2 (RVs.set hp n h3)
theorem RVs.erase {K:W.Frag} {H:Hp} {b:Bz}:∀ {l:List PV} {xs:List V} (n:Nat),RVs K H b l xs->RVs K H b (l.eraseIdx n) (xs.eraseIdx n)
 |[],_,_,h=>by unfold RVs at h;subst h;exact RVs.nil
 |q::ps,_,0,h=>by
  unfold RVs at h
  obtain ⟨y,r,rfl,h2,h3⟩:=h
  exact h3
 |q::ps,_,n + 1,h=>by
  unfold RVs at h
  obtain ⟨y,r,rfl,h2,h3⟩:=h
  exact RVs.cons h2 (RVs.erase n h3)
theorem SOk.wext {K:W.Frag} {H H':Hp} {b b':Bz} (e:WE H b H' b'):∀ {x:SO} {o:HO},SOk K H b x o->SOk K H' b' x o
 | .l xs,_,⟨vs,h,r⟩=>⟨vs,h,RVs.wext e xs r⟩
 | .d kvs,_,⟨vs,h,q,r⟩=>⟨vs,h,q,RVs.wext e _ r⟩
 | .z kvs,_,⟨od,vs,h,q,r⟩=>⟨od,vs,h,q,RVs.wext e _ r⟩
theorem SOk.ext {K:W.Frag} {H H':Hp} {b b':Bz} (e:Ext H b H' b') {x:SO} {o:HO} (h:SOk K H b x o):SOk K H' b' x o:=h.wext e.toWE
theorem SR.mem {K:W.Frag} {H:Hp} {b:Bz} {st:qC} (S:SR K H b st) {a:Addr} (h:a∈b.b):∃ o,H a=some o:=by
 obtain ⟨i,hi⟩:=BS h
 have hl:i < b.b.length:=(AQ.mp hi).1
 have hs:st[i]? = some (st[i]'(by rw [← S.len];exact hl)):=AE _
 obtain ⟨a',o,h1,h2,_⟩:=S.at_ i _ hs
 rw [hi] at h1;cases h1
 exact ⟨o,h2⟩
theorem SR.new_notin {K:W.Frag} {H:Hp} {b:Bz} {st:qC} (S:SR K H b st) {p:Addr} (h:H p=none):b.out p :=
 ⟨fun hm=>(by obtain ⟨o,e⟩:=S.mem hm;rw [h] at e;cases e),fun hm=>(by obtain ⟨o,e⟩:=S.zo p hm;rw [h] at e;cases e)⟩
theorem SR.new {K:W.Frag} {H:Hp} {b:Bz} {st:qC} (S:SR K H b st) {p:Addr} {o:HO} (h:H p=none):SR K (upd H p o) b st :=
 ⟨S.len,S.nd,fun i x hx=>by
  obtain ⟨a,u,h1,h2,h3⟩:=S.at_ i x hx
  exact ⟨a,u,h1,by rw [qU (qQ h2 h)];exact h2,h3.ext (Ext.new h)⟩,fun a ha=>by
  obtain ⟨u,e⟩:=S.zo a ha
  exact ⟨u,by rw [qU (qQ e h)];exact e⟩,S.zb⟩
theorem qJz {b:List Addr} (nd:b.Nodup) {i j:Nat} {x:Addr} (h1:b[i]? = some x) (h2:b[j]? = some x):i=j:=by
 obtain ⟨hi,e1⟩:=AQ.mp h1
 obtain ⟨hj,e2⟩:=AQ.mp h2
 exact (List.getElem_inj nd).mp (e1.trans e2.symm)
theorem SR.wr {K:W.Frag} {H:Hp} {b:Bz} {st:qC} (S:SR K H b st) {i:Nat} {p:Addr} {x:SO} {o:HO} (hp:b.b[i]? = some p) (hx:SOk K (upd H p o) b x o):SR K (upd H p o) b (st.set i x):=by
 have hm:p∈b.b:=Aw hp
 refine ⟨by simp [S.len],S.nd,fun j y hy => ?_,fun a ha => ?_,S.zb⟩
 ·have hl:i < b.b.length:=(AQ.mp hp).1
  by_cases hj:j=i
  ·subst hj
   rw [Av (by rw [← S.len];exact hl)] at hy
   cases hy
   exact ⟨p,o,hp,Qd,hx⟩
  ·rw [Ax (Ne.symm hj)] at hy
   obtain ⟨a,u,h1,h2,h3⟩:=S.at_ j y hy
   have hne:a≠p:=fun z=>hj (by subst z;exact qJz S.nd h1 hp)
   exact ⟨a,u,h1,by rw [qU hne];exact h2,h3.wext (WE.wr (.inl hm))⟩
 ·obtain ⟨u,e⟩:=S.zo a ha
  have hz:a≠p:=fun z=>S.zb a ha (by rw [z];exact hm)
  exact ⟨u,by rw [qU hz];exact e⟩
theorem SR.wrz {K:W.Frag} {H:Hp} {b:Bz} {st:qC} (S:SR K H b st) {p:Addr} {ys:List V} (hp:p∈b.z):SR K (upd H p (.lst ys)) b st:=by
 refine ⟨S.len,S.nd,fun j y hy => ?_,fun a ha => ?_,S.zb⟩
 ·obtain ⟨a,u,h1,h2,h3⟩:=S.at_ j y hy
  have hne:a≠p:=fun z=>by subst z;exact S.zb a hp (Aw h1)
  exact ⟨a,u,h1,by rw [qU hne];exact h2,h3.wext (WE.wr (.inr hp))⟩
 ·obtain ⟨u,e⟩:=S.zo a ha
  by_cases hz:a=p
  ·exact ⟨ys,by rw [hz];exact Qd⟩
  ·exact ⟨u,by rw [qU hz];exact e⟩
structure Sh (b b':Bz):Prop where
 ix:∀ (i:Nat) (a:Addr),b.b[i]? = some a->b'.b[i]? = some a
 out:∀ a,b.out a->b'.out a
mutual
theorem RV.sh {K:W.Frag} {H:Hp} {b b':Bz} (e:Sh b b'):∀ (p:PV) {v:V},RV K H b p v->RV K H b' p v
 | .non,_,h=>by unfold RV at h ⊢;exact h
 | .bl _,_,h=>by unfold RV at h ⊢;exact h
 | .int _,_,h=>by unfold RV at h ⊢;exact h
 | .str _,_,h=>by unfold RV at h ⊢;exact h
 | .tup l,_,h=>by
  unfold RV at h ⊢
  obtain ⟨a,xs,h1,h2,h3⟩:=h
  exact ⟨a,xs,h1,h2.elim (fun q => .inl ⟨q.1,e.out a q.2⟩) .inr,RVs.sh e l h3⟩
 | .lst l,_,h=>by
  unfold RV at h ⊢
  obtain ⟨a,xs,h1,h2,h3⟩:=h
  exact ⟨a,xs,h1,h2.elim (fun q => .inl ⟨q.1,e.out a q.2⟩) .inr,RVs.sh e l h3⟩
 | .ref i,_,h=>by
  unfold RV at h ⊢
  obtain ⟨a,h1,h2⟩:=h
  exact ⟨a,h1,e.ix i a h2⟩
 | .ty _,_,h=>by unfold RV at h ⊢;exact h
 | .fn _,_,h=>by unfold RV at h ⊢;exact h
 | .exc _ _,_,h=>by
  unfold RV at h ⊢
  obtain ⟨a,o,u,h1,h2,h3,h4,h6,h5⟩:=h
  exact ⟨a,o,u,h1,h2,e.out a h3,h4,h6,h5.imp id fun ⟨d,q1,q2,q3⟩=>⟨d,q1,q2,e.out d q3⟩⟩
 | .dct,_,h=>by
  unfold RV at h ⊢
  obtain ⟨a,h1,h2,h3⟩:=h
  exact ⟨a,h1,h2,e.out a h3⟩
theorem RVs.sh {K:W.Frag} {H:Hp} {b b':Bz} (e:Sh b b'):∀ (l:List PV) {xs:List V},RVs K H b l xs->RVs K H b' l xs
 |[],_,h=>by unfold RVs at h ⊢;exact h
 |p::ps,_,h=>by
  unfold RVs at h ⊢
  obtain ⟨x,r,h1,h2,h3⟩:=h
  exact ⟨x,r,h1,RV.sh e p h2,RVs.sh e ps h3⟩
end
theorem SOk.sh {K:W.Frag} {H:Hp} {b b':Bz} (e:Sh b b'):∀ {x:SO} {o:HO},SOk K H b x o->SOk K H b' x o
 | .l xs,_,⟨vs,h,r⟩=>⟨vs,h,RVs.sh e xs r⟩
 | .d kvs,_,⟨vs,h,q,r⟩=>⟨vs,h,q,RVs.sh e _ r⟩
 | .z kvs,_,⟨od,vs,h,q,r⟩=>⟨od,vs,h,q,RVs.sh e _ r⟩
theorem Sh.bare {b:List Addr} {p:Addr} {z:List Addr}:Sh ⟨b,p::z⟩ ⟨b,z⟩:=⟨fun _ _ h=>h,fun a h=>⟨h.1,fun q=>h.2 (AD _ q)⟩⟩
theorem Sh.slot {b:List Addr} {p:Addr} {z:List Addr}:Sh ⟨b,p::z⟩ ⟨b++[p],z⟩:=⟨fun i a h=>by
  rw [Ae (AQ.mp h).1];exact h,fun a h=>⟨fun q=>(Ar.mp q).elim h.1 fun q=>h.2 (by rw [Ak.mp q];exact AI),fun q=>h.2 (AD _ q)⟩⟩
theorem RV.hide {K:W.Frag} {H:Hp} {b z:List Addr} {p:Addr} {o:HO} (hp:H p=none) (q:PV) {v:V} (h:RV K H ⟨b,z⟩ q v):RV K (upd H p o) ⟨b,p::z⟩ q v:=hd q h
where
 outp {a:Addr} {u:HO} (e:H a=some u) (h:Bz.out ⟨b,z⟩ a):Bz.out ⟨b,p::z⟩ a:=⟨h.1,fun q=>(AJ.mp q).elim (fun q=>by subst q;rw [hp] at e;cases e) h.2⟩
 rdd {a:Addr} {u:HO} (h:Rd H a u∧Bz.out ⟨b,z⟩ a):Rd (upd H p o) a u∧Bz.out ⟨b,p::z⟩ a:=by
  obtain ⟨w,hw⟩:=Rd.some_of h.1
  refine ⟨?_,outp hw h.2⟩
  rcases h.1 with q |⟨o',q⟩
  ·exact .inl (by rw [qU (qQ q hp)];exact q)
  ·exact .inr ⟨o',by rw [qU (qQ q hp)];exact q⟩
 hd:∀ (q:PV) {v:V},RV K H ⟨b,z⟩ q v->RV K (upd H p o) ⟨b,p::z⟩ q v
 | .non,_,h=>by unfold RV at h ⊢;exact h
 | .bl _,_,h=>by unfold RV at h ⊢;exact h
 | .int _,_,h=>by unfold RV at h ⊢;exact h
 | .str _,_,h=>by unfold RV at h ⊢;exact h
 | .tup l,_,h=>by
  unfold RV at h ⊢
  obtain ⟨a,xs,h1,h2,h3⟩:=h
  exact ⟨a,xs,h1,h2.elim (fun q => .inl ⟨by rw [qU (qQ q.1 hp)];exact q.1,outp q.1 q.2⟩) .inr,hds l h3⟩
 | .lst l,_,h=>by
  unfold RV at h ⊢
  obtain ⟨a,xs,h1,h2,h3⟩:=h
  exact ⟨a,xs,h1,h2.elim (fun q => .inl (rdd q)) .inr,hds l h3⟩
 | .ref i,_,h=>by
  unfold RV at h ⊢
  exact h
 | .ty _,_,h=>by unfold RV at h ⊢;exact h
 | .fn _,_,h=>by unfold RV at h ⊢;exact h
 | .exc _ _,_,h=>by
  unfold RV at h ⊢
  obtain ⟨a,o',u,h1,h2,h3,h4,h6,h5⟩:=h
  exact ⟨a,o',u,h1,by rw [qU (qQ h2 hp)];exact h2,outp h2 h3,h4,h6,h5.imp id fun ⟨d,q1,q2,q3⟩=>⟨d,q1,by rw [qU (qQ q2 hp)];exact q2,outp q2 q3⟩⟩
 | .dct,_,h=>by
  unfold RV at h ⊢
  obtain ⟨a,h1,h2,h3⟩:=h
  exact ⟨a,h1,by rw [qU (qQ h2 hp)];exact h2,outp h2 h3⟩
 hds:∀ (l:List PV) {xs:List V},RVs K H ⟨b,z⟩ l xs->RVs K (upd H p o) ⟨b,p::z⟩ l xs
 |[],_,h=>by unfold RVs at h ⊢;exact h
 |q::ps,_,h=>by
  unfold RVs at h ⊢
  obtain ⟨x,r,h1,h2,h3⟩:=h
  exact ⟨x,r,h1,hd q h2,hds ps h3⟩
theorem SR.hide {K:W.Frag} {H:Hp} {b z:List Addr} {st:qC} (S:SR K H ⟨b,z⟩ st) {p:Addr} {ys:List V} (hp:H p=none):SR K (upd H p (.lst ys)) ⟨b,p::z⟩ st:=by
 have hn:=S.new_notin hp
 refine ⟨S.len,S.nd,fun i x hx => ?_,fun a ha => ?_,fun a ha => ?_⟩
 ·obtain ⟨a,u,h1,h2,h3⟩:=S.at_ i x hx
  refine ⟨a,u,h1,by rw [qU (qQ h2 hp)];exact h2,?_⟩
  cases x with
  |l xs =>
   obtain ⟨vs,e1,e2⟩:=h3
   exact ⟨vs,e1,RV.hide.hds hp xs e2⟩
  |d kvs =>
   obtain ⟨vs,e1,e2,e3⟩:=h3
   exact ⟨vs,e1,e2,RV.hide.hds hp _ e3⟩
  |z kvs =>
   obtain ⟨od,vs,e1,e2,e3⟩:=h3
   exact ⟨od,vs,e1,e2,RV.hide.hds hp _ e3⟩
 ·rcases AJ.mp ha with rfl |ha
  ·exact ⟨ys,Qd⟩
  ·obtain ⟨u,e⟩:=S.zo a ha
   exact ⟨u,by rw [qU (qQ e hp)];exact e⟩
 ·rcases AJ.mp ha with rfl |ha
  ·exact hn.1
  ·exact S.zb a ha
theorem SR.bare {K:W.Frag} {H:Hp} {b z:List Addr} {st:qC} {p:Addr} (S:SR K H ⟨b,p::z⟩ st):SR K H ⟨b,z⟩ st :=
 ⟨S.len,S.nd,fun i x hx=>by
  obtain ⟨a,u,h1,h2,h3⟩:=S.at_ i x hx
  exact ⟨a,u,h1,h2,h3.sh Sh.bare⟩,fun a ha=>S.zo a (AD _ ha),fun a ha=>S.zb a (AD _ ha)⟩
theorem SR.slot {K:W.Frag} {H:Hp} {b z:List Addr} {st:qC} {p:Addr} {x:SO} {o:HO} (S:SR K H ⟨b,p::z⟩ st) (hz:p ∉ z) (ho:H p=some o) (hx:SOk K H ⟨b,p::z⟩ x o):SR K H ⟨b++[p],z⟩ (st++[x]):=by
 have hp:p ∉ b:=S.zb p AI
 refine ⟨by simp [show b.length=st.length from S.len],?_,fun i y hy => ?_,fun a ha=>S.zo a (AD _ ha),fun a ha hm => ?_⟩
 ·exact List.nodup_append.mpr ⟨S.nd,by simp,fun a ha c hc=>by rw [Ak.mp hc];intro z;subst z;exact hp ha⟩
 ·by_cases hi:i < st.length
  ·rw [Ae hi] at hy
   obtain ⟨a,u,h1,h2,h3⟩:=S.at_ i y hy
   exact ⟨a,u,Sh.slot.ix i a h1,h2,h3.sh Sh.slot⟩
  ·have hi':i=st.length:=by
    have:=(AQ.mp hy).1
    rw [AO,Ag] at this;omega
   subst hi'
   have e1:(st++[x])[st.length]? = some x:=by simp
   rw [e1] at hy;cases hy
   have hl:b.length=st.length:=S.len
   exact ⟨p,o,by show (b++[p])[st.length]? = some p;rw [← hl];simp,ho,hx.sh Sh.slot⟩
 ·rcases Ar.mp hm with q |q
  ·exact S.zb a (AD _ ha) q
  ·rw [Ak.mp q] at ha;exact hz ha
def REnv (K:W.Frag) (H:Hp) (b:Bz) (r:QO) (s:L2.St):Prop:=r.length=s.length ∧ ∀ (i:Nat) (p:PV),r[i]? = some (some p) -> ∃ v,s[i]? = some (some v)∧RV K H b p v
theorem REnv.wext {K:W.Frag} {H H':Hp} {b b':Bz} {r:QO} {s:L2.St} (h:REnv K H b r s) (e:WE H b H' b'):REnv K H' b' r s:=⟨h.1,fun i p q=>by
 obtain ⟨v,h1,h2⟩:=h.2 i p q
 exact ⟨v,h1,RV.wext e p h2⟩⟩
theorem REnv.ext {K:W.Frag} {H H':Hp} {b b':Bz} {r:QO} {s:L2.St} (h:REnv K H b r s) (e:Ext H b H' b'):REnv K H' b' r s:=⟨h.1,fun i p q=>by
 obtain ⟨v,h1,h2⟩:=h.2 i p q
 exact ⟨v,h1,RV.ext e p h2⟩⟩
theorem REnv.set {K:W.Frag} {H:Hp} {b:Bz} {r:QO} {s:L2.St} {p:PV} {v:V} (h:REnv K H b r s) (hv:RV K H b p v) (i:Nat):REnv K H b (r.set i (some p)) (s.set i (some v)):=by
 refine ⟨by simp [h.1],fun j q hq => ?_⟩
 by_cases hj:i=j
 ·subst hj
  have hl:i < r.length:=by
   have:=(AQ.mp hq).1
   simpa using this
  rw [Av hl] at hq
  cases hq
  exact ⟨v,by rw [Av (by rw [← h.1];exact hl)],hv⟩
 ·rw [Ax hj] at hq
  obtain ⟨w,h1,h2⟩:=h.2 j q hq
  exact ⟨w,by rw [Ax hj];exact h1,h2⟩
def RX (K:W.Frag) (H:Hp) (b:Bz) (x:Exc) (c:Value) (d:Option Addr):Prop :=
 c = .ref x.cls∧((x.fs=[]∧d=none) ∨ ∃ a,d=some a∧H a=some (.xd (x.fs.map fun p=>(p.1,V.int p.2)))∧b.out a)
def XP (K:W.Frag) (E:XK) (H:Hp) (b:Bz) (x:Exc) (st:qC):Prop := ∀ c d H' b',Ext H b H' b'->SR K H' b' st->RX K H' b' x c d->E c d H'
theorem XP.ext {K:W.Frag} {E:XK} {H H1:Hp} {b b1:Bz} {x:Exc} {st:qC} (h:XP K E H b x st) (e:Ext H b H1 b1):XP K E H1 b1 x st:=fun c d H' b' e' S r=>h c d H' b' (e.trans e') S r
def PostE (K:W.Frag) (E:XK) (H:Hp) (b:Bz) (r:Rs PV) (Q:VK):Prop:=match r with
 | .ok p st => ∀ v H' b',Ext H b H' b'->SR K H' b' st->RV K H' b' p v->Q v H'
 | .ex x st=>XP K E H b x st
 | .no=>False
def PostA (K:W.Frag) (E:XK) (H:Hp) (b:Bz) (r:Rs (List PV)) (Q:List V->Hp->Prop):Prop:=match r with
 | .ok ps st => ∀ vs H' b',Ext H b H' b'->SR K H' b' st->RVs K H' b' ps vs->Q vs H'
 | .ex x st=>XP K E H b x st
 | .no=>False
def PostT (K:W.Frag) (E:XK) (H:Hp) (b:Bz) (r:Rs Bool) (Q:Bool->Hp->Prop):Prop:=match r with
 | .ok k st => ∀ H' b',Ext H b H' b'->SR K H' b' st->Q k H'
 | .ex x st=>XP K E H b x st
 | .no=>False
def PostS (K:W.Frag) (E:XK) (H:Hp) (b:Bz) (r:RS) (D:Ends):Prop:=match r with
 | .nx e st => ∀ s H' b',Ext H b H' b'->SR K H' b' st->REnv K H' b' e s->D.nx s H'
 | .bk e st => ∀ s H' b',Ext H b H' b'->SR K H' b' st->REnv K H' b' e s->D.bk s H'
 | .ct e st => ∀ s H' b',Ext H b H' b'->SR K H' b' st->REnv K H' b' e s->D.ct s H'
 | .rt p st => ∀ v H' b',Ext H b H' b'->SR K H' b' st->RV K H' b' p v->D.rt v H'
 | .ex x st=>XP K E H b x st
 | .no=>False
theorem PostE.ext {K:W.Frag} {E:XK} {H H1:Hp} {b b1:Bz} {r:Rs PV} {Q:VK} (h:PostE K E H b r Q) (e:Ext H b H1 b1):PostE K E H1 b1 r Q:=by
 cases r with
 |ok p st=>exact fun v H' b' e'=>h v H' b' (e.trans e')
 |ex x st=>exact XP.ext h e
 |no=>exact h
theorem PostA.ext {K:W.Frag} {E:XK} {H H1:Hp} {b b1:Bz} {r:Rs (List PV)} {Q:List V->Hp->Prop} (h:PostA K E H b r Q) (e:Ext H b H1 b1):PostA K E H1 b1 r Q:=by
 cases r with
 |ok p st=>exact fun v H' b' e'=>h v H' b' (e.trans e')
 |ex x st=>exact XP.ext h e
 |no=>exact h
theorem PostT.ext {K:W.Frag} {E:XK} {H H1:Hp} {b b1:Bz} {r:Rs Bool} {Q:Bool->Hp->Prop} (h:PostT K E H b r Q) (e:Ext H b H1 b1):PostT K E H1 b1 r Q:=by
 cases r with
 |ok p st=>exact fun H' b' e'=>h H' b' (e.trans e')
 |ex x st=>exact XP.ext h e
 |no=>exact h
theorem PostS.ext {K:W.Frag} {E:XK} {H H1:Hp} {b b1:Bz} {r:RS} {D:Ends} (h:PostS K E H b r D) (e:Ext H b H1 b1):PostS K E H1 b1 r D:=by
 cases r with
 |nx p st=>exact fun v H' b' e'=>h v H' b' (e.trans e')
 |bk p st=>exact fun v H' b' e'=>h v H' b' (e.trans e')
 |ct p st=>exact fun v H' b' e'=>h v H' b' (e.trans e')
 |rt p st=>exact fun v H' b' e'=>h v H' b' (e.trans e')
 |ex x st=>exact XP.ext h e
 |no=>exact h
def rd (K:W.Frag) (E:XK) (f:FE):TE:=fun s H Q => ∃ b r st,SR K H b st∧REnv K H b r s∧PostE K E H b (f r st) Q
def rdA (K:W.Frag) (E:XK) (f:FA):L2.TA:=fun s H Q => ∃ b r st,SR K H b st∧REnv K H b r s∧PostA K E H b (f r st) Q
def rdT (K:W.Frag) (E:XK) (f:FT):TT:=fun s H Q => ∃ b r st,SR K H b st∧REnv K H b r s∧PostT K E H b (f r st) Q
def rdS (K:W.Frag) (E:XK) (f:FS):TS:=fun D s H => ∃ b r st,SR K H b st∧REnv K H b r s∧PostS K E H b (f r st) D
abbrev VE (X:Cx) (E:XK) (e:Expr) (f:FE):Prop:=PE X e (rd X.K E f)
abbrev VA (X:Cx) (E:XK) (e:List Expr) (f:FA):Prop:=PA X e (rdA X.K E f)
abbrev VT (X:Cx) (E:XK) (e:Expr) (f:FT):Prop:=PT X e (rdT X.K E f)
abbrev VS (X:Cx) (E:XK) (e:Stmt) (f:FS):Prop:=PS X e (rdS X.K E f)
abbrev VSs (X:Cx) (E:XK) (e:List Stmt) (f:FS):Prop:=PSs X e (rdS X.K E f)
theorem PE.imp {X:Cx} {e:Expr} {t t':TE} (h:PE X e t) (i:∀ s H Q,t' s H Q->t s H Q):PE X e t':=fun pins s σ H Q I q=>h pins s σ H Q I (i _ _ _ q)
theorem PT.imp {X:Cx} {e:Expr} {t t':TT} (h:PT X e t) (i:∀ s H Q,t' s H Q->t s H Q):PT X e t':=fun pins s σ H Q I q=>h pins s σ H Q I (i _ _ _ q)
theorem PA.imp {X:Cx} {e:List Expr} {t t':L2.TA} (h:PA X e t) (i:∀ s H Q,t' s H Q->t s H Q):PA X e t':=fun pos pins s σ H Q I q=>h pos pins s σ H Q I (i _ _ _ q)
theorem PS.imp {X:Cx} {e:Stmt} {t t':TS} (h:PS X e t) (i:∀ D s H,t' D s H->t D s H):PS X e t':=fun pins s σ H D I q=>h pins s σ H D I (i _ _ _ q)
theorem PSs.imp {X:Cx} {e:List Stmt} {t t':TS} (h:PSs X e t) (i:∀ D s H,t' D s H->t D s H):PSs X e t':=fun pins s σ H D I q=>h pins s σ H D I (i _ _ _ q)
theorem PostE.bind {K:W.Frag} {E:XK} {H:Hp} {b:Bz} {r:Rs PV} {k:PV->qC->Rs PV} {Q R:VK} (P:PostE K E H b (r.bind k) Q)
  (h:∀ p st v H1 b1,Ext H b H1 b1->SR K H1 b1 st->RV K H1 b1 p v->PostE K E H1 b1 (k p st) Q->R v H1):PostE K E H b r R:=by
 cases r with
 |ok p st=>exact fun v H1 b1 e S r=>h p st v H1 b1 e S r (PostE.ext (show PostE K E H b (k p st) Q from P) e)
 |ex x st=>exact P
 |no=>exact P
theorem PostE.bindT {K:W.Frag} {E:XK} {H:Hp} {b:Bz} {r:Rs PV} {k:PV->qC->Rs Bool} {Q:Bool->Hp->Prop} {R:VK} (P:PostT K E H b (r.bind k) Q)
  (h:∀ p st v H1 b1,Ext H b H1 b1->SR K H1 b1 st->RV K H1 b1 p v->PostT K E H1 b1 (k p st) Q->R v H1):PostE K E H b r R:=by
 cases r with
 |ok p st=>exact fun v H1 b1 e S r=>h p st v H1 b1 e S r (PostT.ext (show PostT K E H b (k p st) Q from P) e)
 |ex x st=>exact P
 |no=>exact P
theorem PostT.bind {K:W.Frag} {E:XK} {H:Hp} {b:Bz} {r:Rs Bool} {k:Bool->qC->Rs PV} {Q:VK} {R:Bool->Hp->Prop} (P:PostE K E H b (r.bind k) Q)
  (h:∀ p st H1 b1,Ext H b H1 b1->SR K H1 b1 st->PostE K E H1 b1 (k p st) Q->R p H1):PostT K E H b r R:=by
 cases r with
 |ok p st=>exact fun H1 b1 e S=>h p st H1 b1 e S (PostE.ext (show PostE K E H b (k p st) Q from P) e)
 |ex x st=>exact P
 |no=>exact P
theorem PostT.bindT {K:W.Frag} {E:XK} {H:Hp} {b:Bz} {r:Rs Bool} {k:Bool->qC->Rs Bool} {Q R:Bool->Hp->Prop} (P:PostT K E H b (r.bind k) Q)
  (h:∀ p st H1 b1,Ext H b H1 b1->SR K H1 b1 st->PostT K E H1 b1 (k p st) Q->R p H1):PostT K E H b r R:=by
 cases r with
 |ok p st=>exact fun H1 b1 e S=>h p st H1 b1 e S (PostT.ext (show PostT K E H b (k p st) Q from P) e)
 |ex x st=>exact P
 |no=>exact P
theorem PostA.bind {K:W.Frag} {E:XK} {H:Hp} {b:Bz} {r:Rs (List PV)} {k:List PV->qC->Rs PV} {Q:VK} {R:List V->Hp->Prop} (P:PostE K E H b (r.bind k) Q)
  (h:∀ p st v H1 b1,Ext H b H1 b1->SR K H1 b1 st->RVs K H1 b1 p v->PostE K E H1 b1 (k p st) Q->R v H1):PostA K E H b r R:=by
 cases r with
 |ok p st=>exact fun v H1 b1 e S r=>h p st v H1 b1 e S r (PostE.ext (show PostE K E H b (k p st) Q from P) e)
 |ex x st=>exact P
 |no=>exact P
theorem PostE.bindA {K:W.Frag} {E:XK} {H:Hp} {b:Bz} {r:Rs PV} {k:PV->qC->Rs (List PV)} {Q:List V->Hp->Prop} {R:VK} (P:PostA K E H b (r.bind k) Q)
  (h:∀ p st v H1 b1,Ext H b H1 b1->SR K H1 b1 st->RV K H1 b1 p v->PostA K E H1 b1 (k p st) Q->R v H1):PostE K E H b r R:=by
 cases r with
 |ok p st=>exact fun v H1 b1 e S r=>h p st v H1 b1 e S r (PostA.ext (show PostA K E H b (k p st) Q from P) e)
 |ex x st=>exact P
 |no=>exact P
theorem PostA.bindA {K:W.Frag} {E:XK} {H:Hp} {b:Bz} {r:Rs (List PV)} {k:List PV->qC->Rs (List PV)} {Q R:List V->Hp->Prop} (P:PostA K E H b (r.bind k) Q)
  (h:∀ p st v H1 b1,Ext H b H1 b1->SR K H1 b1 st->RVs K H1 b1 p v->PostA K E H1 b1 (k p st) Q->R v H1):PostA K E H b r R:=by
 cases r with
 |ok p st=>exact fun v H1 b1 e S r=>h p st v H1 b1 e S r (PostA.ext (show PostA K E H b (k p st) Q from P) e)
 |ex x st=>exact P
 |no=>exact P
def Rs.bindS {α:Type} (r:Rs α) (k:α->qC->RS):RS:=match r with
 | .ok a st=>k a st
 | .ex x st => .ex x st
 | .no => .no
theorem PostE.bindS {K:W.Frag} {E:XK} {H:Hp} {b:Bz} {r:Rs PV} {k:PV->qC->RS} {D:Ends} {R:VK} (P:PostS K E H b (r.bindS k) D)
  (h:∀ p st v H1 b1,Ext H b H1 b1->SR K H1 b1 st->RV K H1 b1 p v->PostS K E H1 b1 (k p st) D->R v H1):PostE K E H b r R:=by
 cases r with
 |ok p st=>exact fun v H1 b1 e S r=>h p st v H1 b1 e S r (PostS.ext (show PostS K E H b (k p st) D from P) e)
 |ex x st=>exact P
 |no=>exact P
theorem PostT.bindS {K:W.Frag} {E:XK} {H:Hp} {b:Bz} {r:Rs Bool} {k:Bool->qC->RS} {D:Ends} {R:Bool->Hp->Prop} (P:PostS K E H b (r.bindS k) D)
  (h:∀ p st H1 b1,Ext H b H1 b1->SR K H1 b1 st->PostS K E H1 b1 (k p st) D->R p H1):PostT K E H b r R:=by
 cases r with
 |ok p st=>exact fun H1 b1 e S=>h p st H1 b1 e S (PostS.ext (show PostS K E H b (k p st) D from P) e)
 |ex x st=>exact P
 |no=>exact P
theorem PostA.bindS {K:W.Frag} {E:XK} {H:Hp} {b:Bz} {r:Rs (List PV)} {k:List PV->qC->RS} {D:Ends} {R:List V->Hp->Prop} (P:PostS K E H b (r.bindS k) D)
  (h:∀ p st v H1 b1,Ext H b H1 b1->SR K H1 b1 st->RVs K H1 b1 p v->PostS K E H1 b1 (k p st) D->R v H1):PostA K E H b r R:=by
 cases r with
 |ok p st=>exact fun v H1 b1 e S r=>h p st v H1 b1 e S r (PostS.ext (show PostS K E H b (k p st) D from P) e)
 |ex x st=>exact P
 |no=>exact P
def asL (st:qC):PV->Option (List PV)
 | .lst l=>some l
 | .ref i=>match st[i]? with
  |some (.l xs)=>some xs
  |_=>none
 |_=>none
def asT:PV->Option (List PV)
 | .tup l=>some l
 |_=>none
def Wo (st:qC) (p:PV):Option (List PV):=match p with
 | .tup l=>some l
 |p=>asL st p
section
variable {K:W.Frag} {H:Hp} {b:Bz} {st:qC} {p:PV} {v:V} {l:List PV}
theorem wg (S:SR K H b st) (r:RV K H b p v) (h:asL st p=some l):∃ a xs,v = .ref a∧SqL K H a xs∧RVs K H b l xs:=by
 cases p with
 |lst m =>
  unfold RV at r
  obtain ⟨a,xs,h1,h2,h3⟩:=r
  have e:m=l:=Am h
  subst e
  exact ⟨a,xs,h1,h2.sq,h3⟩
 |ref i =>
  unfold RV at r
  obtain ⟨a,h1,h2⟩:=r
  unfold asL at h
  dsimp only at h
  cases q:st[i]? with
  |none=>rw [q] at h;cases h
  |some o =>
   cases o with
   |l ys =>
    rw [q] at h
    have e:ys=l:=Am h
    subst e
    obtain ⟨a',o,e1,e2,vs,e3,e4⟩:=S.at_ i _ q
    rw [h2] at e1;cases e1
    subst e3
    exact ⟨a,vs,h1,SqL.of e2,e4⟩
   |d ys=>rw [q] at h;cases h
   |z ys=>rw [q] at h;cases h
 |_=>cases h
theorem Z2 (S:SR K H b st) (r:RV K H b p v) (h:Wo st p=some l):∃ a xs,v = .ref a∧(SqL K H a xs∨SqT K H a xs)∧RVs K H b l xs:=by
 cases p with
 |tup m =>
  unfold RV at r
  obtain ⟨a,xs,h1,h2,h3⟩:=r
  have e:m=l:=Am h
  subst e
  exact ⟨a,xs,h1,.inr h2.sq,h3⟩
 |lst m =>
  obtain ⟨a,xs,h1,h2,h3⟩:=wg S r h
  exact ⟨a,xs,h1,.inl h2,h3⟩
 |ref i =>
  obtain ⟨a,xs,h1,h2,h3⟩:=wg S r h
  exact ⟨a,xs,h1,.inl h2,h3⟩
 |_=>cases h
end
abbrev FL:=QO->qC->Rs (List PV)
def PostN (K:W.Frag) (E:XK) (H:Hp) (b:Bz) (r:Rs (List PV)) (Q:VK):Prop:=match r with
 | .ok l st => ∀ p xs H' b',Ext H b H' b'->H p=none->H' p=some (.lst xs)->p ∉ b'.z->SR K H' ⟨b'.b,p::b'.z⟩ st->RVs K H' ⟨b'.b,p::b'.z⟩ l xs->Q (.ref p) H'
 | .ex x st=>XP K E H b x st
 | .no=>False
def rdN (K:W.Frag) (E:XK) (f:FL):TE:=fun s H Q => ∃ b r st,SR K H b st∧REnv K H b r s∧PostN K E H b (f r st) Q
abbrev VN (X:Cx) (E:XK) (e:Expr) (f:FL):Prop:=PE X e (rdN X.K E f)
def vFz (f:FL):FE:=fun r st=>(f r st).bind fun l s => .ok (.lst l) s
theorem PostN.of {K:W.Frag} {E:XK} {H:Hp} {b:Bz} {r:Rs (List PV)} {Q:VK} (P:PostE K E H b (r.bind fun l s => .ok (.lst l) s) Q):PostN K E H b r Q:=by
 cases r with
 |ok l st=>exact fun p xs H' b' e hn hp hz S r=>P _ H' b' e S.bare (by unfold RV;exact ⟨p,xs,rfl,.inl ⟨.inl hp,S.zb p AI,hz⟩,RVs.sh Sh.bare l r⟩)
 |ex x st=>exact P
 |no=>exact P
theorem PostN.ext {K:W.Frag} {E:XK} {H H1:Hp} {b b1:Bz} {r:Rs (List PV)} {Q:VK} (h:PostN K E H b r Q) (e:Ext H b H1 b1):PostN K E H1 b1 r Q:=by
 cases r with
 |ok p st=>exact fun p xs H' b' e' hn=>h p xs H' b' (e.trans e') (e.none_of hn)
 |ex x st=>exact XP.ext h e
 |no=>exact h
theorem PostN.lay {K:W.Frag} {E:XK} {H:Hp} {b:Bz} {st:qC} {l:List PV} {xs:List V} {Q:VK} (P:PostN K E H b (.ok l st) Q) (S:SR K H b st) (r:RVs K H b l xs) {p:Addr} (h:H p=none):Q (.ref p) (upd H p (.lst xs)) :=
 P p xs _ b (Ext.new h) h Qd (S.new_notin h).2 (SR.hide S h) (RV.hide.hds h l r)
theorem PostE.layT {K:W.Frag} {E:XK} {H:Hp} {b:Bz} {st:qC} {l:List PV} {xs:List V} {Q:VK} (P:PostE K E H b (.ok (.tup l) st) Q) (S:SR K H b st) (r:RVs K H b l xs) {p:Addr} (h:H p=none):Q (.ref p) (upd H p (.tup xs)) :=
 P _ _ b (Ext.new h) (S.new h) (by unfold RV;exact ⟨p,xs,rfl,.inl ⟨Qd,S.new_notin h⟩,RVs.ext (Ext.new h) l r⟩)
theorem PostE.here {K:W.Frag} {E:XK} {H:Hp} {b:Bz} {st:qC} {p:PV} {v:V} {Q:VK} (P:PostE K E H b (.ok p st) Q) (S:SR K H b st) (r:RV K H b p v):Q v H:=P v H b (Ext.refl H b) S r
section
variable {X:Cx} {E:XK} {e a c d:Expr} {es:List Expr} {f fa fb fc:FE} {pos:Pos}
theorem qg {f:FL} (h:VN X E e f):VE X E e (vFz f):=PE.imp h fun s H Q ⟨b,r,st,S,R,P⟩=>⟨b,r,st,S,R,PostN.of P⟩
def vC (p:PV):FE:=fun _ st => .ok p st
def qB (i:Nat):FE:=fun r st=>match r[i]? with
 |some (some p) => .ok p st
 |_ => .no
theorem qBc {p:PV} {v:V} (h:PE X e (tC v)) (hv:∀ H b,RV X.K H b p v):VE X E e (vC p):=PE.imp h fun s H Q ⟨b,r,st,S,R,P⟩=>PostE.here P S (hv H b)
theorem qK {i:Int} {j pos}:VE X E (.Constant (.int i) j pos) (vC (.int i)):=qBc qIb fun _ _=>by unfold RV;rfl
theorem wx {i:Bool} {j pos}:VE X E (.Constant (.bool i) j pos) (vC (.bl i)):=qBc qKg fun _ _=>by unfold RV;rfl
theorem Wm {j pos}:VE X E (.Constant .none j pos) (vC .non):=qBc qIi fun _ _=>by unfold RV;rfl
theorem Qp {x:Str} {j pos}:VE X E (.Constant (.str x) j pos) (vC (.str x)):=qBc qIc fun _ _=>by unfold RV;rfl
theorem YI {x:Str} {i:Int} {t:Tok} {pos:Pos} (hg:Gl X x) (hm:X.mg x=some (.int i t)) (hd:(x==("__debug__":Str))=false:=by decide):VE X E (.Name x pos) (vC (.int i)) :=
 qBc (qCh (v := .int i) hg hm ⟨t,rfl⟩ hd) fun _ _=>by unfold RV;rfl
theorem qJp {i:Nat} (h:PE X e (qJA i)):VE X E e (qB i):=PE.imp h fun s H Q ⟨b,r,st,S,R,P⟩=>by
 unfold qB at P
 cases q:r[i]? with
 |none=>rw [q] at P;exact False.elim P
 |some o =>
  cases o with
  |none=>rw [q] at P;exact False.elim P
  |some p =>
   rw [q] at P
   obtain ⟨v,h1,h2⟩:=R.2 i p q
   exact ⟨v,h1,PostE.here P S h2⟩
def qM (g:PV->PV->qC->Rs PV) (fa fb:FE):FE:=fun r st=>(fa r st).bind fun p s1=>(fb r s1).bind fun q s2=>g p q s2
def OpG (X:Cx) (E:XK) (t:R2) (g:PV->PV->qC->Rs PV):Prop :=
 ∀ (H:Hp) (b:Bz) (st:qC) (p q:PV) (u v:V) (Q:VK),SR X.K H b st->RV X.K H b p u->RV X.K H b q v->PostE X.K E H b (g p q st) Q->t u v H Q
theorem JR {t:R2} {g:PV->PV->qC->Rs PV} (hg:OpG X E t g):∀ s H Q,rd X.K E (qM g fa fb) s H Q->tOp t (rd X.K E fa) (rd X.K E fb) s H Q:=fun s H Q ⟨b,r,st,S,R,P⟩ =>
 ⟨b,r,st,S,R,PostE.bind P fun p s1 u H1 b1 e1 S1 r1 P1=>⟨b1,r,s1,S1,R.ext e1,PostE.bind P1 fun q s2 v H2 b2 e2 S2 r2 P2=>hg H2 b2 s2 p q u v Q S2 (RV.ext e2 p r1) r2 P2⟩⟩
theorem Z5 {op:Operator} {t:R2} {g:PV->PV->qC->Rs PV} (ho:OpR X (binaryOp op) t) (hg:OpG X E t g) (ha:VE X E a fa) (hb:VE X E c fb):VE X E (.BinOp a op c pos) (qM g fa fb):=PE.imp (qFA ho ha hb) (JR hg)
theorem qIw {op:CmpOp} {t:R2} {g:PV->PV->qC->Rs PV} (ho:OpR X (compareOp op) t) (hg:OpG X E t g) (ha:VE X E a fa) (hb:VE X E c fb) (hm:behindInMarks op c=false:=by first |exact qBt _ |with_unfolding_all rfl):VE X E (.Compare a [op] [c] pos) (qM g fa fb):=PE.imp (qHJ ho ha hb hm) (JR hg)
def gI (g:Int->Int->Option PV):PV->PV->qC->Rs PV:=fun p q st=>match p,q with
 | .int i,.int j=>match g i j with
  |some z => .ok z st
  |none => .no
 |_,_ => .no
theorem qFm {C:Int->Int->Prop} {h:Int->Int->V} {g:Int->Int->Option PV} (hg:∀ i j z,g i j=some z->C i j ∧ ∀ H b,RV X.K H b z (h i j)):OpG X E (rI C h) (gI g):=by
 intro H b st p q u v Q S rp rq P
 unfold gI at P
 split at P
 ·rename_i i j
  unfold RV at rp rq
  split at P
  ·rename_i z e
   obtain ⟨c,r⟩:=hg i j z e
   exact ⟨i,j,rp,rq,c,PostE.here P S (r H b)⟩
  ·exact P.elim
 ·exact P.elim
theorem Js {h:Int->Int->V} {g:Int->Int->PV} (hg:∀ i j H b,RV X.K H b (g i j) (h i j)):OpG X E (rI0 h) (gI fun i j=>some (g i j)):=by
 intro H b st p q u v Q S rp rq P
 unfold gI at P
 split at P
 ·rename_i i j
  unfold RV at rp rq
  exact ⟨i,j,rp,rq,PostE.here P S (hg i j H b)⟩
 ·exact P.elim
theorem wC {K:W.Frag} {H:Hp} {b:Bz} {i:Int}:RV K H b (.int i) (.int i):=by unfold RV;rfl
theorem zg {K:W.Frag} {H:Hp} {b:Bz} {i:Bool}:RV K H b (.bl i) (.bl i):=by unfold RV;rfl
def zU:=gI fun i j=>some (.int (i - j))
def ZE:=gI fun i j=>if (-(2 ^ 64) < i∧i < 2 ^ 64)∨(-(2 ^ 64) < j∧j < 2 ^ 64) then some (.int (i * j)) else none
def qHa:=gI fun i j=>if 0 < j∧j < 1073741824 then some (.int (i / j)) else none
def Ws:=gI fun i j=>if 0 < j then some (.int (i % j)) else none
def qEk:=gI fun i j=>if 0≤j∧j≤1000000∧i.natAbs < 2 ^ 64 then some (.int (i ^ j.toNat)) else none
theorem Zs (ha:VE X E a fa) (hb:VE X E c fb):VE X E (.BinOp a .Sub c pos) (qM zU fa fb):=Z5 qIB (Js fun _ _ _ _=>wC) ha hb
theorem Zn (ha:VE X E a fa) (hb:VE X E c fb):VE X E (.BinOp a .Mult c pos) (qM ZE fa fb):=Z5 qIk (qFm fun i j z e=>by
 split at e
 ·rename_i h;cases e;exact ⟨h,fun _ _=>wC⟩
 ·cases e) ha hb
theorem qJL (ha:VE X E a fa) (hb:VE X E c fb):VE X E (.BinOp a .FloorDiv c pos) (qM qHa fa fb):=Z5 qHS (qFm fun i j z e=>by
 split at e
 ·rename_i h;cases e;exact ⟨h,fun _ _=>wC⟩
 ·cases e) ha hb
theorem Wn (ha:VE X E a fa) (hb:VE X E c fb):VE X E (.BinOp a .Mod c pos) (qM Ws fa fb):=Z5 qIr (qFm fun i j z e=>by
 split at e
 ·rename_i h;cases e;exact ⟨h,fun _ _=>wC⟩
 ·cases e) ha hb
theorem qBq (ha:VE X E a fa) (hb:VE X E c fb):VE X E (.BinOp a .Pow c pos) (qM qEk fa fb):=Z5 qIC (qFm fun i j z e=>by
 split at e
 ·rename_i h;cases e;exact ⟨h,fun _ _=>wC⟩
 ·cases e) ha hb
def Qf:=gI fun i j=>some (.int (i + j))
theorem Qc (ha:VE X E a fa) (hb:VE X E c fb):VE X E (.BinOp a .Add c pos) (qM Qf fa fb):=Z5 qIT (Js fun _ _ _ _=>wC) ha hb
def qI6:PV->PV->qC->Rs PV:=fun p q st=>match p,q with
 | .str x,.str y=>if x.length + y.length≤sizeLine then .ok (.str (x++y)) st else .no
 |_,_ => .no
theorem qHe (ha:VE X E a fa) (hb:VE X E c fb):VE X E (.BinOp a .Add c pos) (qM qI6 fa fb):=Z5 qBy (fun H b st p q u v Q S rp rq P=>by
 unfold qI6 at P
 split at P
 ·rename_i x y
  unfold RV at rp rq
  split at P
  ·rename_i h;exact ⟨x,y,rp,rq,h,PostE.here P S (by unfold RV;rfl)⟩
  ·exact P.elim
 ·exact P.elim) ha hb
def gLt:=gI fun i j=>some (.bl (decide (i < j)))
def gLe:=gI fun i j=>some (.bl (decide (i≤j)))
def gGt:=gI fun i j=>some (.bl (decide (j < i)))
theorem qH4:OpG X E (rI0 fun i j => .bl (decide (i < j))) gLt:=Js fun _ _ _ _=>zg
theorem qBC:OpG X E (rI0 fun i j => .bl (decide (i≤j))) gLe:=Js fun _ _ _ _=>zg
theorem qKO:OpG X E (rI0 fun i j => .bl (decide (j < i))) gGt:=Js fun _ _ _ _=>zg
def yY (g g':PV->PV->qC->Rs PV) (fa fb fc:FE):FE:=fun r st=>(fa r st).bind fun p s1=>(fb r s1).bind fun q s2=>(g p q s2).bind fun z s3=>match z with
 | .bl true=>(fc r s3).bind fun w s4=>g' q w s4
 | .bl false => .ok (.bl false) s3
 |_ => .no
theorem qA0 {op op':CmpOp} {t t':R2} {g g':PV->PV->qC->Rs PV} (ho:OpR X (compareOp op) t) (ho':OpR X (compareOp op') t') (hg:OpG X E t g) (hg':OpG X E t' g') (ha:VE X E a fa) (hb:VE X E c fb) (hc:VE X E d fc)
  (hm:lastMarks [op,op'] [c,d]=false:=by with_unfolding_all rfl):VE X E (.Compare a [op,op'] [c,d] pos) (yY g g' fa fb fc):=by
 refine PE.imp (qFP ho ho' ha hb hc hm) fun s H Q ⟨b,r,st,S,R,P⟩ => ?_
 refine ⟨b,r,st,S,R,PostE.bind P fun p s1 u H1 b1 e1 S1 r1 P1=>⟨b1,r,s1,S1,R.ext e1,PostE.bind P1 fun q s2 v H2 b2 e2 S2 r2 P2 => ?_⟩⟩
 refine hg H2 b2 s2 p q u v _ S2 (RV.ext e2 p r1) r2 (PostE.bind P2 fun z s3 zv H3 b3 e3 S3 r3 P3 => ?_)
 split at P3
 ·unfold RV at r3
  refine ⟨true,r3,qDj ⟨b3,r,s3,S3,((R.ext e1).ext e2).ext e3,PostE.bind P3 fun w s4 wv H4 b4 e4 S4 r4 P4 => ?_⟩⟩
  exact hg' H4 b4 s4 q w v wv Q S4 (RV.ext e4 q (RV.ext e3 q r2)) r4 P4
 ·unfold RV at r3
  exact ⟨false,r3,qDX (PostE.here P3 S3 zg)⟩
 ·exact P3.elim
def qFH (st:qC):PV->Option Bool
 | .non=>some false
 | .bl x=>some x
 | .int i=>some (i != 0)
 | .tup l=>some (!l.isEmpty)
 | .lst l=>some (!l.isEmpty)
 | .ref i=>(asL st (.ref i)).map fun l => !l.isEmpty
 |_=>none
theorem qEN {K:W.Frag} {H:Hp} {b:Bz} {st:qC} {p:PV} {v:V} {k:Bool} (S:SR K H b st) (r:RV K H b p v) (h:qFH st p=some k):qGU K v H k:=by
 have emp:∀ {l:List PV} {xs:List V},RVs K H b l xs->(!l.isEmpty) = !xs.isEmpty:=fun {l xs} q=>by
  have:=q.length
  cases l <;> cases xs <;> first |rfl |(simp at this)
 cases p with
 |non=>unfold RV at r;subst r;exact (Am h).symm
 |bl x=>unfold RV at r;subst r;exact (Am h).symm
 |int x=>unfold RV at r;subst r;exact (Am h).symm
 |tup l =>
  unfold RV at r
  obtain ⟨a,xs,rfl,h2,h3⟩:=r
  exact .inr (.inl ⟨xs,h2.sq,by rw [← emp h3];exact (Am h).symm⟩)
 |lst l =>
  obtain ⟨a,xs,rfl,h2,h3⟩:=wg S r rfl
  exact .inl ⟨xs,h2,by rw [← emp h3];exact (Am h).symm⟩
 |ref i =>
  unfold qFH at h
  dsimp only at h
  cases q:asL st (.ref i) with
  |none=>rw [q] at h;cases h
  |some l =>
   rw [q] at h
   obtain ⟨a,xs,rfl,h2,h3⟩:=wg S r q
   exact .inl ⟨xs,h2,by rw [← emp h3];exact (Am h).symm⟩
 |_=>cases h
def Qr (f:FE):FT:=fun r st=>(f r st).bind fun p s=>match qFH s p with
 |some k => .ok k s
 |none => .no
theorem qFg {R:Bool->Hp->Prop} {s:L2.St} {H:Hp} (h:rdT X.K E (Qr f) s H R):rd X.K E f s H fun x H' => ∃ k,qGU X.K x H' k∧R k H':=by
 obtain ⟨b,r,st,S,RE,P⟩:=h
 refine ⟨b,r,st,S,RE,PostE.bindT P fun p s1 u H1 b1 e1 S1 r1 P1 => ?_⟩
 split at P1
 ·rename_i k e;exact ⟨k,qEN S1 r1 e,P1 H1 b1 (Ext.refl _ _) S1⟩
 ·exact P1.elim
theorem wn (h:VE X E e f) (he:∀ whole,isTrue e X.env whole=(do let v ← whole;standAt e.pos;holding [v] (truthy v)):=by intro _;rfl):VT X E e (Qr f):=PT.imp (qFt h he) fun s H Q q=>qFg q
def vTB (f:FE):FT:=fun r st=>(f r st).bind fun p s=>match p with
 | .bl k => .ok k s
 |_ => .no
theorem qJq {R:Bool->Hp->Prop} {s:L2.St} {H:Hp} (h:rdT X.K E (vTB f) s H R):rd X.K E f s H fun x H' => ∃ k,x = .bl k∧R k H':=by
 obtain ⟨b,r,st,S,RE,P⟩:=h
 refine ⟨b,r,st,S,RE,PostE.bindT P fun p s1 u H1 b1 e1 S1 r1 P1 => ?_⟩
 split at P1
 ·rename_i k;unfold RV at r1;exact ⟨k,r1,P1 H1 b1 (Ext.refl _ _) S1⟩
 ·exact P1.elim
theorem QP {op:CmpOp} {t:R2} {g:PV->PV->qC->Rs PV} (ho:OpR X (compareOp op) t) (hg:OpG X E t g) (ha:VE X E a fa) (hb:VE X E c fb) (hm:behindInMarks op c=false:=by first |exact qBt _ |with_unfolding_all rfl):VT X E (.Compare a [op] [c] pos) (vTB (qM g fa fb)) :=
 PT.imp (qG0 ho ha hb hm) fun s H Q q=>JR hg s H _ (qJq q)
def ww (f:FT):FT:=fun r st=>(f r st).bind fun k s => .ok (!k) s
theorem Wc {f:FT} (h:VT X E a f):VT X E (.UnaryOp .Not a pos) (ww f):=PT.imp (qJN h) fun s H Q ⟨b,r,st,S,R,P⟩=>⟨b,r,st,S,R,PostT.bindT P fun k s1 H1 b1 e1 S1 P1=>P1 H1 b1 (Ext.refl _ _) S1⟩
abbrev VW (X:Cx) (E:XK) (e:Expr) (f:FT):Prop:=PW X e (rdT X.K E f)
theorem PW.imp {X:Cx} {e:Expr} {t t':TT} (h:PW X e t) (i:∀ s H Q,t' s H Q->t s H Q):PW X e t':=fun w pins s σ H Q I q=>h w pins s σ H Q I (i _ _ _ q)
def Zc (f g:FT):FT:=fun r st=>(f r st).bind fun k s=>if k=true then g r s else .ok false s
def ZV (f g:FT):FT:=fun r st=>(f r st).bind fun k s=>if k=true then .ok true s else g r s
theorem qCu {f:FT} (h:VT X E a f):VW X E (.BoolOp .And [a] pos) f:=qGk h
theorem Zk {f:FT} (h:VT X E a f):VW X E (.BoolOp .Or [a] pos) f:=qJg h
theorem qFe {f g:FT} {rest:List Expr} (h:VT X E a f) (h2:VW X E (.BoolOp .And (c::rest) pos) g):VW X E (.BoolOp .And (a::c::rest) pos) (Zc f g):=PW.imp (qIK h h2) fun s H Q ⟨b,r,st,S,R,P⟩ =>
 ⟨b,r,st,S,R,PostT.bindT P fun k s1 H1 b1 e1 S1 P1=>by
  cases k with
  |true=>exact qDj ⟨b1,r,s1,S1,R.ext e1,P1⟩
  |false=>exact qDX (P1 H1 b1 (Ext.refl _ _) S1)⟩
theorem yn {f g:FT} {rest:List Expr} (h:VT X E a f) (h2:VW X E (.BoolOp .Or (c::rest) pos) g):VW X E (.BoolOp .Or (a::c::rest) pos) (ZV f g):=PW.imp (qKk h h2) fun s H Q ⟨b,r,st,S,R,P⟩ =>
 ⟨b,r,st,S,R,PostT.bindT P fun k s1 H1 b1 e1 S1 P1=>by
  cases k with
  |true=>exact qDj (P1 H1 b1 (Ext.refl _ _) S1)
  |false=>exact qDX ⟨b1,r,s1,S1,R.ext e1,P1⟩⟩
theorem Jq {f:FT} (h:VW X E e f):VT X E e f:=h.pt
def qIn (f:FE):FE:=fun r st=>(f r st).bind fun p s=>match p with
 | .bl k => .ok (.bl (!k)) s
 |_ => .no
theorem qF1 (h:VE X E a fa):VE X E (.UnaryOp .Not a pos) (qIn fa):=PE.imp (qJj h) fun s H Q ⟨b,r,st,S,R,P⟩ =>
 ⟨b,r,st,S,R,PostE.bind P fun p s1 u H1 b1 e1 S1 r1 P1=>by
  split at P1
  ·rename_i k;unfold RV at r1;exact ⟨k,r1,PostE.here P1 S1 zg⟩
  ·exact P1.elim⟩
def YB (f g:FE):FE:=fun r st=>(f r st).bind fun p s=>match p with
 | .bl true=>g r s
 | .bl false => .ok (.bl false) s
 |_ => .no
theorem ym {op} (h:VE X E a fa):VE X E (.BoolOp op [a] pos) fa:=qIs h
theorem Zv {rest:List Expr} (h:VE X E a fa) (h2:VE X E (.BoolOp .And (c::rest) pos) fb):VE X E (.BoolOp .And (a::c::rest) pos) (YB fa fb):=PE.imp (qIm h h2) fun s H Q ⟨b,r,st,S,R,P⟩ =>
 ⟨b,r,st,S,R,PostE.bind P fun p s1 u H1 b1 e1 S1 r1 P1=>by
  split at P1
  ·unfold RV at r1;exact ⟨true,r1,qDj ⟨b1,r,s1,S1,R.ext e1,P1⟩⟩
  ·unfold RV at r1;exact ⟨false,r1,qDX (PostE.here P1 S1 zg)⟩
  ·exact P1.elim⟩
def vIf (t:FT) (f g:FE):FE:=fun r st=>(t r st).bind fun k s=>if k=true then f r s else g r s
theorem qHt {t:FT} (hc:VT X E e t) (ha:VE X E a fa) (hb:VE X E c fb):VE X E (.IfExp e a c pos) (vIf t fa fb):=PE.imp (qFi hc ha hb) fun s H Q ⟨b,r,st,S,R,P⟩ =>
 ⟨b,r,st,S,R,PostT.bind P fun k s1 H1 b1 e1 S1 P1=>by
  cases k with
  |true=>exact qDj ⟨b1,r,s1,S1,R.ext e1,P1⟩
  |false=>exact qDX ⟨b1,r,s1,S1,R.ext e1,P1⟩⟩
def qD:FA:=fun _ st => .ok [] st
def qA (f:FE) (g:FA):FA:=fun r st=>(f r st).bind fun p s=>(g r s).bind fun ps s' => .ok (p::ps) s'
theorem qF:VA X E [] qD:=PA.imp Yz fun s H Q ⟨b,r,st,S,R,P⟩=>P [] H b (Ext.refl _ _) S RVs.nil
theorem wD {f:FE} {g:FA} (h:VE X E e f) (h2:VA X E es g) (hs:starEach (e::es) X.env=(false,eval e X.env)::starEach es X.env:=by rfl):VA X E (e::es) (qA f g):=PA.imp (yG h h2 hs) fun s H Q ⟨b,r,st,S,R,P⟩ =>
 ⟨b,r,st,S,R,PostE.bindA P fun p s1 u H1 b1 e1 S1 r1 P1=>⟨b1,r,s1,S1,R.ext e1,PostA.bindA P1 fun ps s2 us H2 b2 e2 S2 r2 P2=>P2 (u::us) H2 b2 (Ext.refl _ _) S2 (RVs.cons (RV.ext e2 p r1) r2)⟩⟩
def wY (g:FA):FE:=fun r st=>(g r st).bind fun ps s=>if ps.length≤sizeLine then .ok (.tup ps) s else .no
theorem Qn {g:FA} {x1} (h:VA X E es g):VE X E (.Tuple es x1 pos) (wY g):=PE.imp (qH9 h) fun s H Q ⟨b,r,st,S,R,P⟩ =>
 ⟨b,r,st,S,R,PostA.bind P fun ps s1 us H1 b1 e1 S1 r1 P1=>by
  split at P1
  ·rename_i hl;exact ⟨by rw [← r1.length];exact hl,fun p hp=>PostE.layT P1 S1 r1 hp⟩
  ·exact P1.elim⟩
def Qe (g:FA):FL:=fun r st=>(g r st).bind fun ps s=>if ps.length≤sizeLine then .ok ps s else .no
theorem PostA.bindN {K:W.Frag} {E:XK} {H:Hp} {b:Bz} {r:Rs (List PV)} {k:List PV->qC->Rs (List PV)} {Q:VK} {R:List V->Hp->Prop} (P:PostN K E H b (r.bind k) Q)
  (h:∀ p st v H1 b1,Ext H b H1 b1->SR K H1 b1 st->RVs K H1 b1 p v->PostN K E H1 b1 (k p st) Q->R v H1):PostA K E H b r R:=by
 cases r with
 |ok p st=>exact fun v H1 b1 e S r=>h p st v H1 b1 e S r (PostN.ext (show PostN K E H b (k p st) Q from P) e)
 |ex x st=>exact P
 |no=>exact P
theorem PostE.bindN {K:W.Frag} {E:XK} {H:Hp} {b:Bz} {r:Rs PV} {k:PV->qC->Rs (List PV)} {Q:VK} {R:VK} (P:PostN K E H b (r.bind k) Q)
  (h:∀ p st v H1 b1,Ext H b H1 b1->SR K H1 b1 st->RV K H1 b1 p v->PostN K E H1 b1 (k p st) Q->R v H1):PostE K E H b r R:=by
 cases r with
 |ok p st=>exact fun v H1 b1 e S r=>h p st v H1 b1 e S r (PostN.ext (show PostN K E H b (k p st) Q from P) e)
 |ex x st=>exact P
 |no=>exact P
theorem QD {g:FA} (h:VA X E es g):VN X E (.List es pos) (Qe g):=PE.imp (qIu h) fun s H Q ⟨b,r,st,S,R,P⟩ =>
 ⟨b,r,st,S,R,PostA.bindN P fun ps s1 us H1 b1 e1 S1 r1 P1=>by
  split at P1
  ·rename_i hl;exact ⟨by rw [← r1.length];exact hl,fun p hp=>PostN.lay P1 S1 r1 hp⟩
  ·exact P1.elim⟩
theorem qHW {K:W.Frag} {H:Hp} {b:Bz} {l:List PV} {xs:List V} {i:Int} {p:PV} (r:RVs K H b l xs) (h:atI l i=some p):∃ x,atI xs i=some x∧RV K H b p x:=by
 unfold atI at h ⊢
 rw [← r.length]
 cases q:ixN l.length i with
 |none=>rw [q] at h;cases h
 |some j=>rw [q] at h;exact r.get h
def gIx:PV->PV->qC->Rs PV:=fun p q st=>match q with
 | .int i=>match Wo st p with
  |some l=>match atI l i with
   |some z => .ok z st
   |none => .no
  |none => .no
 |_ => .no
theorem QC (ha:VE X E a fa) (hb:VE X E c fb) (hs:qCL c:=by exact fun _ _=>rfl):VE X E (.Subscript a c pos) (qM gIx fa fb):=PE.imp (qJ8 qJe ha hb hs) (JR fun H b st p q u v Q S rp rq P=>by
 unfold gIx at P
 split at P
 ·rename_i i
  unfold RV at rq
  split at P
  ·rename_i l e
   split at P
   ·rename_i z ez
    obtain ⟨x1,xs,h1,h2,h3⟩:=Z2 S rp e
    obtain ⟨x,h4,h5⟩:=qHW h3 ez
    rcases h2 with h2 |h2
    ·exact .inl ⟨x1,xs,i,x,h1,rq,h2,h4,PostE.here P S h5⟩
    ·exact .inr (.inl ⟨x1,xs,i,x,h1,rq,h2,h4,PostE.here P S h5⟩)
   ·exact P.elim
  ·exact P.elim
 ·exact P.elim)
def qH (g:List PV->qC->Rs PV) (t:FA):FE:=fun r st=>(t r st).bind fun ps s=>g ps s
def spG (K:W.Frag) (n:Nat) (g:List PV->qC->Rs PV):Sp:=fun vs H Q E=>vs.length=n ∧ ∃ b ps st,SR K H b st∧RVs K H b ps vs∧PostE K E H b (g ps st) Q
def qJT (X:Cx) (E:XK) (x:Str) (g:List PV->qC->Rs PV):Prop := ∀ (p pos:Pos) (e:Expr) (es:List Expr) (t:FA),VA X E (e::es) t->starEach (e::es) X.env=(false,eval e X.env)::starEach es X.env->(backTo pos (starEach es X.env)).any (·.1)=false->VE X E (.Call (.Name x p) (e::es) [] pos) (qH g t)
theorem qS {x:Str} {g:List PV->qC->Rs PV} {t:FA} {p:Pos} (hc:qJT X E x g) (ha:VA X E (e::es) t) (he:starEach (e::es) X.env=(false,eval e X.env)::starEach es X.env:=by rfl) (hpl:(backTo pos (starEach es X.env)).any (·.1)=false:=by rfl):VE X E (.Call (.Name x p) (e::es) [] pos) (qH g t):=hc p pos e es t ha he hpl
theorem qK3 {CX:CXT} {k n:Nat} {fa:Addr} {fd:FuncData} {ps:List Str} {x:Str} {g:List PV->qC->Rs PV} (F:FnOk X.prog X.w X.K X.mg X.base CX k fa fd ps (spG X.K ps.length g)) (hr:Room k X.A) (hg:Gl X x) (hm:X.mg x=some (.ref fa)) (hk:W.keepIn X.K (.ref fa)=true)
  (hb:Binds X.K fd ps []) (hx:ZN CX X E) (hlen:∀ l st,g l st ≠ .no->l.length=ps.length) (hdb:(x==("__debug__":Str))=false:=by decide):qJT X E x g:=fun p pos e es t ha he hpl =>
 PE.imp (qGj F hr hg hm hk hb .nil hx ha hdb he hpl) fun s H Q ⟨b,r,st,S,R,P⟩=>⟨b,r,st,S,R,PostA.bind P fun l s1 us H1 b1 e1 S1 r1 P1=>by
  have hne:g l s1 ≠ .no:=fun z=>by rw [z] at P1;exact P1
  rw [A6]
  exact ⟨by rw [← r1.length];exact hlen l s1 hne,b1,l,s1,S1,r1,P1⟩⟩
def yM (X:Cx) (E:XK) (t:List V->Hp->VK->Prop) (g:List PV->qC->Rs PV):Prop :=
 ∀ (H:Hp) (b:Bz) (st:qC) (ps:List PV) (vs:List V) (Q:VK),SR X.K H b st->RVs X.K H b ps vs->PostE X.K E H b (g ps st) Q->t vs H Q
theorem W1 {x:Str} {id:String} {t:List V->Hp->VK->Prop} {g:List PV->qC->Rs PV} {ta:FA} {p:Pos} (hc:zH X (.builtin id) t) (hG:yM X E t g) (hg:Gl X x) (hm:X.mg x=none) (hv:bootBuiltins x=some (.builtin id)) (ha:VA X E (e::es) ta) (hn:x ≠ "__name__" := by decide) (hdb:(x==("__debug__":Str))=false:=by decide)
  (he:starEach (e::es) X.env=(false,eval e X.env)::starEach es X.env:=by rfl) (hpl:(backTo pos (starEach es X.env)).any (·.1)=false:=by rfl):VE X E (.Call (.Name x p) (e::es) [] pos) (qH g ta) :=
 PE.imp (qFo hc hg hm hv ha hn hdb he hpl) fun s H Q ⟨b,r,st,S,R,P⟩=>⟨b,r,st,S,R,PostA.bind P fun l s1 us H1 b1 e1 S1 r1 P1=>hG H1 b1 s1 l us Q S1 r1 P1⟩
theorem jW {x:Str} {T:String} {t:List V->Hp->VK->Prop} {g:List PV->qC->Rs PV} {ta:FA} {p:Pos} (hc:zH X (.type T) t) (hG:yM X E t g) (hg:Gl X x) (hm:X.mg x=none) (hv:bootBuiltins x=some (.type T)) (ha:VA X E (e::es) ta) (hn:x ≠ "__name__" := by decide) (hdb:(x==("__debug__":Str))=false:=by decide)
  (he:starEach (e::es) X.env=(false,eval e X.env)::starEach es X.env:=by rfl) (hpl:(backTo pos (starEach es X.env)).any (·.1)=false:=by rfl):VE X E (.Call (.Name x p) (e::es) [] pos) (qH g ta) :=
 PE.imp (jO hc hg hm hv ha hn hdb he hpl) fun s H Q ⟨b,r,st,S,R,P⟩=>⟨b,r,st,S,R,PostA.bind P fun l s1 us H1 b1 e1 S1 r1 P1=>hG H1 b1 s1 l us Q S1 r1 P1⟩
theorem RVs.one {K:W.Frag} {H:Hp} {b:Bz} {p:PV} {vs:List V} (h:RVs K H b [p] vs):∃ v,vs=[v]∧RV K H b p v:=by
 unfold RVs at h
 obtain ⟨x,r,rfl,h2,h3⟩:=h
 unfold RVs at h3;subst h3
 exact ⟨x,rfl,h2⟩
theorem RVs.two {K:W.Frag} {H:Hp} {b:Bz} {p q:PV} {vs:List V} (h:RVs K H b [p,q] vs):∃ v w,vs=[v,w]∧RV K H b p v∧RV K H b q w:=by
 unfold RVs at h
 obtain ⟨x,r,rfl,h2,h3⟩:=h
 obtain ⟨y,rfl,h4⟩:=RVs.one h3
 exact ⟨x,y,rfl,h2,h4⟩
def WH:List PV->qC->Rs PV:=fun ps st=>match ps with
 |[p]=>match Wo st p with
  |some l => .ok (.int l.length) st
  |none => .no
 |_ => .no
theorem qI9:yM X E (fun xs H Q => ∃ p ys,xs=[.ref p]∧(SqL X.K H p ys∨SqT X.K H p ys)∧Q (.int ys.length) H) WH:=by
 intro H b st ps vs Q S r P
 unfold WH at P
 split at P
 ·rename_i p
  obtain ⟨v,rfl,r1⟩:=RVs.one r
  split at P
  ·rename_i l e
   obtain ⟨a,xs,rfl,h2,h3⟩:=Z2 S r1 e
   refine ⟨a,xs,rfl,h2,?_⟩
   rw [← h3.length]
   exact PostE.here P S wC
  ·exact P.elim
 ·exact P.elim
def wm:List PV->qC->Rs PV:=fun ps st=>match ps with
 |[p]=>match Wo st p with
  |some l => .ok (.tup l) st
  |none => .no
 |_ => .no
theorem qEZ:yM X E (fun xs H Q => ∃ p ys,xs=[.ref p]∧((SqL X.K H p ys ∧ ∀ l,H l=none->Q (.ref l) (upd H l (.tup ys)))∨(SqT X.K H p ys∧Q (.ref p) H))) wm:=by
 intro H b st ps vs Q S r P
 unfold wm at P
 split at P
 ·rename_i p
  obtain ⟨v,rfl,r1⟩:=RVs.one r
  split at P
  ·rename_i l e
   cases p with
   |tup m =>
    have e':m=l:=Am e
    subst e'
    have r0:=r1
    unfold RV at r1
    obtain ⟨a,xs,rfl,h2,h3⟩:=r1
    exact ⟨a,xs,rfl,.inr ⟨h2.sq,PostE.here P S r0⟩⟩
   |lst m =>
    obtain ⟨a,xs,rfl,h2,h3⟩:=wg S r1 e
    exact ⟨a,xs,rfl,.inl ⟨h2,fun p hp=>PostE.layT P S h3 hp⟩⟩
   |ref i =>
    obtain ⟨a,xs,rfl,h2,h3⟩:=wg S r1 e
    exact ⟨a,xs,rfl,.inl ⟨h2,fun p hp=>PostE.layT P S h3 hp⟩⟩
   |_=>cases e
  ·exact P.elim
 ·exact P.elim
def qEg:List PV->qC->Rs PV:=fun ps st=>match ps with
 |[.int i] => .ok (.int i) st
 |[.bl k] => .ok (.int (if k then 1 else 0)) st
 |_ => .no
theorem qJa:yM X E (fun xs H Q=>(∃ i,xs=[.int i]∧Q (.int i) H) ∨ ∃ k,xs=[.bl k]∧Q (.int (if k then 1 else 0)) H) qEg:=by
 intro H b st ps vs Q S r P
 unfold qEg at P
 split at P
 ·obtain ⟨v,rfl,r1⟩:=RVs.one r
  unfold RV at r1;subst r1
  exact .inl ⟨_,rfl,PostE.here P S wC⟩
 ·obtain ⟨v,rfl,r1⟩:=RVs.one r
  unfold RV at r1;subst r1
  exact .inr ⟨_,rfl,PostE.here P S wC⟩
 ·exact P.elim
def qDy:List PV->qC->Rs PV:=fun ps st=>match ps with
 |[.int i,.int j] => .ok (.int (if j > i then j else i)) st
 |_ => .no
def qFC:List PV->qC->Rs PV:=fun ps st=>match ps with
 |[.int i,.int j] => .ok (.int (if j < i then j else i)) st
 |_ => .no
theorem qI2:yM X E (fun xs H Q => ∃ i j,xs=[.int i,.int j]∧Q (.int (if j > i then j else i)) H) qDy:=by
 intro H b st ps vs Q S r P
 unfold qDy at P
 split at P
 ·obtain ⟨v,w,rfl,r1,r2⟩:=RVs.two r
  unfold RV at r1 r2;subst r1;subst r2
  exact ⟨_,_,rfl,PostE.here P S wC⟩
 ·exact P.elim
theorem qIX:yM X E (fun xs H Q => ∃ i j,xs=[.int i,.int j]∧Q (.int (if j < i then j else i)) H) qFC:=by
 intro H b st ps vs Q S r P
 unfold qFC at P
 split at P
 ·obtain ⟨v,w,rfl,r1,r2⟩:=RVs.two r
  unfold RV at r1 r2;subst r1;subst r2
  exact ⟨_,_,rfl,PostE.here P S wC⟩
 ·exact P.elim
def qHj:PV->qC->Rs (List PV):=fun p st=>match Wo st p with
 |some l => .ok l st
 |none => .no
def jk (f:FE):FL:=fun r st=>(f r st).bind qHj
theorem qGQ {p:Pos} (hg:Gl X "list") (hm:X.mg "list" = none) (hv:bootBuiltins "list" = some (.type "list")) (ha:VE X E e f)
  (he:starEach [e] X.env=(false,eval e X.env)::starEach [] X.env:=by rfl) (hpl:(backTo pos (starEach [] X.env)).any (·.1)=false:=by rfl):VN X E (.Call (.Name "list" p) [e] [] pos) (jk f) :=
 PE.imp (jO j8 hg hm hv (yG ha Yz he) (he:=he) (hpl:=hpl)) fun s H Q ⟨b,r,st,S,R,P⟩=>⟨b,r,st,S,R,PostE.bindN P fun q s1 u H1 b1 e1 S1 r1 P1=>by
  unfold qHj at P1
  split at P1
  ·rename_i l el
   obtain ⟨a,xs,rfl,h2,h3⟩:=Z2 S1 r1 el
   exact ⟨a,xs,rfl,h2,fun p hp=>PostN.lay P1 S1 h3 hp⟩
  ·exact P1.elim⟩
end
def Qq:FS:=fun r st => .nx r st
def qV (F G:FS):FS:=fun r st=>match F r st with
 | .nx r' st'=>G r' st'
 |o=>o
section
variable {X:Cx} {E:XK} {e a c d:Expr} {es:List Expr} {f fa fb fc:FE} {pos:Pos} {F G:FS} {s1:Stmt} {ss:List Stmt}
theorem QB:VSs X E [] Qq:=PSs.imp qHA fun D s H ⟨b,r,st,S,R,P⟩=>P s H b (Ext.refl _ _) S R
theorem PostS.seq {K:W.Frag} {E:XK} {H:Hp} {b:Bz} {o:RS} {G:FS} {D:Ends} (P:PostS K E H b (match o with | .nx r' st'=>G r' st' |o=>o) D):PostS K E H b o { D with nx:=rdS K E G D }:=by
 cases o with
 |nx r st=>exact fun s H' b' e S R=>⟨b',r,st,S,R,PostS.ext (show PostS K E H b (G r st) D from P) e⟩
 |rt p st=>exact P
 |bk p st=>exact P
 |ct p st=>exact P
 |ex x st=>exact P
 |no=>exact P
theorem qL (h1:VS X E s1 F) (h2:VSs X E ss G):VSs X E (s1::ss) (qV F G):=PSs.imp (qFD h1 h2) fun D s H ⟨b,r,st,S,R,P⟩=>⟨b,r,st,S,R,PostS.seq P⟩
theorem qP (h1:VS X E s1 F):VSs X E [s1] F:=qGC h1
def zR (f:FE):FS:=fun r st=>(f r st).bindS fun _ s => .nx r s
theorem Jl (h:VE X E e f) (hs:swapsWith e none pos.line X.env=pure false:=by rfl):VS X E (.Expr e pos) (zR f):=PS.imp (qCV h hs) fun D s H ⟨b,r,st,S,R,P⟩ =>
 ⟨b,r,st,S,R,PostE.bindS P fun p s1 u H1 b1 e1 S1 r1 P1=>P1 s H1 b1 (Ext.refl _ _) S1 (R.ext e1)⟩
def qf (f:FE):FS:=fun r st=>(f r st).bindS fun p s => .rt p s
theorem qa (h:VE X E e f):VS X E (.Return (some e) pos) (qf f):=PS.imp (qFq h) fun D s H ⟨b,r,st,S,R,P⟩ =>
 ⟨b,r,st,S,R,PostE.bindS P fun p s1 u H1 b1 e1 S1 r1 P1=>P1 u H1 b1 (Ext.refl _ _) S1 r1⟩
def Yy (f:FL):FS:=fun r st=>(f r st).bindS fun l s => .rt (.ref s.length) (s++[.l l])
def Q2 (t:FT) (F G:FS):FS:=fun r st=>(t r st).bindS fun k s=>if k=true then F r s else G r s
theorem Q1 {t:FT} {bs cs:List Stmt} (hc:VT X E e t) (ha:VSs X E bs F) (hb:VSs X E cs G):VS X E (.If e bs cs pos) (Q2 t F G):=PS.imp (qJ7 hc ha hb) fun D s H ⟨b,r,st,S,R,P⟩ =>
 ⟨b,r,st,S,R,PostT.bindS P fun k s1 H1 b1 e1 S1 P1=>by
  cases k with
  |true=>exact qDj ⟨b1,r,s1,S1,R.ext e1,P1⟩
  |false=>exact qDX ⟨b1,r,s1,S1,R.ext e1,P1⟩⟩
def qv (i:Nat) (f:FE):FS:=fun r st=>(f r st).bindS fun p s => .nx (r.set i (some p)) s
theorem q9 (i:Nat) {x:Str} {p':Pos} (hN:X.N.Nodup) (h:VE X E e f) (hi:X.N[i]? = some x:=by rfl) (hx:Loc X.env.scope x:=by first |exact Or.inl rfl |exact Or.inr rfl) (hs:swapsWith e (some (.Name x p')) pos.line X.env=pure false:=by rfl) (hf:X.fn x=true∨X.env.scope.names.lookup x=some .local:=by first |exact .inl rfl |exact .inr rfl |assumption) :
  VS X E (.Assign [.Name x p'] e pos) (qv i f):=PS.imp (qE7 hN hi hx h hs hf) fun D s H ⟨b,r,st,S,R,P⟩ =>
 ⟨b,r,st,S,R,PostE.bindS P fun p s1 u H1 b1 e1 S1 r1 P1=>P1 _ H1 b1 (Ext.refl _ _) S1 ((R.ext e1).set r1 i)⟩
def WQ (i:Nat) (f:FL):FS:=fun r st=>(f r st).bindS fun l s => .nx (r.set i (some (.ref s.length))) (s++[.l l])
theorem Ext.adopt {H H':Hp} {b b':Bz} {p:Addr} (e:Ext H b H' b') (hn:H p=none):Ext H b H' ⟨b'.b++[p],b'.z⟩:=by
 obtain ⟨n,hb,hh⟩:=e.more
 refine ⟨⟨⟨n++[p],by rw [hb,Ab],fun a ha => ?_⟩,e.zm,e.keep,e.dom⟩,e.same,e.hid,e.fz⟩
 rcases Ar.mp ha with ha |ha
 ·exact hh a ha
 ·rw [Ak.mp ha];exact hn
theorem PostN.bindS {K:W.Frag} {E:XK} {H:Hp} {b:Bz} {r:Rs (List PV)} {k:PV->qC->RS} {D:Ends} {R:VK} (P:PostS K E H b (r.bindS fun l s=>k (.ref s.length) (s++[.l l])) D)
  (h:∀ q st v H1 b1,Ext H b H1 b1->SR K H1 b1 st->RV K H1 b1 q v->PostS K E H1 b1 (k q st) D->R v H1):PostN K E H b r R:=by
 cases r with
 |ok l st =>
  intro p xs H' b' e hn hp hz S rs
  have e':=e.adopt hn
  have hl:b'.b.length=st.length:=S.len
  refine h (.ref st.length) (st++[.l l]) (.ref p) H' ⟨b'.b++[p],b'.z⟩ e' (S.slot (x := .l l) hz hp ⟨xs,rfl,rs⟩) ?_ (PostS.ext (show PostS K E H b (k (.ref st.length) (st++[.l l])) D from P) e')
  unfold RV
  exact ⟨p,rfl,by show (b'.b++[p])[st.length]? = some p;rw [← hl];simp⟩
 |ex x st=>exact P
 |no=>exact P
theorem yN (i:Nat) {f:FL} {x:Str} {p':Pos} (hN:X.N.Nodup) (h:VN X E e f) (hi:X.N[i]? = some x:=by rfl) (hx:Loc X.env.scope x:=by first |exact Or.inl rfl |exact Or.inr rfl) (hs:swapsWith e (some (.Name x p')) pos.line X.env=pure false:=by rfl) (hf:X.fn x=true∨X.env.scope.names.lookup x=some .local:=by first |exact .inl rfl |exact .inr rfl |assumption) :
  VS X E (.Assign [.Name x p'] e pos) (WQ i f):=PS.imp (qE7 hN hi hx h hs hf) fun D s H ⟨b,r,st,S,R,P⟩ =>
 ⟨b,r,st,S,R,PostN.bindS (k:=fun q s => .nx (r.set i (some q)) s) P fun p s1 u H1 b1 e1 S1 r1 P1=>P1 _ H1 b1 (Ext.refl _ _) S1 ((R.ext e1).set r1 i)⟩
theorem qCG {f:FL} (h:VN X E e f):VS X E (.Return (some e) pos) (Yy f):=PS.imp (qFq h) fun D s H ⟨b,r,st,S,R,P⟩ =>
 ⟨b,r,st,S,R,PostN.bindS (k:=fun q s => .rt q s) P fun p s1 u H1 b1 e1 S1 r1 P1=>P1 u H1 b1 (Ext.refl _ _) S1 r1⟩
abbrev FG:=PV->QO->Option QO
abbrev FGs:=List PV->QO->Option QO
def rdG (K:W.Frag) (g:FG):TG:=fun v s H Q => ∃ b r p st,SR K H b st∧REnv K H b r s∧RV K H b p v ∧ ∃ r',g p r=some r' ∧ ∀ s',REnv K H b r' s'->Q s' H
def qK5 (K:W.Frag) (g:FGs):TGs:=fun v s H Q => ∃ b r p st,SR K H b st∧REnv K H b r s∧RVs K H b p v ∧ ∃ r',g p r=some r' ∧ ∀ s',REnv K H b r' s'->Q s' H
abbrev VG (X:Cx) (e:Expr) (g:FG):Prop:=PG X e (rdG X.K g)
abbrev VGs (X:Cx) (e:List Expr) (g:FGs):Prop:=PGs X e (qK5 X.K g)
theorem PG.imp {X:Cx} {e:Expr} {t t':TG} (h:PG X e t) (i:∀ v s H Q,t' v s H Q->t v s H Q):PG X e t':=fun pins s σ H v u Q I r q=>h pins s σ H v u Q I r (i _ _ _ _ q)
theorem PGs.imp {X:Cx} {e:List Expr} {t t':TGs} (h:PGs X e t) (i:∀ v s H Q,t' v s H Q->t v s H Q):PGs X e t':=fun pins s σ H v u Q I r q=>h pins s σ H v u Q I r (i _ _ _ _ q)
def QY (i:Nat):FG:=fun p r=>some (r.set i (some p))
theorem QV (i:Nat) {x:Str} (hN:X.N.Nodup) (hi:X.N[i]? = some x:=by rfl) (hx:Loc X.env.scope x:=by first |exact Or.inl rfl |exact Or.inr rfl) (hf:X.fn x=true∨X.env.scope.names.lookup x=some .local:=by first |exact .inl rfl |exact .inr rfl |assumption):VG X (.Name x pos) (QY i) :=
 PG.imp (qHB hN hi hx hf) fun v s H Q ⟨b,r,p,st,S,R,rv,r',e,q⟩=>q _ (by cases e;exact R.set rv i)
def yz:FGs:=fun l r=>match l with
 |[]=>some r
 |_=>none
def wV (g:FG) (gs:FGs):FGs:=fun l r=>match l with
 |p::ps=>match g p r with
  |some r'=>gs ps r'
  |none=>none
 |[]=>none
theorem zl:VGs X [] yz:=PGs.imp qG9 fun v s H Q ⟨b,r,p,st,S,R,rv,r',e,q⟩=>by
 cases p with
 |nil=>unfold RVs at rv;subst rv;cases e;exact ⟨rfl,q s R⟩
 |cons _ _=>cases e
theorem Qs {g:FG} {gs:FGs} (h1:VG X e g) (h2:VGs X es gs) (hs:(assignEach (e::es) X.env).map (·.2)=assign e X.env::(assignEach es X.env).map (·.2):=by rfl):VGs X (e::es) (wV g gs) :=
 PGs.imp (qE9 h1 h2 hs) fun v s H Q ⟨b,r,p,st,S,R,rv,r',e,q⟩=>by
  cases p with
  |nil=>cases e
  |cons p ps =>
   unfold RVs at rv
   obtain ⟨x,xr,rfl,h3,h4⟩:=rv
   unfold wV at e
   dsimp only at e
   cases e2:g p r with
   |none=>rw [e2] at e;cases e
   |some r2 =>
    rw [e2] at e
    exact ⟨x,xr,rfl,b,r,p,st,S,R,h3,r2,e2,fun s' R'=>⟨b,r2,ps,st,S,R',h4,r',e,q⟩⟩
def yj (n:Nat) (gs:FGs):FG:=fun p r=>match p with
 | .tup l=>if l.length=n then gs l r else none
 |_=>none
theorem Zm {k:Nat} {n:Nat} {gs:FGs} (hc:X.calm=true) (h:VGs X es gs) (hn:(assignEach es X.env).length=n:=by rfl) (hst:(assignEach es X.env).findIdx? (·.1)=none:=by rfl):VG X (.Tuple es k pos) (yj n gs) :=
 PG.imp (qI3 hc h hn hst) fun v s H Q ⟨b,r,p,st,S,R,rv,r',e,q⟩=>by
  unfold yj at e
  split at e
  ·rename_i l
   split at e
   ·rename_i hl
    unfold RV at rv
    obtain ⟨a,xs,rfl,h2,h3⟩:=rv
    exact ⟨a,xs,rfl,h2.sq,by rw [← h3.length];exact hl,b,r,l,st,S,R,h3,r',e,q⟩
   ·cases e
  ·cases e
def j6 (f:FE) (g:FG):FS:=fun r st=>(f r st).bindS fun p s=>match g p r with
 |some r' => .nx r' s
 |none => .no
theorem qBv {g:FG} (h:VE X E e f) (hg:VG X d g) (hs:swapsWithSole [d] e pos.line X.env=pure false:=by rfl) (hw:swappedStores [d] e X.env=pure none:=by rfl)
  (h1:(assignEach [d] X.env).map (·.2)=[assign d X.env]:=by rfl):VS X E (.Assign [d] e pos) (j6 f g):=PS.imp (qFw h hg hs hw h1) fun D s H ⟨b,r,st,S,R,P⟩ =>
 ⟨b,r,st,S,R,PostE.bindS P fun p s1 u H1 b1 e1 S1 r1 P1=>by
  cases e2:g p r with
  |none=>rw [e2] at P1;exact P1.elim
  |some r'=>rw [e2] at P1;exact ⟨b1,r,p,s1,S1,R.ext e1,r1,r',e2,fun s' R'=>P1 s' H1 b1 (Ext.refl _ _) S1 R'⟩⟩
def jy (i j:Nat) (t:FA):FS:=fun r st=>(t r st).bindS fun l s=>match l with
 |[p,q] => .nx ((r.set i (some p)).set j (some q)) s
 |_ => .no
theorem qFM (i j:Nat) {x y:Str} {t:FA} {px py pt:Pos} {kt k2 pt2} (hc:X.calm=true) (hN:X.N.Nodup) (ha:VA X E [a,c] t) (hw:swappedStores [.Tuple [.Name x px,.Name y py] kt pt] (.Tuple [a,c] k2 pt2) X.env=pure (some [x,y]):=by rfl)
  (hi:X.N[i]? = some x:=by rfl) (hj:X.N[j]? = some y:=by rfl) (hij:i≠j:=by decide) (hx:X.env.scope.names.lookup x=some .local:=by rfl) (hy:X.env.scope.names.lookup y=some .local:=by rfl)
  (hs:swapsWithSole [.Tuple [.Name x px,.Name y py] kt pt] (.Tuple [a,c] k2 pt2) pos.line X.env=pure false:=by rfl):VS X E (.Assign [.Tuple [.Name x px,.Name y py] kt pt] (.Tuple [a,c] k2 pt2) pos) (jy i j t) :=
 PS.imp (qJO hc hN hi hj hij hx hy ha hw hs) fun D s H ⟨b,r,st,S,R,P⟩=>⟨b,r,st,S,R,PostA.bindS P fun l s1 us H1 b1 e1 S1 r1 P1=>by
  split at P1
  ·obtain ⟨u,v,rfl,h1,h2⟩:=RVs.two r1
   exact ⟨u,v,rfl,P1 _ H1 b1 (Ext.refl _ _) S1 (((R.ext e1).set h1 i).set h2 j)⟩
  ·exact P1.elim⟩
def Wj (st:qC) (o i v:PV):Option qC:=match o,i with
 | .ref n,.int k=>match st[n]? with
  |some (.l xs)=>match ixN xs.length k with
   |some j=>some (st.set n (.l (xs.set j v)))
   |none=>none
  |_=>none
 |_,_=>none
def qEO (fo fi f:FE):FS:=fun r st=>(f r st).bindS fun p s1=>(fo r s1).bindS fun o s2=>(fi r s2).bindS fun i s3=>match Wj s3 o i p with
 |some s4 => .nx r s4
 |none => .no
theorem yB {K:W.Frag} {H:Hp} {b:Bz} {st st':qC} {o i p:PV} {ov iv v:V} {Q:Hp->Prop} (S:SR K H b st) (ro:RV K H b o ov) (ri:RV K H b i iv) (rp:RV K H b p v) (e:Wj st o i p=some st')
  (q:∀ H' b',Ext H b H' b'->SR K H' b' st'->Q H'):qHi ov iv v H Q:=by
 unfold Wj at e
 split at e
 ·rename_i n k
  split at e
  ·rename_i xs e1
   split at e
   ·rename_i j e2
    cases e
    unfold RV at ro ri
    obtain ⟨a,rfl,ha⟩:=ro
    obtain ⟨a',o',h1,h2,vs,rfl,h4⟩:=S.at_ n _ e1
    rw [ha] at h1;cases h1
    have hm:a∈b.b:=Aw ha
    refine ⟨a,vs,k,j,rfl,ri,h2,by rw [← h4.length];exact e2,q _ b (Ext.wr hm S.zb (qF4 h2)) (S.wr (x := .l (xs.set j p)) ha ⟨_,rfl,?_⟩)⟩
    have ew:Ext H b (upd H a (.lst (vs.set j v))) b:=Ext.wr hm S.zb (qF4 h2)
    exact RVs.set (RV.ext ew p rp) j (RVs.ext ew xs h4)
   ·cases e
  ·cases e
 ·cases e
theorem qJb {fo fi:FE} {o i:Expr} {tpos:Pos} (ho:VE X E o fo) (hi:VE X E i fi) (h:VE X E e f)
  (hs:swapsWithSole [.Subscript o i tpos] e pos.line X.env=pure false:=by rfl) (hw:swappedStores [.Subscript o i tpos] e X.env=pure none:=by rfl) (h1:(assignEach [.Subscript o i tpos] X.env).map (·.2)=[assign (.Subscript o i tpos) X.env]:=by rfl)
  (ha:∀ v,assign (.Subscript o i tpos) X.env v=(do
   let ov ← holding [v] (eval o X.env)
   let iv ← holding [v,ov] (eval i X.env)
   standAt tpos
   holding [v,ov,iv] (setItem ov iv v)
   release [v,ov,iv] []):=by intro _;rfl):VS X E (.Assign [.Subscript o i tpos] e pos) (qEO fo fi f) :=
 PS.imp (qFw h (qBi ho hi Z3 ha) hs hw h1) fun D s H ⟨b,r,st,S,R,P⟩=>⟨b,r,st,S,R,PostE.bindS P fun p s1 u H1 b1 e1 S1 r1 P1 =>
  ⟨b1,r,s1,S1,R.ext e1,PostE.bindS P1 fun o s2 ou H2 b2 e2 S2 r2 P2=>⟨b2,r,s2,S2,(R.ext e1).ext e2,PostE.bindS P2 fun i s3 iu H3 b3 e3 S3 r3 P3=>by
   split at P3
   ·rename_i s4 e4
    exact yB S3 (RV.ext e3 o r2) r3 (RV.ext e3 p (RV.ext e2 p r1)) e4 fun H' b' e' S'=>P3 s H' b' e' S' ((((R.ext e1).ext e2).ext e3).ext e')
   ·exact P3.elim⟩⟩⟩
structure ItP where
 l:List PV
 G:qC->Prop
def yx (K:W.Frag) (H0:Hp) (b0:Bz) (J:It) (w:ItP):Prop := ∀ H1 b1 st1,WE H0 b0 H1 b1->SR K H1 b1 st1->w.G st1 ->
 (∀ (i:Nat) (p:PV),w.l[i]? = some p->J.go i H1 ∧ ∀ x H2,J.yld i H1 x H2->Same H1 H2∧SR K H2 b1 st1∧RV K H2 b1 p x) ∧ ∀ i,w.l.length≤i->J.stop i H1
def PostI (K:W.Frag) (E:XK) (H:Hp) (b:Bz) (r:Rs ItP) (R:It->Hp->Prop):Prop:=match r with
 | .ok w st => ∀ J H' b',Ext H b H' b'->SR K H' b' st->yx K H' b' J w->R J H'
 | .ex x st=>XP K E H b x st
 | .no=>False
abbrev FI:=QO->qC->Rs ItP
def rdI (K:W.Frag) (E:XK) (f:FI):TI:=fun s H R => ∃ b r st,SR K H b st∧REnv K H b r s∧PostI K E H b (f r st) R
abbrev VI (X:Cx) (E:XK) (tg e:Expr) (f:FI):Prop:=PI X tg e (rdI X.K E f)
theorem PostI.ext {K:W.Frag} {E:XK} {H H1:Hp} {b b1:Bz} {r:Rs ItP} {R:It->Hp->Prop} (h:PostI K E H b r R) (e:Ext H b H1 b1):PostI K E H1 b1 r R:=by
 cases r with
 |ok p st=>exact fun J H' b' e'=>h J H' b' (e.trans e')
 |ex x st=>exact XP.ext h e
 |no=>exact h
theorem PostE.bindI {K:W.Frag} {E:XK} {H:Hp} {b:Bz} {r:Rs PV} {k:PV->qC->Rs ItP} {Q:It->Hp->Prop} {R:VK} (P:PostI K E H b (r.bind k) Q)
  (h:∀ p st v H1 b1,Ext H b H1 b1->SR K H1 b1 st->RV K H1 b1 p v->PostI K E H1 b1 (k p st) Q->R v H1):PostE K E H b r R:=by
 cases r with
 |ok p st=>exact fun v H1 b1 e S r=>h p st v H1 b1 e S r (PostI.ext (show PostI K E H b (k p st) Q from P) e)
 |ex x st=>exact P
 |no=>exact P
theorem PostA.bindI {K:W.Frag} {E:XK} {H:Hp} {b:Bz} {r:Rs (List PV)} {k:List PV->qC->Rs ItP} {Q:It->Hp->Prop} {R:List V->Hp->Prop} (P:PostI K E H b (r.bind k) Q)
  (h:∀ p st v H1 b1,Ext H b H1 b1->SR K H1 b1 st->RVs K H1 b1 p v->PostI K E H1 b1 (k p st) Q->R v H1):PostA K E H b r R:=by
 cases r with
 |ok p st=>exact fun v H1 b1 e S r=>h p st v H1 b1 e S r (PostI.ext (show PostI K E H b (k p st) Q from P) e)
 |ex x st=>exact P
 |no=>exact P
def qGZ (p:PV) (st:qC):Rs ItP:=match p with
 | .ref i=>match asL st (.ref i) with
  |some l => .ok ⟨l,fun s=>s[i]? = some (.l l)⟩ st
  |none => .no
 |p=>match Wo st p with
  |some l => .ok ⟨l,fun _=>True⟩ st
  |none => .no
def QA (f:FE):FI:=fun r st=>(f r st).bind qGZ
theorem qJC {l tg:Expr} {tl:TE} (hl:PE X l tl):PI X tg l (fun σ H R=>tl σ H fun x H1 => ∃ a,x = .ref a∧(((∃ xs,SqL X.K H1 a xs)∧R (Itl X.K a) H1)∨((∃ xs,SqT X.K H1 a xs)∧R (Itt X.K a) H1))):=by
 intro pins s σ H R I h
 refine thn (hl pins s σ H _ I h) fun v s1 ⟨x,H1,I1,r1,q1⟩ => ?_
 obtain ⟨a,e,q⟩:=q1
 subst e
 cases r1
 rcases q with ⟨⟨xs,hq⟩,q⟩ |⟨⟨xs,hq⟩,q⟩
 ·obtain ⟨its,rv,p,hz⟩:=I1.list hq
  refine wpAny_pyIter_list p.isList ?_
  refine ⟨s1.heap.objs.size,[s1.heap.objs.size],_,_,H1,rfl,I1.kept (t':=s1.toks) fun b o e=>AC _ e,qDE a _,⟨_,AV _ rfl,rfl,rfl⟩,fun b hb => ?_,q⟩
  have e:b=s1.heap.objs.size:=by simpa using hb
  subst e
  exact I1.fpOk (AL _) (I1.hok.fresh (AL _))
 ·obtain ⟨its,rv,p,hz⟩:=I1.tuple hq
  refine Cj (show s1.heap.IsTuple a its.toArray from p) ?_
  refine ⟨s1.heap.objs.size,[s1.heap.objs.size],_,_,H1,rfl,I1.kept (t':=s1.toks) fun b o e=>AC _ e,qBh a _,⟨_,AV _ rfl,rfl,rfl⟩,fun b hb => ?_,q⟩
  have e:b=s1.heap.objs.size:=by simpa using hb
  subst e
  exact I1.fpOk (AL _) (I1.hok.fresh (AL _))
theorem jX {K:W.Frag} {H0:Hp} {b0:Bz} {a:Addr} {l:List PV} {G:qC->Prop}
  (h:∀ H1 b1 st1,WE H0 b0 H1 b1->SR K H1 b1 st1->G st1 -> ∃ xs,SqL K H1 a xs∧RVs K H1 b1 l xs):yx K H0 b0 (Itl K a) ⟨l,G⟩:=by
 intro H1 b1 st1 e S g
 obtain ⟨xs,hq,r⟩:=h H1 b1 st1 e S g
 refine ⟨fun i p hp => ?_,fun i hi=>⟨xs,hq,by rw [← r.length];exact hi⟩⟩
 obtain ⟨x,hx,rx⟩:=r.get hp
 exact ⟨⟨xs,x,hq,hx⟩,fun y H2 ⟨e2,hy⟩=>by
  subst e2
  have:=hy xs hq
  rw [hx] at this;cases this
  exact ⟨Same.refl _,S,rx⟩⟩
theorem qE5 {K:W.Frag} {H0:Hp} {b0:Bz} {a:Addr} {l:List PV} {G:qC->Prop}
  (h:∀ H1 b1 st1,WE H0 b0 H1 b1->SR K H1 b1 st1->G st1 -> ∃ xs,SqT K H1 a xs∧RVs K H1 b1 l xs):yx K H0 b0 (Itt K a) ⟨l,G⟩:=by
 intro H1 b1 st1 e S g
 obtain ⟨xs,hq,r⟩:=h H1 b1 st1 e S g
 refine ⟨fun i p hp => ?_,fun i hi=>⟨xs,hq,by rw [← r.length];exact hi⟩⟩
 obtain ⟨x,hx,rx⟩:=r.get hp
 exact ⟨⟨xs,x,hq,hx⟩,fun y H2 ⟨e2,hy⟩=>by
  subst e2
  have:=hy xs hq
  rw [hx] at this;cases this
  exact ⟨Same.refl _,S,rx⟩⟩
theorem wE {tg:Expr} (h:VE X E e f):VI X E tg e (QA f):=fun pins s σ H R I q=>qJC h pins s σ H R I (by
 obtain ⟨b,r,st,S,RE,P⟩:=q
 refine ⟨b,r,st,S,RE,PostE.bindI P fun p s1 u H1 b1 e1 S1 r1 P1 => ?_⟩
 unfold qGZ at P1
 split at P1
 ·rename_i i
  split at P1
  ·rename_i l el
   have r0:=r1
   unfold RV at r1
   obtain ⟨a,rfl,ha⟩:=r1
   obtain ⟨a',xs,e2,hq,hr⟩:=wg S1 r0 el
   cases e2
   refine ⟨a,rfl,.inl ⟨⟨xs,hq⟩,P1 _ H1 b1 (Ext.refl _ _) S1 (jX fun H2 b2 st2 e2 S2 g2 => ?_)⟩⟩
   obtain ⟨a'',o,k1,k2,vs,rfl,k4⟩:=S2.at_ i _ g2
   rw [e2.ix ha] at k1;cases k1
   exact ⟨vs,SqL.of k2,k4⟩
  ·exact P1.elim
 ·split at P1
  ·rename_i l el
   cases p with
   |tup m =>
    have em:m=l:=Am el
    subst em
    unfold RV at r1
    obtain ⟨a,xs,rfl,h2,h3⟩:=r1
    exact ⟨a,rfl,.inr ⟨⟨xs,h2.sq⟩,P1 _ H1 b1 (Ext.refl _ _) S1 (qE5 fun H2 b2 st2 e2 S2 _=>⟨xs,(h2.wext e2).sq,RVs.wext e2 m h3⟩)⟩⟩
   |lst m =>
    have em:m=l:=Am el
    subst em
    unfold RV at r1
    obtain ⟨a,xs,rfl,h2,h3⟩:=r1
    exact ⟨a,rfl,.inl ⟨⟨xs,h2.sq⟩,P1 _ H1 b1 (Ext.refl _ _) S1 (jX fun H2 b2 st2 e2 S2 _=>⟨xs,(h2.wext e2).sq,RVs.wext e2 m h3⟩)⟩⟩
   |ref i=>rename_i hx;exact (hx i rfl).elim
   |_=>cases el
  ·exact P1.elim)
def J5 (lo hi:Int):List PV:=(List.range (hi - lo).toNat).map fun (i:Nat)=>PV.int (lo + (i:Int))
def JT (l:List PV) (st:qC):Rs ItP:=match l with
 |[.int j]=>if -(2 ^ 62)≤j∧j < 2 ^ 62 then .ok ⟨J5 0 j,fun _=>True⟩ st else .no
 |_ => .no
theorem qEB {K:W.Frag} {H0:Hp} {b0:Bz} {lo hi:Int}:yx K H0 b0 (Itr lo (hi - lo).toNat) ⟨J5 lo hi,fun _=>True⟩:=by
 intro H1 b1 st1 e S g
 have hl:(J5 lo hi).length=(hi - lo).toNat:=by simp [J5]
 refine ⟨fun i p hp => ?_,fun i hi'=>by rw [show (ItP.mk (J5 lo hi) fun _=>True).l.length=(hi - lo).toNat from hl] at hi';exact hi'⟩
 have hi':i < (hi - lo).toNat:=by
  have:=(AQ.mp hp).1
  rw [← hl];exact this
 unfold J5 at hp
 dsimp only at hp
 rw [Ao,CA hi'] at hp
 cases hp
 exact ⟨hi',fun x H2 ⟨e1,e2⟩=>by subst e1;subst e2;exact ⟨Same.refl _,S,wC⟩⟩
def QM (t:FA):FI:=fun r st=>(t r st).bind JT
theorem qq {tg:Expr} {t:FA} {p:Pos} (hg:Gl X "range") (hm:X.mg "range" = none) (ha:VA X E [a] t) (hs:starEach [a] X.env=[(false,eval a X.env)]:=by rfl):VI X E tg (.Call (.Name "range" p) [a] [] pos) (QM t):=fun pins s σ H R I q=>qDp hg hm ha hs pins s σ H R I (by
 obtain ⟨b,r,st,S,RE,P⟩:=q
 refine ⟨b,r,st,S,RE,PostA.bindI P fun l s1 us H1 b1 e1 S1 r1 P1 => ?_⟩
 unfold JT at P1
 split at P1
 ·obtain ⟨u,rfl,h1⟩:=RVs.one r1
  unfold RV at h1;subst h1
  split at P1
  ·rename_i j hj
   refine ⟨j,rfl,hj.1,hj.2,?_⟩
   have:=P1 (Itr 0 (j - 0).toNat) H1 b1 (Ext.refl _ _) S1 qEB
   rw [Int.sub_zero] at this
   exact this
  ·exact P1.elim
 ·exact P1.elim)
theorem PSs.unbare {X:Cx} {st:List Stmt} {t:TS} (h:PSs X.nox st t) {pins:List (Addr×Obj)} {s:Shared} {σ:L2.St} {H:Hp} {D:Ends} {E:Value->Shared->Prop} (I:L2.Inv X pins σ H s) (q:t D σ H):wpAny (model X.prog X.w) X.A (execs st X.env) (SP X pins D) E s :=
 wpAny_noRaise (thn (h pins s σ H D (I.wish _) q) fun f s' hs=>hs.unwish)
theorem PG.unbare {X:Cx} {tg:Expr} {t:TG} (h:PG X.nox tg t) {pins:List (Addr×Obj)} {s:Shared} {σ:L2.St} {H:Hp} {v:V} {u:Value} {Q:L2.St->Hp->Prop} {E:Value->Shared->Prop} (I:L2.Inv X pins σ H s) (r:RelV v u) (q:t v σ H Q):wpAny (model X.prog X.w) X.A (assign tg X.env u) (fun _ s' => ∃ σ' H',L2.Inv X pins σ' H' s'∧Q σ' H') E s :=
 wpAny_noRaise (thn (h pins s σ H v u Q (I.wish _) r q) fun f s' ⟨σ',H',I',q'⟩=>⟨σ',H',I'.unwish,q'⟩)
theorem qHC {tg iter:Expr} {body:List Stmt} {wi:TI} {g:TG} {tb:TS} {pos:Pos} (hi:PI X tg iter wi) (hg:PG X.nox tg g) (hb:PSs X.nox body tb)
  (hs:∀ x,foldedSetIterable iter X.env x=pure x:=by intro _;rfl):PS X (.For tg iter body [] pos) (qLI wi g tb):=by
 intro pins s σ H D I h
 refine wpAny_For (thn (hi pins s σ H _ I h) fun v s1 h1=>thn h1 fun itv s2 h2 => ?_) hs
 obtain ⟨it,fp,tn,J,H2,e,I2,T,st2,f2,W,⟨m0,w0⟩,turn⟩:=h2
 subst e
 have stat:∀ {H':Hp},(∀ b∈fp,H' b=none) -> ∀ b∈fp,Zg X pins H' b:=fun hn b hb=>⟨hn b hb,(f2 b hb).2⟩
 refine codeAny_forLoop_any (fun n s' => ∃ i σ' H',L2.Inv X pins σ' H' s'∧tn i s'.heap∧(∀ b∈fp,H' b=none)∧W i n σ' H') ?_ m0 ⟨0,σ,H2,I2,st2,fun b hb=>(f2 b hb).1,w0⟩
 rintro n s3 ⟨i,σ3,H3,I3,st3,fr3,w3⟩
 rcases turn i n σ3 H3 w3 with ⟨stop,qn⟩ |⟨go,N,hN,step⟩
 ·refine thn (T.done X rfl rfl rfl rfl i pins s3 σ3 H3 _ I3 (stat fr3) st3 stop) fun r s4 ⟨hr,I4⟩ => ?_
  subst hr
  exact wpAny_execs_nil ⟨σ3,H3,I4,qn⟩
 ·refine thn (T.item X rfl rfl rfl rfl i pins s3 σ3 H3 _ I3 (stat fr3) st3 go) fun r s4 ⟨u,hr,h4⟩ => ?_
  subst hr
  refine thn h4 fun _ s5 ⟨x,H5,I5,r5,y5,st5,fr5⟩ => ?_
  have I5':=I5.pinned (stat fr5) (T.obj _ _ st5)
  refine thn (PG.unbare hg I5' r5 (step x H5 y5)) fun _ s6 ⟨σ6,H6,I6,q6⟩ => ?_
  refine thn (PSs.unbare hb I6 q6) fun f s7 q7 => ?_
  have again:∀ {σ7:L2.St} {H7:Hp},L2.Inv X (pins++Zj fp s5.heap) σ7 H7 s7->N σ7 H7 -> ∃ m,m < n ∧ ∃ i σ' H',L2.Inv X pins σ' H' s7∧tn i s7.heap∧(∀ b∈fp,H' b=none)∧W i m σ' H':=fun {σ7 H7} I7 n7=>by
   obtain ⟨m',hm,w7⟩:=hN σ7 H7 n7
   refine ⟨m',hm,i + 1,σ7,H7,I7.unpinned,T.keep _ _ _ st5 fun b hb o e=>(I7.pin (b,o) (BB _ (BB _ (zt hb e)))).1,fun b hb => ?_,w7⟩
   obtain ⟨o,e,d⟩:=T.obj _ _ st5 b hb
   exact (I7.pin (b,o) (BB _ (BB _ (zt hb e)))).2.1
  cases f with
  |next=>obtain ⟨σ7,H7,I7,n7⟩:=q7;exact again I7 n7
  |cont=>obtain ⟨σ7,H7,I7,n7⟩:=q7;exact again I7 n7
  |brk=>obtain ⟨σ7,H7,I7,q7⟩:=q7;exact ⟨σ7,H7,I7.unpinned,q7⟩
  |ret v=>obtain ⟨x7,σ7,H7,I7,r7,q7⟩:=q7;exact ⟨x7,σ7,H7,I7.unpinned,r7,q7⟩
open Classical in
noncomputable def Qo (G:qC->Prop) (g:FG) (F:FS):List PV->QO->qC->RS
 |[],r,st=>if G st then .nx r st else .no
 |p::ps,r,st=>if G st then
   match g p r with
   |none => .no
   |some r1=>match F r1 st with
    | .nx r2 s2=>Qo G g F ps r2 s2
    | .ct r2 s2=>Qo G g F ps r2 s2
    | .bk r2 s2 => .nx r2 s2
    | .rt v s2 => .rt v s2
    | .ex _ _ => .no
    | .no => .no
  else .no
noncomputable def WN (fi:FI) (g:FG) (F:FS):FS:=fun r st=>(fi r st).bindS fun w s=>Qo w.G g F w.l r s
theorem PostI.bindS {K:W.Frag} {E:XK} {H:Hp} {b:Bz} {r:Rs ItP} {k:ItP->qC->RS} {D:Ends} {R:It->Hp->Prop} (P:PostS K E H b (r.bindS k) D)
  (h:∀ w st J H1 b1,Ext H b H1 b1->SR K H1 b1 st->yx K H1 b1 J w->PostS K E H1 b1 (k w st) D->R J H1):PostI K E H b r R:=by
 cases r with
 |ok p st=>exact fun J H1 b1 e S r=>h p st J H1 b1 e S r (PostS.ext (show PostS K E H b (k p st) D from P) e)
 |ex x st=>exact P
 |no=>exact P
theorem WD {tg iter:Expr} {body:List Stmt} {fi:FI} {g:FG} (hi:VI X E tg iter fi) (hg:VG X.nox tg g) (hb:VSs X.nox E0 body F) (hs:∀ x,foldedSetIterable iter X.env x=pure x:=by intro _;rfl):VS X E (.For tg iter body [] pos) (WN fi g F):=by
 refine PS.imp (qHC hi hg hb hs) fun D s H ⟨b,r,st,S,R,P⟩ => ?_
 refine ⟨b,r,st,S,R,PostI.bindS P fun w st1 J H1 b1 e1 S1 it P1 => ?_⟩
 refine ⟨fun i m σ' H' => ∃ b2 r2 st2,Ext H1 b1 H' b2∧SR X.K H' b2 st2∧REnv X.K H' b2 r2 σ'∧m=w.l.length + 1 - i∧i≤w.l.length∧PostS X.K E H' b2 (Qo w.G g F (w.l.drop i) r2 st2) D,⟨w.l.length + 1,b1,r,st1,Ext.refl _ _,S1,R.ext e1,by omega,BJ _,by simpa using P1⟩,?_⟩
 rintro i m σ' H' ⟨b2,r2,st2,e2,S2,R2,hm,hi',P2⟩
 by_cases hlt:i < w.l.length
 ·have hd:w.l.drop i=w.l[i]::w.l.drop (i + 1):=List.drop_eq_getElem_cons hlt
  rw [hd] at P2
  unfold Qo at P2
  by_cases hG:w.G st2
  ·rw [AG hG] at P2
   obtain ⟨h1,h2⟩:=it H' b2 st2 e2.toWE S2 hG
   obtain ⟨go,yl⟩:=h1 i w.l[i] (AE hlt)
   refine .inr ⟨go,fun σ3 H3 => ∃ b3 r3 st3,Ext H1 b1 H3 b3∧SR X.K H3 b3 st3∧REnv X.K H3 b3 r3 σ3∧PostS X.K E H3 b3 (Qo w.G g F (w.l.drop (i + 1)) r3 st3) D,?_,?_⟩
   ·rintro σ3 H3 ⟨b3,r3,st3,k1,k2,k3,k4⟩
    exact ⟨w.l.length + 1 - (i + 1),by omega,b3,r3,st3,k1,k2,k3,rfl,hlt,k4⟩
   ·intro x H3 hx
    obtain ⟨e3',S3,r3⟩:=yl x H3 hx
    have e3:Ext H' b2 H3 b2:=Ext.of_same e3'
    cases eg:g w.l[i] r2 with
    |none=>rw [eg] at P2;exact P2.elim
    |some r4 =>
     rw [eg] at P2
     refine ⟨b2,r2,w.l[i],st2,S3,R2.ext e3,r3,r4,eg,fun s4 R4=>⟨b2,r4,st2,S3,R4,?_⟩⟩
     have P3:=PostS.ext P2 e3
     dsimp only at P3
     have e13:=e2.trans e3
     cases eF:F r4 st2 with
     |nx r5 s5=>rw [eF] at P3;exact fun s6 H6 b6 e6 S6 R6=>⟨b6,r5,s5,e13.trans e6,S6,R6,PostS.ext P3 e6⟩
     |ct r5 s5=>rw [eF] at P3;exact fun s6 H6 b6 e6 S6 R6=>⟨b6,r5,s5,e13.trans e6,S6,R6,PostS.ext P3 e6⟩
     |bk r5 s5=>rw [eF] at P3;exact P3
     |rt v s5=>rw [eF] at P3;exact P3
     |ex x s5=>rw [eF] at P3;exact P3.elim
     |no=>rw [eF] at P3;exact P3.elim
  ·rw [AN hG] at P2;exact P2.elim
 ·have hl:i=w.l.length:=by omega
  subst hl
  rw [List.drop_length] at P2
  unfold Qo at P2
  by_cases hG:w.G st2
  ·rw [AG hG] at P2
   obtain ⟨h1,h2⟩:=it H' b2 st2 e2.toWE S2 hG
   exact .inl ⟨h2 _ (AL _),P2 σ' H' b2 (Ext.refl _ _) S2 R2⟩
  ·rw [AN hG] at P2;exact P2.elim
end
theorem Qi {x n:Str} {a c:Addr} {r:List (Str×Addr)} (h:List.lookup x ((n,a)::r)=some c):(x=n∧a=c)∨(x≠n∧List.lookup x r=some c):=by
 rw [A4] at h
 cases hb:x==n with
 |true=>rw [hb] at h;exact .inl ⟨B4.mp hb,Am h⟩
 |false=>rw [hb] at h;exact .inr ⟨fun z=>(by rw [B4.mpr z] at hb;cases hb),h⟩
theorem wI {x:Str} {c:Addr}:∀ {names:List (Str×NameKind)} {n:Nat} {acc:List (Str×Addr)},(cellsFrom n names acc).lookup x=some c->(n≤c∧(x,NameKind.cell)∈names)∨acc.lookup x=some c
 |[],_,_,h => .inr h
 |(nm,k)::r,n,acc,h=>by
  unfold cellsFrom at h
  split at h
  ·rename_i hk
   have hk':k = .cell:=by simpa using hk
   rcases wI h with ⟨h1,h2⟩ |h1
   ·exact .inl ⟨Nat.le_of_succ_le h1,AD _ h2⟩
   ·rcases Qi h1 with ⟨e1,e2⟩ |⟨_,e2⟩
    ·exact .inl ⟨Nat.le_of_eq e2,by rw [e1,hk'];exact AI⟩
    ·exact .inr e2
  ·rcases wI h with ⟨h1,h2⟩ |h1
   ·exact .inl ⟨h1,AD _ h2⟩
   ·exact .inr h1
theorem zW {x:Str} {c:Addr} {n0:Nat}:∀ {names:List (Str×NameKind)} {n:Nat} {acc:List (Str×Addr)},n0≤n->((∃ a,acc.lookup x=some a∧n0≤a)∨(x,NameKind.cell)∈names)->(cellsFrom n names acc).lookup x=some c->n0≤c
 |[],_,acc,_,h,e=>by
  rcases h with ⟨a,h1,h2⟩ |h
  ·have:acc.lookup x=some c:=e
   rw [h1] at this;cases this;exact h2
  ·exact absurd h (by simp)
 |(nm,k)::r,n,acc,hn,h,e=>by
  unfold cellsFrom at e
  split at e
  ·rename_i hk
   refine zW (n:=n + 1) (Nat.le_succ_of_le hn) ?_ e
   by_cases hx:x=nm
   ·exact .inl ⟨n,by rw [A4,hx,At],hn⟩
   ·rcases h with ⟨a,h1,h2⟩ |h
    ·exact .inl ⟨a,by rw [A4,B2 hx];exact h1,h2⟩
    ·rcases AJ.mp h with q |q
     ·exact absurd (Cb q).1 hx
     ·exact .inr q
  ·rename_i hk
   refine zW hn ?_ e
   rcases h with h |h
   ·exact .inl h
   ·rcases AJ.mp h with q |q
    ·exact absurd (by rw [← (Cb q).2];rfl) hk
    ·exact .inr q
theorem zV {x y:Str} {c:Addr}:∀ {names:List (Str×NameKind)} {n:Nat} {acc:List (Str×Addr)},(∀ z a,acc.lookup z=some a->a < n)->(cellsFrom n names acc).lookup x=some c->(cellsFrom n names acc).lookup y=some c ->
  x=y∨(acc.lookup x=some c∧acc.lookup y=some c)
 |[],_,_,_,h1,h2 => .inr ⟨h1,h2⟩
 |(nm,k)::r,n,acc,hb,h1,h2=>by
  unfold cellsFrom at h1 h2
  split at h1
  ·rename_i hk
   rw [AG hk] at h2
   have hb':∀ z a,List.lookup z ((nm,n)::acc)=some a->a < n + 1:=fun z a h=>by
    rcases Qi h with ⟨_,e⟩ |⟨_,e⟩
    ·rw [← e];exact Nat.lt_succ_self _
    ·exact BE (hb z a e)
   rcases zV hb' h1 h2 with e |⟨e1,e2⟩
   ·exact .inl e
   ·rcases Qi e1 with ⟨p1,p2⟩ |⟨p1,p2⟩ <;> rcases Qi e2 with ⟨q1,q2⟩ |⟨q1,q2⟩
    ·exact .inl (p1.trans q1.symm)
    ·exact absurd (hb y c q2) (by rw [← p2];exact BZ _)
    ·exact absurd (hb x c p2) (by rw [← q2];exact BZ _)
    ·exact .inr ⟨p2,q2⟩
  ·rename_i hk
   rw [AN hk] at h2
   exact zV hb h1 h2
theorem We {x:Str}:∀ {names:List (Str×NameKind)} {n:Nat} {acc:List (Str×Addr)},((∃ a,acc.lookup x=some a)∨(x,NameKind.cell)∈names) -> ∃ c,(cellsFrom n names acc).lookup x=some c
 |[],_,_,h=>h.elim (fun h=>h) fun h=>absurd h (by simp)
 |(nm,k)::r,n,acc,h=>by
  unfold cellsFrom
  split
  ·rename_i hk
   refine We ?_
   by_cases hx:x=nm
   ·exact .inl ⟨n,by rw [A4,hx,At]⟩
   ·rcases h with ⟨a,h1⟩ |h
    ·exact .inl ⟨a,by rw [A4,B2 hx];exact h1⟩
    ·rcases AJ.mp h with q |q
     ·exact absurd (Cb q).1 hx
     ·exact .inr q
  ·rename_i hk
   refine We ?_
   rcases h with h |h
   ·exact .inl h
   ·rcases AJ.mp h with q |q
    ·exact absurd (by rw [← (Cb q).2];rfl) hk
    ·exact .inr q
theorem W6 {x:Str} {c:Addr}:∀ {names:List (Str×NameKind)} {h:Heap} {acc:List (Str×Addr)},(cellsFrom h.objs.size names acc).lookup x=some c->(∃ o,acc.lookup x=some c∧o=())∨(pushCells h names).IsCell c none
 |[],_,_,e => .inl ⟨(),e,rfl⟩
 |(nm,k)::r,h,acc,e=>by
  unfold cellsFrom at e
  unfold pushCells
  split at e
  ·rename_i hk
   rw [AG hk]
   have e':(cellsFrom (h.push { cls := .type "cell",data := .cell none }).objs.size r ((nm,h.objs.size)::acc)).lookup x=some c:=by rw [A8];exact e
   rcases W6 e' with ⟨_,q,_⟩ |q
   ·rcases Qi q with ⟨_,e2⟩ |⟨_,e2⟩
    ·subst e2
     exact .inr ⟨_,Cf _ _ _ _ (AV _ rfl),rfl⟩
    ·exact .inl ⟨(),e2,rfl⟩
   ·exact .inr q
  ·rename_i hk
   rw [AN hk]
   exact W6 e
def clF (env:Env):List (Str×NameKind)->List (Str×Addr)->List (Str×Addr)
 |[],acc=>acc
 |(n,k)::r,acc=>if k == .free then clF env r ((n,(env.cells.lookup n).getD 0)::acc) else clF env r acc
theorem qFh {env:Env} (f:Str×NameKind->List (Str×Addr)->Sem (ForInStep (List (Str×Addr))))
  (hf:∀ n k acc,f (n,k) acc=if k == .free then (do let a ← cellOf env n;pure (.yield ((n,a)::acc))) else pure (.yield acc)) :
  ∀ (names:List (Str×NameKind)) (acc:List (Str×Addr)),(∀ x∈names,x.2 = .free -> ∃ c,env.cells.lookup x.1=some c)->forIn names acc f=(pure (clF env names acc):Sem _)
 |[],acc,_=>by rw [List.forIn_nil];rfl
 |(n,k)::r,acc,h=>by
  rw [Cg,hf]
  unfold clF
  have ih:=fun a=>qFh f hf r a fun x hx=>h x (AD _ hx)
  split
  ·rename_i hk
   have hk':k = .free:=by simpa using hk
   obtain ⟨c,e⟩:=h (n,k) AI hk'
   have ec:cellOf env n=pure c:=by unfold cellOf;rw [show env.cells.lookup n=some c from e]
   rw [ec]
   simp only [pure_bind]
   rw [ih,show env.cells.lookup n=some c from e];rfl
  ·simp only [pure_bind]
   exact ih acc
theorem YU {scope:Scope} {env:Env} (h:∀ x∈scope.names,x.2 = .free -> ∃ c,env.cells.lookup x.1=some c):closureFor scope env=pure (clF env scope.names []):=by
 unfold closureFor
 dsimp only
 rw [qFh _ (fun n k acc=>by cases hk:k==NameKind.free <;> simp [hk]) _ _ h]
 rfl
theorem Y5 {env:Env} {x:Str} {c:Addr}:∀ {names:List (Str×NameKind)} {acc:List (Str×Addr)},(∀ y∈names,y.2 = .free -> ∃ c,env.cells.lookup y.1=some c)->(clF env names acc).lookup x=some c->env.cells.lookup x=some c∨acc.lookup x=some c
 |[],_,_,e => .inr e
 |(n,k)::r,acc,h,e=>by
  unfold clF at e
  have h':=fun y hy=>h y (AD _ hy)
  split at e
  ·rename_i hk
   have hk':k = .free:=by simpa using hk
   obtain ⟨a,ea⟩:=h (n,k) AI hk'
   rcases Y5 h' e with q |q
   ·exact .inl q
   ·rcases Qi q with ⟨e1,e2⟩ |⟨_,e2⟩
    ·rw [show env.cells.lookup n=some a from ea] at e2
     exact .inl (by rw [e1,show env.cells.lookup n=some a from ea];exact CH some e2)
    ·exact .inr e2
  ·exact Y5 h' e
theorem YR {env:Env} {x:Str}:∀ {names:List (Str×NameKind)} {acc:List (Str×Addr)},((x,NameKind.free)∈names ∨ ∃ a,acc.lookup x=some a) -> ∃ c,(clF env names acc).lookup x=some c
 |[],_,h=>h.elim (fun h=>absurd h (by simp)) fun h=>h
 |(n,k)::r,acc,h=>by
  unfold clF
  split
  ·refine YR ?_
   by_cases hx:x=n
   ·exact .inr ⟨_,by rw [A4,hx,At]⟩
   ·rcases h with h |⟨a,h⟩
    ·rcases AJ.mp h with q |q
     ·exact absurd (Cb q).1 hx
     ·exact .inl q
    ·exact .inr ⟨a,by rw [A4,B2 hx];exact h⟩
  ·rename_i hk
   refine YR ?_
   rcases h with h |h
   ·rcases AJ.mp h with q |q
    ·exact absurd (by rw [← (Cb q).2];rfl) hk
    ·exact .inl q
   ·exact .inr h
def qKv (X:Cx) (scope:Scope) (C:Addr):Env :=
 { scope:=relabel scope X.env,locals:=C,globals:=X.env.globals,cells:=cellsFrom (C + 1) scope.names (clF X.env scope.names []),qual:=X.env.qual,func:=none,code:=X.env.code,frame:=X.env.frame,builtins:=X.env.builtins }
def cCx (X:Cx) (scope:Scope) (N:List Str) (s:Shared) (H:Hp) (fp:List Addr) (pn:List (Addr×Obj)):Cx where
 prog:=X.prog
 w:=X.w
 K:=X.K
 mg:=X.mg
 base:=X.base
 A:=X.A
 N:=N
 s₀:=s
 H₀:=H
 env:=qKv X scope s.heap.objs.size
 outer:=X.stack
 stack:=X.stack
 ex:=fp
 fn:=fun x=>scope.names.lookup x==some .cell
 calm:=X.calm
 pn:=pn
 xe:=fun _ _=>False
structure CSc (X:Cx) (scope:Scope) (capN locN:List Str) (caps:List Nat):Prop where
 kind:scope.kind = .function
 nd:(scope.names.map (·.1)).Nodup
 fr:∀ x∈scope.names,x.2 = .free->(X.env.kindOf x.1=some .cell∨X.env.kindOf x.1=some .free)
 len:capN.length=caps.length
 cap:∀ (i:Nat) (x:Str) (j:Nat),capN[i]? = some x->caps[i]? = some j->X.N[j]? = some x∧(x,NameKind.free)∈scope.names
theorem W9 {x:Str} {k:NameKind}:∀ {names:List (Str×NameKind)},(names.map (·.1)).Nodup->(x,k)∈names->names.lookup x=some k
 |(n,k')::r,nd,h=>by
  rw [Ap,BM] at nd
  rw [A4]
  rcases AJ.mp h with q |q
  ·obtain ⟨rfl,rfl⟩:=Cb q
   rw [At]
  ·have hne:x≠n:=fun z=>nd.1 (by rw [← z];exact Al.mpr ⟨(x,k),q,rfl⟩)
   rw [B2 hne]
   exact W9 nd.2 q
theorem WF {env:Env} {x:Str}:∀ {names:List (Str×NameKind)},
  (names.map fun (n,k)=>if (k==NameKind.free&&env.scope.kind == .function&&env.kindOf n==some .cell) then (n,NameKind.cell) else (n,k)).lookup x=(names.lookup x).map fun k=>if (k==NameKind.free&&env.scope.kind == .function&&env.kindOf x==some .cell) then NameKind.cell else k
 |[]=>rfl
 |(n,k)::r=>by
  rw [Ap,A4]
  show List.lookup x ((if (k==NameKind.free&&env.scope.kind == .function&&env.kindOf n==some .cell)=true then (n,NameKind.cell) else (n,k))::_)=_
  cases hx:x==n with
  |true =>
   have hx':x=n:=B4.mp hx
   subst hx'
   by_cases hc:(k==NameKind.free&&env.scope.kind == .function&&env.kindOf x==some .cell)=true
   ·rw [AG hc]
    simp only [A4,At,CF]
    rw [AG hc]
   ·rw [AN hc]
    simp only [A4,At,CF]
    rw [AN hc]
  |false =>
   by_cases hc:(k==NameKind.free&&env.scope.kind == .function&&env.kindOf n==some .cell)=true
   ·rw [AG hc]
    simp only [A4,hx]
    exact WF
   ·rw [AN hc]
    simp only [A4,hx]
    exact WF
theorem YZ {X:Cx} {scope:Scope} {capN locN:List Str} {caps:List Nat} (cs:CSc X scope capN locN caps) {pins:List (Addr×Obj)} {σ:L2.St} {H:Hp} {s s4:Shared} {fp:List Addr} (I:L2.Inv X pins σ H s) (hf:∀ b∈fp,Zg X pins H b) (hlt:∀ b∈fp,b < s.heap.objs.size)
  (h4:s4={ s with heap:=pushCells (s.heap.push { cls := .type "dict",data := .dict #[] }) scope.names }) :
  L2.Inv (cCx X scope (capN++locN) s H fp (X.pn++pins)) [] ((caps.map fun j=>(σ[j]?).join)++List.replicate locN.length none) H s4:=by
 have hfree:∀ x∈scope.names,x.2 = .free -> ∃ c,X.env.cells.lookup x.1=some c:=fun x hx hk=>I.ok.has x.1 (cs.fr x hx hk)
 have keep:∀ b o,s.heap.get? b=some o->s4.heap.get? b=some o:=fun b o e=>by subst h4;exact Cf _ _ _ _ (AC _ e)
 have clook:∀ x c,(clF X.env scope.names []).lookup x=some c->X.env.cells.lookup x=some c:=fun x c e=>(Y5 hfree e).elim (fun q=>q) fun q=>by cases q
 have clt:∀ x c,(clF X.env scope.names []).lookup x=some c->c < s.heap.objs.size:=fun x c e=>by
  obtain ⟨v,q⟩:=I.cell x c (clook x c e)
  exact q.lt
 have cases':∀ x c,(cellsFrom (s.heap.objs.size + 1) scope.names (clF X.env scope.names [])).lookup x=some c->(s.heap.objs.size + 1≤c)∨(c < s.heap.objs.size∧X.env.cells.lookup x=some c):=fun x c e=>by
  rcases wI e with ⟨q,_⟩ |q
  ·exact .inl q
  ·exact .inr ⟨clt x c q,clook x c q⟩
 have isfree:∀ x,(X.env.kindOf x=some .cell∨X.env.kindOf x=some .free)->True:=fun _ _=>trivial
 refine ⟨⟨I.ok.mod,cs.kind,I.ok.glob,I.ok.blt,AL _,fun x y c h1 h2 => ?_,fun x hx => ?_,fun x c hx e => ?_,I.ok.hd,I.ok.frames,.inl rfl,fun b hb=>⟨AZ (hlt b hb),fun x c e => ?_⟩,fun b o e=>I.bs b o e,Aa I.ok.bsz I.sz,fun b o e hb => ?_,fun b hb hm => ?_,I.stack,I.stkFree⟩,
  by subst h4;rfl,by subst h4;exact I.bare,Un.kept keep,?_,fun x c e => ?_,I.hok.fresh (AL _),fun x c e => ?_,fun p hp => ?_,I.hok.kept keep,?_,I.hnd⟩
 ·rcases zV (fun z a e=>BE (clt z a e)) h1 h2 with e |⟨e1,e2⟩
  ·exact e
  ·exact I.ok.inj x y c (clook x c e1) (clook y c e2)
 ·refine We ?_
  have hx':(relabel scope X.env).names.lookup x=some .cell∨(relabel scope X.env).names.lookup x=some .free:=hx
  have e:(relabel scope X.env).names.lookup x=(scope.names.lookup x).map fun k=>if (k==NameKind.free&&X.env.scope.kind == .function&&X.env.kindOf x==some .cell) then NameKind.cell else k:=WF
  rw [e] at hx'
  cases q:scope.names.lookup x with
  |none=>rw [q] at hx';rcases hx' with z |z <;> cases z
  |some k =>
   rw [q] at hx'
   have hm:=Be q
   by_cases hk:k = .free
   ·subst hk
    exact .inl (YR (.inl hm))
   ·have hkf:(k==NameKind.free)=false:=by simpa using hk
    simp only [CF,hkf,Bool.false_and,BF,Bt] at hx'
    rcases hx' with z |z
    ·cases z;exact .inr hm
    ·cases z;exact absurd rfl hk
 ·have hx':scope.names.lookup x=some .cell:=by simpa [cCx] using hx
  exact Nat.le_of_succ_le (zW (n0:=s.heap.objs.size + 1) (AL _) (.inr (Be hx')) e)
 ·rcases cases' x c e with q |⟨q,q'⟩
  ·exact fun z=>by rw [z] at q;exact absurd (hlt b hb) (Nat.not_lt.mpr (Nat.le_of_succ_le q))
  ·exact (hf b hb).2.2.2.2.1 x c q'
 ·obtain ⟨_,_,_,h3,_⟩:=hf b hb
  rcases h3 with q |q
  ·exact I.ok.noex b o e q
  ·exact absurd (AM e) (Nat.not_lt.mpr (Aa I.ok.bsz q))
 ·obtain ⟨_,h1,h2,_⟩:=hf b hb
  exact (AJ.mp (I.stkSub b hm)).elim h1 h2
 ·refine ⟨fun _=>none,?_,fun i x v e1 e2 e3 => ?_⟩
  ·subst h4
   exact (Heap.Ns.new s.heap (.type "dict")).keeps (Cf _ _)
  ·have hi:i < caps.length:=by
    by_cases hi:i < caps.length
    ·exact hi
    ·rw [Af (by simpa using hi),BC] at e2
     split at e2 <;> cases e2
   rw [Ae (by simpa using hi),Ao] at e2
   have e1':(capN++locN)[i]? = some x:=e1
   rw [Ae (by rw [cs.len];exact hi)] at e1'
   cases ej:caps[i]? with
   |none=>rw [ej] at e2;cases e2
   |some j =>
    rw [ej] at e2
    obtain ⟨k1,k2⟩:=cs.cap i x j e1' ej
    have e2':σ[j]? = some (some v):=by
     have e2'':(σ[j]?).join=some v:=Am e2
     cases q:σ[j]? with
     |none=>rw [q] at e2'';cases e2''
     |some o=>rw [q] at e2'';exact CH some e2''
    have hk:=cs.fr _ k2 rfl
    obtain ⟨m,hn,hl⟩:=I.loc
    obtain ⟨u,ru,lu⟩:=hl j x v k1 e2' (hk.elim (fun z => .inr (.inl z)) fun z => .inr (.inr z))
    refine ⟨u,ru,.inr ?_⟩
    have hc:∃ c,X.env.cells.lookup x=some c∧s.heap.IsCell c (some u):=by
     rcases lu with ⟨z,_⟩ |⟨_,z⟩
     ·rcases hk with y |y <;> · rw [z] at y;cases y
     ·exact z
    obtain ⟨c,c1,c2⟩:=hc
    obtain ⟨c',e'⟩:=YR (env:=X.env) (acc:=[]) (.inl k2)
    have e2:=clook x c' e'
    rw [c1] at e2;cases e2
    have hlk:scope.names.lookup x=some .free:=W9 cs.nd k2
    refine ⟨?_,c,?_,c2.keeps keep⟩
    ·show (relabel scope X.env).names.lookup x=some .cell∨(relabel scope X.env).names.lookup x=some .free
     have e:(relabel scope X.env).names.lookup x=(scope.names.lookup x).map fun k=>if (k==NameKind.free&&X.env.scope.kind == .function&&X.env.kindOf x==some .cell) then NameKind.cell else k:=WF
     rw [e,hlk]
     simp only [CF]
     split
     ·exact .inl rfl
     ·exact .inr rfl
    ·obtain ⟨d,hd⟩:=We (names:=scope.names) (n:=s.heap.objs.size + 1) (acc:=clF X.env scope.names []) (x:=x) (.inl ⟨c,e'⟩)
     rcases wI hd with ⟨q,q'⟩ |q
     ·have:=W9 cs.nd q'
      rw [hlk] at this;cases this
     ·rw [e'] at q;cases q;exact hd
 ·rcases wI e with ⟨q,_⟩ |q
  ·have e':(cellsFrom (s.heap.push { cls := .type "dict",data := .dict #[] }).objs.size scope.names (clF X.env scope.names [])).lookup x=some c:=by rw [A8];exact e
   rcases W6 e' with ⟨_,z,_⟩ |z
   ·obtain ⟨v,y⟩:=I.cell x c (clook x c z)
    exact ⟨v,y.keeps keep⟩
   ·subst h4;exact ⟨none,z⟩
  ·obtain ⟨v,y⟩:=I.cell x c (clook x c q)
   exact ⟨v,y.keeps keep⟩
 ·rcases cases' x c e with q |⟨q,q'⟩
  ·exact I.hok.fresh (Nat.le_of_succ_le q)
  ·exact I.freeC x c q'
 ·have hp':p∈X.pn++pins:=by simpa [cCx] using hp
  obtain ⟨k1,k2,k3,k4,k5⟩:=I.pin p hp'
  exact ⟨keep _ _ k1,k2,AZ (AM k1),fun z=>(AJ.mp (I.stkSub p.1 z)).elim k3 k4,k5⟩
 ·show ((caps.map fun j=>(σ[j]?).join)++List.replicate locN.length none).length=(capN++locN).length
  rw [AO,AF,List.length_replicate,AO,cs.len]
theorem qAj {X:Cx} {scope:Scope} {N:List Str} {pins:List (Addr×Obj)} {σ σ':L2.St} {H H':Hp} {s s':Shared} {h'':Heap} {fp:List Addr} (I:L2.Inv X pins σ H s) (hf:∀ b∈fp,Zg X pins H b)
  (J:L2.Inv (cCx X scope N s H fp (X.pn++pins)) [] σ' H' s') (sb:Heap.SameBut s.heap.objs.size s'.heap h''):L2.Inv X pins σ H' { s' with heap:=h'' }:=by
 have hos:s'.os=s.os:=J.os
 have hC:∀ b o,s.heap.get? b=some o->b≠s.heap.objs.size:=fun b o e=>AZ (AM e)
 have u:Un (frs X.stack) fp H H' s.heap h'':=by
  have u0:=J.base
  exact ⟨fun b o e n h1 h2=>sb.extBut b o (hC b o e) (u0.keep b o e n h1 h2),fun b o e n h1 h2=>(u0.slot b o e n h1 h2).elim fun sl q=>⟨sl,sb.extBut b _ (hC b o e) q⟩,u0.free,fun b o e h2=>(u0.there b o e h2).elim fun o' q=>⟨o',sb.extBut b o' (hC b o e) q⟩,u0.tups,u0.frzs,u0.tbls⟩
 have hok:HOk X.prog X.w H' h'':=fun a o e=>by
  refine (J.hok a o e).stay (fun b v hb q=>sb.extBut b v ?_ q) (fun _ q=>q) fun _ _ q=>q
  have hn:H' s.heap.objs.size=none:=J.free
  rcases hb with z |z
  ·rw [z];exact qQ e hn
  ·exact qQ z hn
 obtain ⟨hh,g,d,t,os'⟩:=s'
 obtain rfl:os'=s.os:=hos
 have fin:=L2.Inv.call (s:=s) (h':=h'') (g':=g) (d':=d) (t':=t) (ch:=fp) I u hok J.bare fun b hb=>by
  obtain ⟨k0,k1,k2,k3,k4,k5⟩:=hf b hb
  exact ⟨k3,k1,k4,k5⟩
 exact fin
theorem Y9 {elt:Expr} {gens:List Comprehension} {scope:Scope} {pos:Pos} {d:Nat} {it acc:Value} {env:Env} {g:Comprehension} (hg:gens[d]? = some g) (ha:g.is_async=0) (hn:gens[d + 1]? = none) :
  compTurn (.ListComp elt gens scope pos) d it acc env=(standAt g.iter.pos >>= fun _=>pyNext it >>= fun r=>match r with
   |none=>pure (.done .next)
   |some v=>letOwnedTupleGo g.target it v >>= fun _=>assign g.target env v >>= fun _ =>
    (forIn g.ifs true fun c r=>if r=true then do let ok ← isTrue c env (eval c env);pure (ForInStep.yield ok) else pure (ForInStep.yield r)) >>= fun ok =>
    if ok=true then (eval elt env >>= fun x=>call (.builtin "list.append") [acc,x] >>= fun _=>pure ()) >>= fun _=>again (.compLoop (.ListComp elt gens scope pos) d it acc env)
    else again (.compLoop (.ListComp elt gens scope pos) d it acc env)):=by
 unfold compTurn
 dsimp only
 rw [hg]
 dsimp only
 rw [hn,ha]
 rfl
theorem jG {elt:Expr} {gens:List Comprehension} {scope:Scope} {pos:Pos} {d:Nat} {it acc:Value} {env:Env} {g g':Comprehension} (hg:gens[d]? = some g) (ha:g.is_async=0) (hn:gens[d + 1]? = some g') (ha':g'.is_async=0) :
  compTurn (.ListComp elt gens scope pos) d it acc env=(standAt g.iter.pos >>= fun _=>pyNext it >>= fun r=>match r with
   |none=>pure (.done .next)
   |some v=>letOwnedTupleGo g.target it v >>= fun _=>assign g.target env v >>= fun _ =>
    (forIn g.ifs true fun c r=>if r=true then do let ok ← isTrue c env (eval c env);pure (ForInStep.yield ok) else pure (ForInStep.yield r)) >>= fun ok =>
    if ok=true then (eval g'.iter env >>= fun x=>standAt g'.iter.pos >>= fun _=>foldedSetIterable g'.iter env x >>= fun x=>holding [x] (pyIter x) >>= fun it'=>runOwn (.compStart (.ListComp elt gens scope pos) (d + 1) it' acc env) env >>= fun _=>again (.compLoop (.ListComp elt gens scope pos) d it acc env))
    else again (.compLoop (.ListComp elt gens scope pos) d it acc env)):=by
 unfold compTurn
 dsimp only
 rw [hg]
 dsimp only
 rw [hn,ha]
 dsimp only
 rw [ha']
 rfl
theorem zp {prog:Program} {w:World} {A:Around} {R:Result->Shared->Prop} {s:Shared} {elt:Expr} {gens:List Comprehension} {scope:Scope} {pos:Pos} {d:Nat} {it acc:Value} {env:Env} {g:Comprehension} (hg:gens[d]? = some g) (ha:g.is_async=0)
  (h0:codeAny (model prog w) A (.compLoop (.ListComp elt gens scope pos) d it acc env) R s)
  (h:wpAny (model prog w) A (pyIter it) (fun it' s'=>codeAny (model prog w) A (.compLoop (.ListComp elt gens scope pos) d it' acc env) R s') (notedBy (model prog w) A env fun x s'=>R (.error x) s') s) :
  codeAny (model prog w) A (.compStart (.ListComp elt gens scope pos) d it acc env) R s:=by
 refine codeAny_of_tree ?_
 show wpAny _ _ ((compStart (.ListComp elt gens scope pos) d it acc env).onRaise (fun x=>do noteFrame x env;standAt theWindowsPlace)) _ _ s
 refine wpAny_notedAt ?_
 unfold compStart
 have e1:(clausesOf (.ListComp elt gens scope pos))[d]? = some g:=hg
 rw [e1]
 simp only [Option.elim_some,ha]
 refine AA (B7 (wpAny_ite ?_))
 split
 ·exact AA (AB (AB (And.intro rfl h0)))
 ·exact AA (B3 (AA (CY (AA (Bg h (fun it' s' h'=>AB (And.intro rfl h')) fun _ _ x=>x)))))
structure GenF where
 fi:FI
 g:FG
 ts:List FT
def we:List FT->FT
 |[],_,st => .ok true st
 |t::ts,r,st=>(t r st).bind fun k s=>if k=true then we ts r s else .ok false s
open Classical in
noncomputable def qx (G:qC->Prop) (k:PV->qC->Rs (List PV)):List PV->qC->Rs (List PV)
 |[],st=>if G st then .ok [] st else .no
 |p::ps,st=>if G st then (k p st).bind fun l s=>(qx G k ps s).bind fun m s' => .ok (l++m) s' else .no
def Qk (g:GenF) (rest:FL) (r:QO) (p:PV) (s:qC):Rs (List PV):=match g.g p r with
 |none => .no
 |some r'=>(we g.ts r' s).bind fun k s1=>if k=true then rest r' s1 else .ok [] s1
noncomputable def Qx:List GenF->FE->FL
 |[],f=>fun r st=>(f r st).bind fun p s => .ok [p] s
 |g::gs,f=>fun r st=>(g.fi r st).bind fun w s=>qx w.G (Qk g (Qx gs f) r) w.l s
def Le (r r':QO):Prop:=r.length=r'.length ∧ ∀ (i:Nat) (p:PV),r[i]? = some (some p)->r'[i]? = some (some p)
theorem REnv.le {K:W.Frag} {H:Hp} {b:Bz} {r r':QO} {s:L2.St} (h:REnv K H b r' s) (l:Le r r'):REnv K H b r s:=⟨l.1.trans h.1,fun i p e=>h.2 i p (l.2 i p e)⟩
def qCK (g:FG):Prop := ∀ p r r',g p r=some r'->Le r r'
inductive TsOk (X:Cx):List Expr->List FT->Prop where
 |nil:TsOk X [] []
 |cons {e:Expr} {t:FT} {es:List Expr} {ts:List FT} (h:VT X E0 e t) (r:TsOk X es ts):TsOk X (e::es) (t::ts)
theorem Jx {X:Cx} (hx:∀ e s,X.xe e s->False):∀ {es:List Expr} {ts:List FT},TsOk X es ts -> ∀ {pins:List (Addr×Obj)} {s:Shared} {σ:L2.St} {H:Hp} {b:Bz} {r:QO} {st st':qC} {k:Bool} {Q:Bool->Shared->Prop} {E:Value->Shared->Prop},L2.Inv X pins σ H s->SR X.K H b st->REnv X.K H b r σ->we ts r st = .ok k st' ->
  (∀ s' H' b',L2.Inv X pins σ H' s'->Ext H b H' b'->SR X.K H' b' st'->Q k s') ->
  wpAny (model X.prog X.w) X.A (forIn es true fun c r=>if r=true then do let ok ← isTrue c X.env (eval c X.env);pure (ForInStep.yield ok) else pure (ForInStep.yield r)) Q E s
 |_,_,.nil,pins,s,σ,H,b,r,st,st',k,Q,E,I,S,R,e,q=>by
  cases e
  exact wpAny_tests_nil (q s H b I (Ext.refl _ _) S)
 |_,_,@TsOk.cons _ c t es ts h hr,pins,s,σ,H,b,r,st,st',k,Q,E,I,S,R,e,q=>by
  rw [Cg]
  simp only [Ca]
  unfold we at e
  cases et:t r st with
  |no=>rw [et] at e;cases e
  |ex x s1=>rw [et] at e;cases e
  |ok k1 s1 =>
   rw [et] at e
   have e:(if k1=true then we ts r s1 else .ok false s1) = .ok k st':=e
   refine AA (AA (Bg (h pins s σ H (fun k' H'=>k'=k1 ∧ ∃ b',Ext H b H' b'∧SR X.K H' b' s1) I ⟨b,r,st,S,R,by rw [et];exact fun H' b' e' S'=>⟨rfl,b',e',S'⟩⟩) (fun k' s2 hq => ?_) fun e' s' z=>(hx e' s' z).elim))
   obtain ⟨H2,I2,rfl,b2,e2,S2⟩:=hq
   refine AB ?_
   dsimp only
   cases k' with
   |true =>
    rw [AG rfl] at e
    exact Jx hx hr I2 S2 (R.ext e2) e fun s' H' b' I' e' S'=>q s' H' b' I' (e2.trans e') S'
   |false =>
    rw [AN BL] at e
    cases e
    have skip:∀ (es:List Expr),wpAny (model X.prog X.w) X.A (forIn es false fun c r=>if r=true then do let ok ← isTrue c X.env (eval c X.env);pure (ForInStep.yield ok) else pure (ForInStep.yield r)) Q E s2:=by
     intro es
     induction es with
     |nil=>rw [List.forIn_nil];exact AB (q s2 H2 b2 I2 e2 S2)
     |cons c es ih =>
      rw [Cg]
      simp only [BF,Bt]
      exact AA (AB ih)
    exact skip es
structure GOk (X:Cx) (c:Comprehension) (g:GenF):Prop where
 tg:VG X c.target g.g
 fr:qCK g.g
 ts:TsOk X c.ifs g.ts
 asy:c.is_async=0
structure GOk' (X:Cx) (c:Comprehension) (g:GenF):Prop extends GOk X c g where
 it:VI X E0 c.target c.iter g.fi
 fold:∀ x,foldedSetIterable c.iter X.env x=pure x
inductive GsOk (X:Cx):List Comprehension->List GenF->Prop where
 |nil:GsOk X [] []
 |cons {c:Comprehension} {g:GenF} {cs:List Comprehension} {gs:List GenF} (h:GOk' X c g) (r:GsOk X cs gs):GsOk X (c::cs) (g::gs)
theorem qDf {X:Cx} (hx:∀ e s,X.xe e s->False) {pins:List (Addr×Obj)} {s:Shared} {σ:L2.St} {H:Hp} {D:Addr} {xs:List V} {y:V} {u:Value} {Q:Value->Shared->Prop} {E:Value->Shared->Prop} (I:L2.Inv X pins σ H s) (hD:H D=some (.lst xs)) (hl:xs.length < sizeLine) (ry:RelV y u)
  (q:∀ v s',L2.Inv X pins σ (upd H D (.lst (xs++[y]))) s'->Q v s'):wpAny (model X.prog X.w) X.A (call (.builtin "list.append") [.ref D,u]) Q E s :=
 Bg (jP pins s σ H (.ref D) [y] (.ref D) [u] (fun v H'=>H'=upd H D (.lst (xs++[y]))) I rfl (.cons ry .nil) ⟨D,xs,y,rfl,rfl,hD,hl,rfl⟩) (fun v s' ⟨x,H',I',r',e⟩=>by subst e;exact q v s' I') fun e' s' z=>(hx e' s' z).elim
structure DE (D:Addr) (H:Hp) (b:Bz) (H':Hp) (b':Bz):Prop extends WE H b H' b' where
 same:b'.z=b.z
 hid:∀ a o,a∈b.z->a≠D->H a=some o->H' a=some o
 fz:∀ a o u,a≠D->H a=some (.frz o u)->H' a=some (.frz o u)
theorem DE.of {D:Addr} {H H':Hp} {b b':Bz} (e:Ext H b H' b'):DE D H b H' b':=⟨e.toWE,e.same,fun a o ha _ h=>e.hid a o ha h,fun a o u _ h=>e.fz a o u h⟩
theorem DE.trans {D:Addr} {H H1 H2:Hp} {b b1 b2:Bz} (e:DE D H b H1 b1) (f:DE D H1 b1 H2 b2):DE D H b H2 b2:=⟨e.toWE.trans f.toWE,f.same.trans e.same,fun a o ha hn h=>f.hid a o (by rw [e.same];exact ha) hn (e.hid a o ha hn h),fun a o u n h=>f.fz a o u n (e.fz a o u n h)⟩
theorem DE.wr {D:Addr} {H:Hp} {b:Bz} {o:HO} (h:D∈b.z):DE D H b (upd H D o) b:=⟨WE.wr (.inr h),rfl,fun a u ha hn e=>by rw [qU hn];exact e,fun a u v hn e=>by rw [qU hn];exact e⟩
def qKt (X:Cx) (D:Addr) (c:Code) (inner:Sem Fin) (rest:FL):Prop :=
 ∀ (pins:List (Addr×Obj)) (s:Shared) (σ:L2.St) (H:Hp) (b:Bz) (r:QO) (st st':qC) (l:List PV) (accV:List V) (QF:Fin->Shared->Prop) (E:Value->Shared->Prop),L2.Inv X pins σ H s->SR X.K H b st->REnv X.K H b r σ->D∈b.z->H D=some (.lst accV) ->
  rest r st = .ok l st'->accV.length + l.length≤sizeLine ->
  (∀ s' σ' H' b' lV,L2.Inv X pins σ' H' s'->DE D H b H' b'->SR X.K H' b' st'->REnv X.K H' b' r σ'->H' D=some (.lst (accV++lV))->RVs X.K H' b' l lV->QF (.again c) s')->wpAny (model X.prog X.w) X.A inner QF E s
theorem qAX {X:Cx} (hx:∀ e s,X.xe e s->False) {elt:Expr} {gens:List Comprehension} {scope:Scope} {pos:Pos} {d:Nat} {it D:Addr} {c:Comprehension} {g:GenF} (hg:GOk X c g) {inner:Sem Fin} {rest:FL} (hin:qKt X D (.compLoop (.ListComp elt gens scope pos) d (.ref it) (.ref D) X.env) inner rest)
  (hturn:compTurn (.ListComp elt gens scope pos) d (.ref it) (.ref D) X.env=(standAt c.iter.pos >>= fun _=>pyNext (.ref it) >>= fun r=>match r with
   |none=>pure (.done .next)
   |some v=>letOwnedTupleGo c.target (.ref it) v >>= fun _=>assign c.target X.env v >>= fun _ =>
    (forIn c.ifs true fun c r=>if r=true then do let ok ← isTrue c X.env (eval c X.env);pure (ForInStep.yield ok) else pure (ForInStep.yield r)) >>= fun ok =>
    if ok=true then inner else again (.compLoop (.ListComp elt gens scope pos) d (.ref it) (.ref D) X.env)))
  {pins:List (Addr×Obj)} {s:Shared} {σ:L2.St} {H:Hp} {b:Bz} {r:QO} {st st':qC} {fp:List Addr} {tn:Nat->Heap->Prop} {J:It} {w:ItP} {accV:List V} {l:List PV} {R:Result->Shared->Prop}
  (I:L2.Inv X pins σ H s) (S:SR X.K H b st) (RE:REnv X.K H b r σ) (hDz:D∈b.z) (hD:H D=some (.lst accV)) (T:Turn X.prog X.w X.K X.A c.target J fp it tn) (t0:tn 0 s.heap) (hf:∀ a∈fp,Zg X pins H a)
  (hit:yx X.K H b J w)
  (hv:qx w.G (Qk g rest r) w.l st = .ok l st') (hsz:accV.length + l.length≤sizeLine)
  (hR:∀ s' σ' H' b' lV,L2.Inv X pins σ' H' s'->DE D H b H' b'->SR X.K H' b' st'->REnv X.K H' b' r σ'->H' D=some (.lst (accV++lV))->RVs X.K H' b' l lV->R (.ok .next) s') :
  codeAny (model X.prog X.w) X.A (.compLoop (.ListComp elt gens scope pos) d (.ref it) (.ref D) X.env) R s:=by
 have stat:∀ {H':Hp},(∀ a∈fp,H' a=none) -> ∀ a∈fp,Zg X pins H' a:=fun hn a ha=>⟨hn a ha,(hf a ha).2⟩
 refine codeAny_loop rfl (fun n s1 => ∃ i σ1 H1 b1 st1 done doneV m,n=w.l.length + 1 - i∧i≤w.l.length∧L2.Inv X pins σ1 H1 s1∧DE D H b H1 b1∧SR X.K H1 b1 st1∧REnv X.K H1 b1 r σ1∧H1 D=some (.lst (accV++doneV))∧RVs X.K H1 b1 done doneV∧tn i s1.heap∧(∀ a∈fp,H1 a=none) ∧
  qx w.G (Qk g rest r) (w.l.drop i) st1 = .ok m st'∧done++m=l) ?_ (w.l.length + 1)
  ⟨0,σ,H,b,st,[],[],l,by omega,BJ _,I,DE.of (Ext.refl _ _),S,RE,by simpa using hD,RVs.nil,t0,fun a ha=>(hf a ha).1,by simpa using hv,rfl⟩
 rintro n s1 ⟨i,σ1,H1,b1,st1,done,doneV,m,hn,hi,I1,e1,S1,R1,hD1,rd1,t1,fr1,hv1,hm⟩
 show wpAny _ X.A ((compTurn (.ListComp elt gens scope pos) d (.ref it) (.ref D) X.env).onRaise (fun x=>do noteFrame x X.env;theTreesLotGoes x)) _ _ s1
 refine wpAny_noted ?_
 rw [hturn]
 refine AA (CY (AA ?_))
 have hz1:D∈b1.z:=by rw [e1.same];exact hDz
 by_cases hlt:i < w.l.length
 ·have hd:w.l.drop i=w.l[i]::w.l.drop (i + 1):=List.drop_eq_getElem_cons hlt
  rw [hd] at hv1
  unfold qx at hv1
  by_cases hG:w.G st1
  ·rw [AG hG] at hv1
   obtain ⟨h1,h2⟩:=hit H1 b1 st1 e1.toWE S1 hG
   obtain ⟨go,yl⟩:=h1 i w.l[i] (AE hlt)
   cases ek:Qk g rest r w.l[i] st1 with
   |no=>rw [ek] at hv1;cases hv1
   |ex x s5=>rw [ek] at hv1;cases hv1
   |ok l1 s5 =>
    rw [ek] at hv1
    have hv1:(qx w.G (Qk g rest r) (w.l.drop (i + 1)) s5).bind (fun m s' => .ok (l1++m) s') = .ok m st':=hv1
    cases ek2:qx w.G (Qk g rest r) (w.l.drop (i + 1)) s5 with
    |no=>rw [ek2] at hv1;cases hv1
    |ex x s6=>rw [ek2] at hv1;cases hv1
    |ok m2 s6 =>
     rw [ek2] at hv1
     have hv1:Rs.ok (l1++m2) s6 = .ok m st':=hv1
     injection hv1 with hv1a hv1b
     subst hv1a;subst hv1b
     refine thn (T.item X rfl rfl rfl rfl i pins s1 σ1 H1 _ I1 (stat fr1) t1 go) fun rr s2 ⟨u,hr,h4⟩ => ?_
     subst hr
     refine AA (thn h4 fun _ s3 ⟨x,H3,I3,r3,y3,t3,fr3⟩ => ?_)
     obtain ⟨sm3,S3,rx3⟩:=yl x H3 y3
     have e3:Ext H1 b1 H3 b1:=Ext.of_same sm3
     have hD3:=sm3 _ _ hD1
     unfold Qk at ek
     cases eg:g.g w.l[i] r with
     |none=>rw [eg] at ek;cases ek
     |some r' =>
      rw [eg] at ek
      have ek:(we g.ts r' st1).bind (fun k s1=>if k=true then rest r' s1 else .ok [] s1) = .ok l1 s5:=ek
      cases et:we g.ts r' st1 with
      |no=>rw [et] at ek;cases ek
      |ex x s7=>rw [et] at ek;cases ek
      |ok k s7 =>
       rw [et] at ek
       have ek:(if k=true then rest r' s7 else .ok [] s7) = .ok l1 s5:=ek
       have I3':=I3.pinned (stat fr3) (T.obj _ _ t3)
       refine AA (Bg (hg.tg _ s3 σ1 H3 x u (fun σ' H'=>H'=H3∧REnv X.K H3 b1 r' σ') I3' r3 ⟨b1,r,w.l[i],st1,S3,R1.ext e3,rx3,r',eg,fun s' R'=>⟨rfl,R'⟩⟩) (fun _ s4 hq => ?_) fun e' s' z=>(hx e' s' z).elim)
       obtain ⟨σ4,H4,I4,rfl,R4⟩:=hq
       refine AA (Jx hx hg.ts I4 S3 R4 et fun s5' H5 b5 I5 e5 S5 => ?_)
       have hz5:D∈b5.z:=by rw [e5.same];exact hz1
       have hD5:=e5.hid _ _ hz1 hD3
       have e15:DE D H b H5 b5:=(e1.trans (DE.of e3)).trans (DE.of e5)
       have back:∀ {s7':Shared} {σ7:L2.St} {H7:Hp} {b7:Bz} {l1V:List V},L2.Inv X (pins++Zj fp s3.heap) σ7 H7 s7'->DE D H5 b5 H7 b7->SR X.K H7 b7 s5->REnv X.K H7 b7 r' σ7->H7 D=some (.lst (accV++doneV++l1V))->RVs X.K H7 b7 l1 l1V ->
         ∃ m,m < n ∧ ∃ i σ1 H1 b1 st1 done doneV mm,m=w.l.length + 1 - i∧i≤w.l.length∧L2.Inv X pins σ1 H1 s7'∧DE D H b H1 b1∧SR X.K H1 b1 st1∧REnv X.K H1 b1 r σ1∧H1 D=some (.lst (accV++doneV))∧RVs X.K H1 b1 done doneV∧tn i s7'.heap∧(∀ a∈fp,H1 a=none) ∧
         qx w.G (Qk g rest r) (w.l.drop i) st1 = .ok mm s6∧done++mm=l:=fun {s7' σ7 H7 b7 l1V} I7 e7 S7 R7 hD7 rl7=>by
        refine ⟨w.l.length + 1 - (i + 1),by omega,i + 1,σ7,H7,b7,s5,done++l1,doneV++l1V,m2,rfl,hlt,I7.unpinned,e15.trans e7,S7,R7.le (hg.fr _ _ _ eg),by rw [hD7,Ab],?_,T.keep _ _ _ t3 fun a ha o e=>(I7.pin (a,o) (BB _ (BB _ (zt ha e)))).1,fun a ha => ?_,ek2,by rw [Ab];exact hm⟩
        ·exact RVs.append (RVs.wext e7.toWE done (RVs.ext e5 done (RVs.ext e3 done rd1))) rl7
        ·obtain ⟨o,e,_⟩:=T.obj _ _ t3 a ha
         exact (I7.pin (a,o) (BB _ (BB _ (zt ha e)))).2.1
       cases k with
       |false =>
        rw [AN BL] at ek ⊢
        injection ek with ek1 ek2'
        subst ek1;subst ek2'
        refine AB ⟨rfl,back I5 (DE.of (Ext.refl _ _)) S5 (R4.ext e5) (by rw [A6];exact hD5) RVs.nil⟩
       |true =>
        rw [AG rfl] at ek ⊢
        refine hin _ s5' σ4 H5 b5 r' s7 s5 l1 (accV++doneV) _ _ I5 S5 (R4.ext e5) hz5 hD5 ek ?_ fun s8 σ8 H8 b8 lV I8 e8 S8 R8 hD8 r8=>⟨rfl,back I8 e8 S8 R8 hD8 r8⟩
        have h1:=rd1.length
        have h2:l.length=done.length + (l1.length + m2.length):=by rw [← hm,AO,AO]
        rw [AO];omega
  ·rw [AN hG] at hv1;cases hv1
 ·have hl:i=w.l.length:=by omega
  subst hl
  rw [List.drop_length] at hv1
  unfold qx at hv1
  by_cases hG:w.G st1
  ·rw [AG hG] at hv1
   injection hv1 with k1 k2
   subst k1;subst k2
   obtain ⟨h1,h2⟩:=hit H1 b1 st1 e1.toWE S1 hG
   refine thn (T.done X rfl rfl rfl rfl _ pins s1 σ1 H1 _ I1 (stat fr1) t1 (h2 _ (AL _))) fun r2 s2 ⟨hr,I2⟩ => ?_
   subst hr
   rw [A6] at hm
   subst hm
   exact AB (hR s2 σ1 H1 b1 doneV I2 e1 S1 R1 hD1 rd1)
  ·rw [AN hG] at hv1;cases hv1
theorem jd {X:Cx} (hx:∀ e s,X.xe e s->False) {elt:Expr} {gens:List Comprehension} {scope:Scope} {pos:Pos} {f:FE} {D:Addr} (he:VE X E0 elt f) :
  ∀ (gs:List GenF) (cs:List Comprehension) (d:Nat) (c:Comprehension) (g:GenF),gens.drop d=c::cs->GOk X c g->GsOk X cs gs ->
  ∀ (pins:List (Addr×Obj)) (s:Shared) (σ:L2.St) (H:Hp) (b:Bz) (r:QO) (st st':qC) (it:Addr) (fp:List Addr) (tn:Nat->Heap->Prop) (J:It) (w:ItP) (accV:List V) (l:List PV) (R:Result->Shared->Prop),
  L2.Inv X pins σ H s->SR X.K H b st->REnv X.K H b r σ->D∈b.z->H D=some (.lst accV)->Turn X.prog X.w X.K X.A c.target J fp it tn->tn 0 s.heap->(∀ a∈fp,Zg X pins H a)->yx X.K H b J w ->
  qx w.G (Qk g (Qx gs f) r) w.l st = .ok l st'->accV.length + l.length≤sizeLine ->
  (∀ s' σ' H' b' lV,L2.Inv X pins σ' H' s'->DE D H b H' b'->SR X.K H' b' st'->REnv X.K H' b' r σ'->H' D=some (.lst (accV++lV))->RVs X.K H' b' l lV->R (.ok .next) s') ->
  codeAny (model X.prog X.w) X.A (.compLoop (.ListComp elt gens scope pos) d (.ref it) (.ref D) X.env) R s:=by
 intro gs
 induction gs with
 |nil =>
  intro cs d c g hdr hg hgs pins s σ H b r st st' it fp tn J w accV l R I S RE hDz hD T t0 hf hit hv hsz hR
  cases hgs
  have hgd:gens[d]? = some c:=by
   have:(gens.drop d)[0]? = some c:=by rw [hdr];rfl
   simpa using this
  have hgn:gens[d + 1]? = none:=by
   have:(gens.drop d)[1]? = none:=by rw [hdr];rfl
   simpa using this
  refine qAX hx hg ?_ (Y9 hgd hg.asy hgn) I S RE hDz hD T t0 hf hit hv hsz hR
  intro pins s σ H b r st st' l accV QF E I S RE hDz hD hv hsz q
  have hv:(f r st).bind (fun p s => .ok [p] s) = .ok l st':=hv
  cases ef:f r st with
  |no=>rw [ef] at hv;cases hv
  |ex x s1=>rw [ef] at hv;cases hv
  |ok p s1 =>
   rw [ef] at hv
   have hv:Rs.ok [p] s1 = .ok l st':=hv
   injection hv with h1 h2
   subst h1;subst h2
   refine AA (AA (Bg (he pins s σ H (fun v H' => ∃ b',Ext H b H' b'∧SR X.K H' b' s1∧RV X.K H' b' p v) I ⟨b,r,st,S,RE,by rw [ef];exact fun v H' b' e' S' r'=>⟨b',e',S',r'⟩⟩) (fun u s2 hq => ?_) fun e' s' z=>(hx e' s' z).elim))
   obtain ⟨v,H2,I2,rv,b2,e2,S2,r2⟩:=hq
   have hz2:D∈b2.z:=by rw [e2.same];exact hDz
   refine AA (qDf hx I2 (e2.hid _ _ hDz hD) (by rw [Ag] at hsz;omega) rv fun _ s3 I3=>AB (AB ?_))
   have dw:DE D H2 b2 (upd H2 D (.lst (accV++[v]))) b2:=DE.wr hz2
   exact q s3 σ _ b2 [v] I3 ((DE.of e2).trans dw) (SR.wrz S2 hz2) ((RE.ext e2).wext dw.toWE) Qd (RVs.cons (RV.wext dw.toWE p r2) RVs.nil)
 |cons g2 gs ih =>
  intro cs d c g hdr hg hgs pins s σ H b r st st' it fp tn J w accV l R I S RE hDz hD T t0 hf hit hv hsz hR
  cases hgs with
  | @cons c2 _ cs _ h2 hr2 =>
   have hgd:gens[d]? = some c:=by
    have:(gens.drop d)[0]? = some c:=by rw [hdr];rfl
    simpa using this
   have hgn:gens[d + 1]? = some c2:=by
    have:(gens.drop d)[1]? = some c2:=by rw [hdr];rfl
    simpa using this
   have hdr2:gens.drop (d + 1)=c2::cs:=by
    have:(gens.drop d).drop 1=c2::cs:=by rw [hdr];rfl
    rwa [List.drop_drop] at this
   refine qAX hx hg ?_ (jG hgd hg.asy hgn h2.asy) I S RE hDz hD T t0 hf hit hv hsz hR
   intro pins s σ H b r st st' l accV QF E I S RE hDz hD hv hsz q
   have hv:(g2.fi r st).bind (fun w s=>qx w.G (Qk g2 (Qx gs f) r) w.l s) = .ok l st':=hv
   cases ef:g2.fi r st with
   |no=>rw [ef] at hv;cases hv
   |ex x s1=>rw [ef] at hv;cases hv
   |ok w2 s1 =>
    rw [ef] at hv
    have hv:qx w2.G (Qk g2 (Qx gs f) r) w2.l s1 = .ok l st':=hv
    have hi:=h2.it pins s σ H (fun J H' => ∃ b',Ext H b H' b'∧SR X.K H' b' s1∧yx X.K H' b' J w2) I ⟨b,r,st,S,RE,by rw [ef];exact fun J H' b' e' S' i'=>⟨b',e',S',i'⟩⟩
    refine AA (Bg hi (fun u s2 hq => ?_) fun e' s' z=>(hx e' s' z).elim)
    refine AA (CY (AA (An (h2.fold u) (AA (Au (Bg hq (fun itv s3 hq3 => ?_) fun e' s' z=>(hx e' s' z).elim))))))
    obtain ⟨it2,fp2,tn2,J2,H3,rfl,I3,T2,t2,f2,b3,e3,S3,i3⟩:=hq3
    have hz3:D∈b3.z:=by rw [e3.same];exact hDz
    have hD3:=e3.hid _ _ hDz hD
    refine AA (wpAny_runOwn ?_)
    have loop:=ih cs (d + 1) c2 g2 hdr2 h2.toGOk hr2 pins s3 σ H3 b3 r s1 st' it2 fp2 tn2 J2 w2 accV l (fun r s'=>match r with
     | .ok f=>wpAny (model X.prog X.w) X.A (again (.compLoop (.ListComp elt gens scope pos) d (.ref it) (.ref D) X.env)) QF E s'
     | .error e=>cameBackBy (model X.prog X.w) X.A X.env E e s') I3 S3 (RE.ext e3) hz3 hD3 T2 t2 f2 i3 hv hsz
     fun s' σ' H' b' lV I' e' S' R' hD' r'=>AB (q s' σ' H' b' lV I' ((DE.of e3).trans e') S' R' hD' r')
    exact zp hgn h2.asy loop (T2.self X.A 0 s3 _ _ t2 loop)
theorem qAm {M:Model} {A:Around} {E:Value->Shared->Prop} {s:Shared} {scope:Scope} {env:Env} {cl:List (Str×Addr)} {Q:Env->Shared->Prop}
  (h:Q { scope:=scope,locals:=s.heap.objs.size,globals:=env.globals,cells:=cellsFrom (s.heap.objs.size + 1) scope.names cl,qual:=env.qual,func:=none,code:=env.code,frame:=env.frame,builtins:=env.builtins } { s with heap:=pushCells (s.heap.push { cls := .type "dict",data := .dict #[] }) scope.names }) :
  wpAny M A (newFunctionEnv scope env.globals cl [] env.qual none .none (some env)) Q E s:=by
 simp only [newFunctionEnv,Option.isSome_some,Ca]
 refine AA (wpAny_alloc ?_)
 refine AA (wpAny_layCells _ (fun name kind cells=>by cases hkc:kind==NameKind.cell <;> simp [hkc]) _ _ _ _ ?_)
 rw [show ({ s with heap:=s.heap.push { cls := .type "dict",data := .dict #[] } }:Shared).heap.objs.size=s.heap.objs.size + 1 from A8 ..]
 exact AA (AB (AB h))
def zj (caps:List Nat) (n:Nat) (r:QO):QO:=(caps.map fun j=>(r[j]?).join)++List.replicate n none
noncomputable def qc (caps:List Nat) (n:Nat) (fi:FI) (g:FG) (ts:List FT) (gs:List GenF) (f:FE):FL:=fun r st=>(fi r st).bind fun w s=>match qx w.G (Qk ⟨fi,g,ts⟩ (Qx gs f) (zj caps n r)) w.l s with
 | .ok l s'=>if l.length≤sizeLine then .ok l s' else .no
 |_ => .no
theorem qAN {K:W.Frag} {H:Hp} {b:Bz} {r:QO} {σ:L2.St} {caps:List Nat} {n:Nat} (R:REnv K H b r σ):REnv K H b (zj caps n r) ((caps.map fun j=>(σ[j]?).join)++List.replicate n none):=by
 refine ⟨by simp [zj],fun i p e => ?_⟩
 unfold zj at e
 by_cases hi:i < caps.length
 ·rw [Ae (by simpa using hi),Ao] at e
  rw [Ae (by simpa using hi),Ao]
  cases ej:caps[i]? with
  |none=>rw [ej] at e;cases e
  |some j =>
   rw [ej] at e
   have e':(r[j]?).join=some p:=Am e
   have e2:r[j]? = some (some p):=by
    cases q:r[j]? with
    |none=>rw [q] at e';cases e'
    |some o=>rw [q] at e';exact CH some e'
   obtain ⟨v,h1,h2⟩:=R.2 j p e2
   refine ⟨v,?_,h2⟩
   show some (σ[j]?).join=some (some v)
   rw [h1];rfl
 ·rw [Af (by simpa using hi),BC] at e
  split at e <;> cases e
theorem ja {K:W.Frag} {H:Hp} {b:Bz} {J:It} {w:ItP} {D:Addr} {o:HO} (h:yx K H b J w) (hD:H D=none):yx K (upd H D o) ⟨b.b,D::b.z⟩ J w:=fun H1 b1 st1 e S g=>h H1 b1 st1 ((WE.hide hD).trans e) S g
theorem QN {X:Cx} {E:XK} {elt:Expr} {c:Comprehension} {cs:List Comprehension} {scope:Scope} {pos:Pos} {capN locN:List Str} {caps:List Nat} {fi:FI} {g:FG} {ts:List FT} {gs:List GenF} {f:FE} (hcs:CSc X scope capN locN caps)
  (hi:VI X E c.target c.iter fi) (sub:∀ s H fp pn,VE (cCx X scope (capN++locN) s H fp pn) E0 elt f∧GOk (cCx X scope (capN++locN) s H fp pn) c ⟨fi,g,ts⟩∧GsOk (cCx X scope (capN++locN) s H fp pn) cs gs)
  (hs:∀ x,foldedSetIterable c.iter X.env x=pure x:=by intro _;rfl):VN X E (.ListComp elt (c::cs) scope pos) (qc caps locN.length fi g ts gs f):=by
 intro pins s σ H Q I hq
 obtain ⟨b,r,st,S,RE,P⟩:=hq
 have hfree:∀ x∈scope.names,x.2 = .free -> ∃ c,X.env.cells.lookup x.1=some c:=fun x hx hk=>I.ok.has x.1 (hcs.fr x hx hk)
 obtain ⟨c1,c2,c3,c4⟩:=c
 have hasy:c4=0:=(sub s H [] []).2.1.asy
 subst hasy
 rw [eval_ListComp]
 refine wpAny_comprehension_free (use:=none) rfl hs (YU hfree) hcs.kind (fun x hx hl=>W9 hcs.nd (by rw [← hl];exact hx)) ?_
 show wpAny _ _ (eval c2 X.env) _ _ s
 unfold qc at P
 cases ef:fi r st with
 |no=>rw [ef] at P;exact P.elim
 |ex x s1 =>
  rw [ef] at P
  refine thn (hi pins s σ H (fun _ _=>False) I ⟨b,r,st,S,RE,by rw [ef];exact P⟩) fun v s2 h2=>thn h2 fun itv s3 h3 => ?_
  obtain ⟨_,_,_,_,_,_,_,_,_,_,z⟩:=h3
  exact z.elim
 |ok w s1 =>
  rw [ef] at P
  refine thn (hi pins s σ H (fun J H' => ∃ b',Ext H b H' b'∧SR X.K H' b' s1∧yx X.K H' b' J w) I ⟨b,r,st,S,RE,by rw [ef];exact fun J H' b' e' S' i'=>⟨b',e',S',i'⟩⟩) fun v s2 h2=>thn h2 fun itv s3 h3 => ?_
  obtain ⟨it,fp,tn,J,H2,rfl,I2,T,t2,f2,b2,e2,S2,i2⟩:=h3
  have P:PostN X.K E H b (match qx w.G (Qk ⟨fi,g,ts⟩ (Qx gs f) (zj caps locN.length r)) w.l s1 with | .ok l s'=>if l.length≤sizeLine then .ok l s' else .no |_ => .no) Q:=P
  cases ev:qx w.G (Qk ⟨fi,g,ts⟩ (Qx gs f) (zj caps locN.length r)) w.l s1 with
  |no=>rw [ev] at P;exact P.elim
  |ex x s4=>rw [ev] at P;exact P.elim
  |ok l st' =>
   rw [ev] at P
   have P:PostN X.K E H b (if l.length≤sizeLine then .ok l st' else .no) Q:=P
   by_cases hl:l.length≤sizeLine
   ·rw [AG hl] at P
    have hfr:H2 s3.heap.objs.size=none:=I2.hok.fresh (AL _)
    refine Cn ?_
    generalize hs3:({ s3 with heap:=s3.heap.push { cls := .type "list",data := .seq ([]:List Value).toArray } }:Shared)=s3'
    have I3:L2.Inv X pins σ (upd H2 s3.heap.objs.size (.lst [])) s3':=by
     rw [← hs3]
     exact I2.laid (t':=s3.toks) (fun a u e=>AC _ e) (AL _) (show ObjOk X.prog X.w _ _ _ (.lst []) from ⟨BJ _,[],0,.nil,AV _ rfl⟩)
    have k3:∀ a o,s3.heap.get? a=some o->s3'.heap.get? a=some o:=fun a o e=>by rw [← hs3];exact AC _ e
    have hlt:∀ a∈fp,a < s3.heap.objs.size:=fun a ha=>by
     obtain ⟨o,e,_⟩:=T.obj _ _ t2 a ha
     exact AM e
    have f3:∀ a∈fp,Zg X pins (upd H2 s3.heap.objs.size (.lst [])) a:=fun a ha=>⟨by rw [qU (AZ (hlt a ha))];exact (f2 a ha).1,(f2 a ha).2⟩
    have hlt3:∀ a∈fp,a < s3'.heap.objs.size:=fun a ha=>by
     obtain ⟨o,e,_⟩:=T.obj _ _ t2 a ha
     exact AM (k3 a o e)
    generalize hD:s3.heap.objs.size=D at I3 f3 hfr
    refine qAm ?_
    have J0:=YZ hcs I3 f3 hlt3 rfl
    obtain ⟨he,hg,hgs⟩:=sub s3' (upd H2 D (.lst [])) fp (X.pn++pins)
    have k4:∀ a o,s3'.heap.get? a=some o->(pushCells (s3'.heap.push { cls := .type "dict",data := .dict #[] }) scope.names).get? a=some o:=fun a o e=>Cf _ _ _ _ (AC _ e)
    have hDz:D ∉ b2.z:=(S2.new_notin hfr).2
    have loop:=jd (X:=cCx X scope (capN++locN) s3' (upd H2 D (.lst [])) fp (X.pn++pins)) (fun _ _ z=>z) (gens:=⟨c1,c2,c3,0⟩::cs) (scope:=scope) (pos:=pos) (D:=D) he gs cs 0 ⟨c1,c2,c3,0⟩ ⟨fi,g,ts⟩ rfl hg hgs [] _ _ _ ⟨b2.b,D::b2.z⟩ (zj caps locN.length r) s1 st' it fp tn J w [] l
     (compPost (model X.prog X.w) X.A X.xe none (EP X pins σ Q) (.ref D) s3'.heap.objs.size) J0 (SR.hide S2 hfr) (qAN ((RE.ext e2).wext (WE.hide hfr))) AI Qd T (T.keep _ _ _ t2 fun a ha o e=>k4 a o (k3 a o e))
     (fun a ha=>⟨(f3 a ha).1,(J0.ok.exf a ha).1,J0.ok.exfs a ha,.inl ha,(J0.ok.exf a ha).2,fun p hp=>(f3 a ha).2.2.2.2.2 p (by simpa [cCx] using hp)⟩) (ja i2 hfr) ev (by simpa using hl)
     (fun s' σ' H' b' lV I' e' S' R' hD' r'=>by
      obtain ⟨m,hn,_⟩:=I'.loc
      refine ⟨m,hn,fun h'' sb => ?_⟩
      have fin:=qAj I3 f3 I' sb
      have hz':b'.z=D::b2.z:=e'.same
      refine ⟨.ref D,H',fin,rfl,?_⟩
      have ex:Ext H2 b2 H' ⟨b'.b,b2.z⟩:=by
       refine ⟨⟨?_,⟨[],rfl,by simp⟩,fun a o ha ho => ?_,fun a o ha => ?_⟩,rfl,fun a o hz ha => ?_,fun a o u ha=>e'.fz a o u (qQ ha hfr) (by rw [qU (qQ ha hfr)];exact ha)⟩
       ·obtain ⟨n,hb,hh⟩:=e'.more
        exact ⟨n,hb,fun a ha=>by
         have:=hh a ha
         by_cases q:a=D
         ·rw [q];exact hfr
         ·rwa [qU q] at this⟩
       ·have hne:a≠D:=qQ ha hfr
        exact e'.keep a o (by rw [qU hne];exact ha) ⟨ho.1,fun z=>(AJ.mp z).elim hne ho.2⟩
       ·have hne:a≠D:=qQ ha hfr
        exact e'.dom a o (by rw [qU hne];exact ha)
       ·have hne:a≠D:=qQ ha hfr
        exact e'.hid a o (AD _ hz) hne (by rw [qU hne];exact ha)
      have hb':(⟨b'.b,D::b2.z⟩:Bz)=b':=by rw [← hz']
      refine P D lV H' ⟨b'.b,b2.z⟩ (e2.trans ex) (e2.none_of hfr) (by simpa using hD') hDz ?_ ?_
      ·show SR X.K H' ⟨b'.b,D::b2.z⟩ st'
       rw [hb'];exact S'
      ·show RVs X.K H' ⟨b'.b,D::b2.z⟩ l lV
       rw [hb'];exact r')
    exact zp rfl rfl loop (T.self X.A 0 _ _ _ (T.keep _ _ _ t2 fun a ha o e=>k4 a o (k3 a o e)) loop)
   ·rw [AN hl] at P;exact P.elim
def Q4 (n:Nat) (l:List PV):QO:=l.map some++List.replicate (n - l.length) none
def qGI:RS->Rs PV
 | .nx _ st => .ok .non st
 | .rt v st => .ok v st
 | .ex x st => .ex x st
 |_ => .no
def Refn (n:Nat) (r r':Rs PV):Prop := ∀ (K:W.Frag) (E:XK) (H:Hp) (b:Bz) (Q:VK),b.b.length=n->PostE K E H b r' Q->PostE K E H b r Q
theorem Refn.refl {n:Nat} {r:Rs PV}:Refn n r r:=fun _ _ _ _ _ _ h=>h
theorem REnv.init {K:W.Frag} {H:Hp} {b:Bz} {N:List Str} {l:List PV} {vs:List V} (h:RVs K H b l vs):REnv K H b (Q4 N.length l) (start N vs):=by
 have hl:=h.length
 refine ⟨by simp [Q4,L2.start,hl],fun i p e => ?_⟩
 unfold Q4 at e
 unfold L2.start
 by_cases hi:i < l.length
 ·rw [Ae (by simpa using hi),Ao] at e
  rw [Ae (by simpa [← hl] using hi),Ao]
  cases q:l[i]? with
  |none=>rw [q] at e;cases e
  |some p' =>
   rw [q] at e
   cases e
   obtain ⟨v,h1,h2⟩:=h.get q
   exact ⟨v,by rw [h1];rfl,h2⟩
 ·rw [Af (by simpa using hi),BC] at e
  split at e <;> cases e
section
variable {P:Program} {w:World} {K:W.Frag} {mg:Str->Option Value} {base:Heap}
theorem okV {CX:CXT} {x qual:Str} {st:Stmt} {f:Addr} {fd:FuncData} {N ps:List Str} {k:Nat} {g:List PV->qC->Rs PV} (F:Fun K x qual st f fd) (S:FnScope N ps (qJ st))
  (body:∀ (cdv:Value) (A:Around) (outer:List Env) (s:Shared) (H:Hp) (E:XK),Room k (A.deeper (envOfC qual (qJ st) s.heap.objs.size f cdv))->(0 < k->A.handled=none) ->
   ∃ B:FS,VSs (wj CX P w K mg base N qual (qJ st) f cdv A outer s H E) E (qZ st) B ∧ ∀ l s0,l.length=ps.length->g l s0 ≠ .no->Refn s0.length (qGI (B (Q4 N.length l) s0)) (g l s0)):FnOk P w K mg base CX (k + 1) f fd ps (spG K ps.length g):=by
 obtain ⟨oc,od,kV,doc,pm,an,cdv,ct,osl,rfl,lk,hcd⟩:=F.ex
 refine qJ9 lk hcd S (fun vs H Q E h=>h.1) fun A outer s H vs Q E hr hcm hsp => ?_
 obtain ⟨B,hB,hg⟩:=body cdv A outer s H E hr hcm
 obtain ⟨hl,b,l,st0,S0,r0,P0⟩:=hsp
 refine ⟨_,hB,b,Q4 N.length l,st0,S0,REnv.init r0,?_⟩
 have hne:g l st0 ≠ .no:=fun z=>by rw [z] at P0;exact P0
 have P1:=hg l st0 (by rw [r0.length];exact hl) hne K E H b Q S0.len P0
 cases e:B (Q4 N.length l) st0 with
 |nx r st=>rw [e] at P1;exact fun s H' b' e' S' R'=>P1 .non H' b' e' S' (by unfold RV;rfl)
 |rt v st=>rw [e] at P1;exact P1
 |bk r st=>rw [e] at P1;exact P1.elim
 |ct r st=>rw [e] at P1;exact P1.elim
 |ex x st=>rw [e] at P1;exact P1
 |no=>rw [e] at P1;exact P1.elim
end
mutual
def peq:PV->PV->Bool
 | .non,.non=>true
 | .bl a,.bl c=>a==c
 | .int a,.int c=>a==c
 | .bl a,.int c=>(if a then 1 else 0)==c
 | .int a,.bl c=>a==(if c then 1 else 0)
 | .str a,.str c=>a==c
 | .tup l,.tup m=>peqs l m
 | .lst l,.lst m=>peqs l m
 |_,_=>false
def peqs:List PV->List PV->Bool
 |[],[]=>true
 |p::ps,q::qs=>peq p q&&peqs ps qs
 |_,_=>false
end
mutual
def nr:PV->Bool
 | .tup l=>nrs l
 | .lst l=>nrs l
 | .ref _=>false
 | .dct=>false
 | .ty _=>false
 | .fn _=>false
 | .exc _ _=>false
 |_=>true
def nrs:List PV->Bool
 |[]=>true
 |p::ps=>nr p&&nrs ps
end
mutual
def dep:PV->Nat
 | .tup l=>deps l + 1
 | .lst l=>deps l + 1
 |_=>0
def deps:List PV->Nat
 |[]=>0
 |p::ps=>max (dep p) (deps ps)
end
mutual
def RW (K:W.Frag) (H:Hp):PV->V->Prop
 | .non,v=>v = .non
 | .bl x,v=>v = .bl x
 | .int i,v=>v = .int i
 | .str x,v=>v = .str x
 | .tup l,v => ∃ a xs,v = .ref a∧SqT K H a xs∧RWs K H l xs
 | .lst l,v => ∃ a xs,v = .ref a∧SqL K H a xs∧RWs K H l xs
 |_,_=>False
def RWs (K:W.Frag) (H:Hp):List PV->List V->Prop
 |[],xs=>xs=[]
 |p::ps,xs => ∃ x r,xs=x::r∧RW K H p x∧RWs K H ps r
end
mutual
theorem RV.rw {K:W.Frag} {H:Hp} {b:Bz}:∀ (p:PV) {v:V},nr p=true->RV K H b p v->RW K H p v
 | .non,_,_,h=>by unfold RV at h;unfold RW;exact h
 | .bl _,_,_,h=>by unfold RV at h;unfold RW;exact h
 | .int _,_,_,h=>by unfold RV at h;unfold RW;exact h
 | .str _,_,_,h=>by unfold RV at h;unfold RW;exact h
 | .tup l,_,n,h=>by
  unfold RV at h;unfold RW;unfold nr at n
  obtain ⟨a,xs,h1,h2,h3⟩:=h
  exact ⟨a,xs,h1,h2.sq,RVs.rws l n h3⟩
 | .lst l,_,n,h=>by
  unfold RV at h;unfold RW;unfold nr at n
  obtain ⟨a,xs,h1,h2,h3⟩:=h
  exact ⟨a,xs,h1,h2.sq,RVs.rws l n h3⟩
 | .ref _,_,n,_=>by unfold nr at n;cases n
 | .dct,_,n,_=>by unfold nr at n;cases n
 | .ty _,_,n,_=>by unfold nr at n;cases n
 | .fn _,_,n,_=>by unfold nr at n;cases n
 | .exc _ _,_,n,_=>by unfold nr at n;cases n
theorem RVs.rws {K:W.Frag} {H:Hp} {b:Bz}:∀ (l:List PV) {xs:List V},nrs l=true->RVs K H b l xs->RWs K H l xs
 |[],_,_,h=>by unfold RVs at h;unfold RWs;exact h
 |p::ps,_,n,h=>by
  unfold RVs at h;unfold RWs;unfold nrs at n
  rw [Aj] at n
  obtain ⟨x,r,h1,h2,h3⟩:=h
  exact ⟨x,r,h1,RV.rw p n.1 h2,RVs.rws ps n.2 h3⟩
end
theorem RWs.length {K:W.Frag} {H:Hp}:∀ {l:List PV} {xs:List V},RWs K H l xs->l.length=xs.length
 |[],_,h=>by unfold RWs at h;rw [h];rfl
 |p::ps,_,h=>by
  unfold RWs at h
  obtain ⟨x,r,rfl,_,h3⟩:=h
  rw [AU,AU,RWs.length h3]
section
variable {X:Cx} {pins:List (Addr×Obj)} {σ:L2.St} {H:Hp} {s:Shared}
theorem Z6 (I:L2.Inv X pins σ H s) {a:Addr} {xs ys:List V} (h1:SqL X.K H a xs) (h2:SqT X.K H a ys):False:=by
 obtain ⟨its,_,p,_⟩:=I.list h1
 obtain ⟨its',_,q,_⟩:=I.tuple h2
 obtain ⟨o,ho,hc,n,hd⟩:=p.isList
 obtain ⟨o',ho',hc',_⟩:=q
 rw [ho] at ho';cases ho'
 rw [hc] at hc'
 injection hc' with z
 exact absurd z (by decide)
mutual
theorem RW.same (I:L2.Inv X pins σ H s):∀ (p q:PV) {v:V},RW X.K H p v->RW X.K H q v->peq p q=true
 | .non,q,v,h,g=>by
  unfold RW at h;subst h
  cases q <;> unfold RW at g <;> first |rfl |exact (g:False).elim |(obtain ⟨_,_,e,_⟩:=g;cases e) |cases g
 | .bl x,q,v,h,g=>by
  unfold RW at h;subst h
  cases q <;> unfold RW at g <;> first |(obtain ⟨_,_,e,_⟩:=g;cases e) |(cases g;simp [peq];done) |exact (g:False).elim |cases g
 | .int x,q,v,h,g=>by
  unfold RW at h;subst h
  cases q <;> unfold RW at g <;> first |(obtain ⟨_,_,e,_⟩:=g;cases e) |(cases g;simp [peq];done) |exact (g:False).elim |cases g
 | .str x,q,v,h,g=>by
  unfold RW at h;subst h
  cases q <;> unfold RW at g <;> first |(obtain ⟨_,_,e,_⟩:=g;cases e) |(cases g;simp [peq];done) |exact (g:False).elim |cases g
 | .tup l,q,v,h,g=>by
  unfold RW at h
  obtain ⟨a,xs,rfl,h2,h3⟩:=h
  cases q with
  |tup m =>
   unfold RW at g
   obtain ⟨a',ys,e,g2,g3⟩:=g
   cases e
   have:=I.tuple_inj h2 g2
   subst this
   unfold peq
   exact RWs.same I l m h3 g3
  |lst m =>
   unfold RW at g
   obtain ⟨a',ys,e,g2,g3⟩:=g
   cases e
   exact (Z6 I g2 h2).elim
  |ref _=>unfold RW at g;exact g.elim
  |dct=>unfold RW at g;exact g.elim
  |ty _=>unfold RW at g;exact g.elim
  |fn _=>unfold RW at g;exact g.elim
  |exc _ _=>unfold RW at g;exact g.elim
  |non=>unfold RW at g;cases g
  |bl _=>unfold RW at g;cases g
  |int _=>unfold RW at g;cases g
  |str _=>unfold RW at g;cases g
 | .lst l,q,v,h,g=>by
  unfold RW at h
  obtain ⟨a,xs,rfl,h2,h3⟩:=h
  cases q with
  |lst m =>
   unfold RW at g
   obtain ⟨a',ys,e,g2,g3⟩:=g
   cases e
   have:=I.list_inj h2 g2
   subst this
   unfold peq
   exact RWs.same I l m h3 g3
  |tup m =>
   unfold RW at g
   obtain ⟨a',ys,e,g2,g3⟩:=g
   cases e
   exact (Z6 I h2 g2).elim
  |ref _=>unfold RW at g;exact g.elim
  |dct=>unfold RW at g;exact g.elim
  |ty _=>unfold RW at g;exact g.elim
  |fn _=>unfold RW at g;exact g.elim
  |exc _ _=>unfold RW at g;exact g.elim
  |non=>unfold RW at g;cases g
  |bl _=>unfold RW at g;cases g
  |int _=>unfold RW at g;cases g
  |str _=>unfold RW at g;cases g
 | .ref _,_,_,h,_=>by unfold RW at h;exact h.elim
 | .dct,_,_,h,_=>by unfold RW at h;exact h.elim
 | .ty _,_,_,h,_=>by unfold RW at h;exact h.elim
 | .fn _,_,_,h,_=>by unfold RW at h;exact h.elim
 | .exc _ _,_,_,h,_=>by unfold RW at h;exact h.elim
theorem RWs.same (I:L2.Inv X pins σ H s):∀ (l m:List PV) {xs:List V},RWs X.K H l xs->RWs X.K H m xs->peqs l m=true
 |[],m,xs,h,g=>by
  unfold RWs at h;subst h
  cases m with
  |nil=>rfl
  |cons _ _=>unfold RWs at g;obtain ⟨_,_,e,_⟩:=g;cases e
 |p::ps,m,xs,h,g=>by
  unfold RWs at h
  obtain ⟨x,r,rfl,h2,h3⟩:=h
  cases m with
  |nil=>unfold RWs at g;cases g
  |cons q qs =>
   unfold RWs at g
   obtain ⟨y,t,e,g2,g3⟩:=g
   cases e
   unfold peqs
   rw [RW.same I p q h2 g2,RWs.same I ps qs h3 g3];rfl
end
def eqN (l m:List PV) (j:Nat):Bool:=match l[j]?,m[j]? with
 |some p,some q=>peq p q
 |_,_=>false
theorem zk:∀ (l m:List PV),l.length=m.length->(List.range l.length).all (eqN l m)=peqs l m
 |[],[],_=>rfl
 |p::ps,q::qs,h=>by
  have ih:=zk ps qs (by simpa using h)
  rw [AU,CI,Cm,List.all_map]
  unfold peqs
  have e0:eqN (p::ps) (q::qs) 0=peq p q:=rfl
  have e1:(eqN (p::ps) (q::qs) ∘ Nat.succ)=eqN ps qs:=by funext j;rfl
  rw [e0,e1,ih]
 |[],_::_,h=>by simp at h
 |_::_,[],h=>by simp at h
theorem W5:∀ (l m:List PV),l.length≠m.length->peqs l m=false
 |[],[],h=>absurd rfl h
 |[],_::_,_=>rfl
 |_::_,[],_=>rfl
 |p::ps,q::qs,h=>by
  unfold peqs
  rw [W5 ps qs (by intro z;apply h;rw [AU,AU,z]),B5]
theorem RWs.get' {K:W.Frag} {H:Hp}:∀ {l:List PV} {xs:List V} {i:Nat} {x:V},RWs K H l xs->xs[i]? = some x -> ∃ p,l[i]? = some p∧RW K H p x
 |[],_,_,_,h,e=>by unfold RWs at h;subst h;simp at e
 |p::ps,_,0,x,h,e=>by
  unfold RWs at h
  obtain ⟨y,r,rfl,h2,h3⟩:=h
  simp at e;subst e
  exact ⟨p,rfl,h2⟩
 |p::ps,_,i + 1,x,h,e=>by
  unfold RWs at h
  obtain ⟨y,r,rfl,h2,h3⟩:=h
  obtain ⟨q,e1,e2⟩:=RWs.get' (i:=i) h3 (by simpa using e)
  exact ⟨q,by simpa using e1,e2⟩
theorem Vals.get2:∀ {xs:List V} {us:List Value} {i:Nat} {u:Value},Vals xs us->us[i]? = some u -> ∃ x,xs[i]? = some x∧RelV x u
 |_,_,_,_,.nil,e=>by simp at e
 |_,_,0,_,.cons r _,e=>by simp at e;subst e;exact ⟨_,rfl,r⟩
 |_,_,i + 1,u,.cons _ t,e=>by
  obtain ⟨x,h1,h2⟩:=Vals.get2 (i:=i) (u:=u) t (by simpa using e)
  exact ⟨x,by simpa using h1,h2⟩
theorem wJ (I:L2.Inv X pins σ H s) (p q:PV) {v u:V} {uv uu:Value} {A:Around} (hd:dep p=0) (hu':A.units < cLine) (hp:RW X.K H p v) (hq:RW X.K H q u) (rv:RelV v uv) (ru:RelV u uu):SeqAt.EqAt A s uv uu (peq p q):=by
 cases p with
 |tup l=>unfold dep at hd;omega
 |lst l=>unfold dep at hd;omega
 |ref _=>unfold RW at hp;exact hp.elim
 |dct=>unfold RW at hp;exact hp.elim
 |ty _=>unfold RW at hp;exact hp.elim
 |fn _=>unfold RW at hp;exact hp.elim
 |exc _ _=>unfold RW at hp;exact hp.elim
 |non =>
  unfold RW at hp;subst hp;cases rv
  cases q with
  |non=>unfold RW at hq;subst hq;cases ru;exact SeqAt.EqAt.same _
  |bl _=>unfold RW at hq;subst hq;cases ru;exact SeqAt.EqAt.none_bool _
  |int _=>unfold RW at hq;subst hq;obtain ⟨t,rfl⟩:=ru;exact SeqAt.EqAt.none_int _ _
  |str _=>unfold RW at hq;subst hq;obtain ⟨t,rfl⟩:=ru;exact SeqAt.EqAt.none_str _ _
  |tup _=>unfold RW at hq;obtain ⟨a,xs,rfl,h2,_⟩:=hq;cases ru;obtain ⟨its,_,t,_⟩:=I.tuple h2;exact SeqAt.EqAt.none_tuple t hu'
  |lst _=>unfold RW at hq;obtain ⟨a,xs,rfl,h2,_⟩:=hq;cases ru;obtain ⟨its,_,t,_⟩:=I.list h2;exact SeqAt.EqAt.none_list t.isList hu'
  |ref _=>unfold RW at hq;exact hq.elim
  |dct=>unfold RW at hq;exact hq.elim
  |ty _=>unfold RW at hq;exact hq.elim
  |fn _=>unfold RW at hq;exact hq.elim
  |exc _ _=>unfold RW at hq;exact hq.elim
 |bl x =>
  unfold RW at hp;subst hp;cases rv
  cases q with
  |non=>unfold RW at hq;subst hq;cases ru;exact SeqAt.EqAt.bool_none _
  |bl _=>unfold RW at hq;subst hq;cases ru;exact SeqAt.EqAt.bool_bool _ _
  |int _=>unfold RW at hq;subst hq;obtain ⟨t,rfl⟩:=ru;exact SeqAt.EqAt.bool_int _ _ _
  |str _=>unfold RW at hq;subst hq;obtain ⟨t,rfl⟩:=ru;exact SeqAt.EqAt.bool_str _ _ _
  |tup _=>unfold RW at hq;obtain ⟨a,xs,rfl,h2,_⟩:=hq;cases ru;obtain ⟨its,_,t,_⟩:=I.tuple h2;exact SeqAt.EqAt.bool_tuple _ t hu'
  |lst _=>unfold RW at hq;obtain ⟨a,xs,rfl,h2,_⟩:=hq;cases ru;obtain ⟨its,_,t,_⟩:=I.list h2;exact SeqAt.EqAt.bool_list _ t.isList hu'
  |ref _=>unfold RW at hq;exact hq.elim
  |dct=>unfold RW at hq;exact hq.elim
  |ty _=>unfold RW at hq;exact hq.elim
  |fn _=>unfold RW at hq;exact hq.elim
  |exc _ _=>unfold RW at hq;exact hq.elim
 |int x =>
  unfold RW at hp;subst hp;obtain ⟨t0,rfl⟩:=rv
  cases q with
  |non=>unfold RW at hq;subst hq;cases ru;exact SeqAt.EqAt.int_none _ _
  |bl _=>unfold RW at hq;subst hq;cases ru;exact SeqAt.EqAt.int_bool _ _ _
  |int _=>unfold RW at hq;subst hq;obtain ⟨t,rfl⟩:=ru;exact SeqAt.EqAt.int_int _ _ _ _
  |str _=>unfold RW at hq;subst hq;obtain ⟨t,rfl⟩:=ru;exact SeqAt.EqAt.int_str _ _ _ _
  |tup _=>unfold RW at hq;obtain ⟨a,xs,rfl,h2,_⟩:=hq;cases ru;obtain ⟨its,_,t,_⟩:=I.tuple h2;exact SeqAt.EqAt.int_tuple _ _ t hu'
  |lst _=>unfold RW at hq;obtain ⟨a,xs,rfl,h2,_⟩:=hq;cases ru;obtain ⟨its,_,t,_⟩:=I.list h2;exact SeqAt.EqAt.int_list _ _ t.isList hu'
  |ref _=>unfold RW at hq;exact hq.elim
  |dct=>unfold RW at hq;exact hq.elim
  |ty _=>unfold RW at hq;exact hq.elim
  |fn _=>unfold RW at hq;exact hq.elim
  |exc _ _=>unfold RW at hq;exact hq.elim
 |str x =>
  unfold RW at hp;subst hp;obtain ⟨t0,rfl⟩:=rv
  cases q with
  |non=>unfold RW at hq;subst hq;cases ru;exact SeqAt.EqAt.str_none _ _
  |bl _=>unfold RW at hq;subst hq;cases ru;exact SeqAt.EqAt.str_bool _ _ _
  |int _=>unfold RW at hq;subst hq;obtain ⟨t,rfl⟩:=ru;exact SeqAt.EqAt.str_int _ _ _ _
  |str _=>unfold RW at hq;subst hq;obtain ⟨t,rfl⟩:=ru;exact SeqAt.EqAt.str_str _ _ _ _
  |tup _=>unfold RW at hq;obtain ⟨a,xs,rfl,h2,_⟩:=hq;cases ru;obtain ⟨its,_,t,_⟩:=I.tuple h2;exact SeqAt.EqAt.str_tuple _ _ t hu'
  |lst _=>unfold RW at hq;obtain ⟨a,xs,rfl,h2,_⟩:=hq;cases ru;obtain ⟨its,_,t,_⟩:=I.list h2;exact SeqAt.EqAt.str_list _ _ t.isList hu'
  |ref _=>unfold RW at hq;exact hq.elim
  |dct=>unfold RW at hq;exact hq.elim
  |ty _=>unfold RW at hq;exact hq.elim
  |fn _=>unfold RW at hq;exact hq.elim
  |exc _ _=>unfold RW at hq;exact hq.elim
theorem zZ:∀ {l:List PV} {i:Nat} {p:PV},l[i]? = some p->dep p≤deps l
 |[],_,_,h=>by simp at h
 |q::qs,0,p,h=>by simp at h;subst h;unfold deps;exact Nat.le_max_left _ _
 |q::qs,i + 1,p,h=>by unfold deps;exact Aa (zZ (l:=qs) (i:=i) (by simpa using h)) (Nat.le_max_right _ _)
theorem qCt (I:L2.Inv X pins σ H s):∀ (n:Nat) (p q:PV) (v u:V) (uv uu:Value) (A:Around),dep p≤n->A.units + n < cLine->RW X.K H p v->RW X.K H q u->RelV v uv->RelV u uu->SeqAt.EqAt A s uv uu (peq p q):=by
 intro n
 induction n with
 |zero=>intro p q v u uv uu A hd hu hp hq rv ru;exact wJ I p q (Nat.le_zero.mp hd) hu hp hq rv ru
 |succ n ih =>
  intro p q v u uv uu A hd hu hp hq rv ru
  have hu':A.units < cLine:=BY (Bu _ _) hu
  have hin:A.in1.units + n < cLine:=by show A.units + 1 + n < cLine;omega
  have elt:∀ {l m:List PV} {xs ys:List V} {its its2:List Value},deps l≤n->RWs X.K H l xs->RWs X.K H m ys->Vals xs its->Vals ys its2 -> ∀ j (h1:j < its.toArray.size) (h2:j < its2.toArray.size),SeqAt.EqAt A.in1 s its.toArray[j] its2.toArray[j] (eqN l m j):=fun {l m xs ys its its2} hdl hl hm vl vm j h1 h2=>by
   have e1:its[j]? = some its.toArray[j]:=by simp
   have e2:its2[j]? = some its2.toArray[j]:=by simp
   obtain ⟨x,hx,rx⟩:=Vals.get2 vl e1
   obtain ⟨y,hy,ry⟩:=Vals.get2 vm e2
   obtain ⟨p',hp',rp'⟩:=RWs.get' hl hx
   obtain ⟨q',hq',rq'⟩:=RWs.get' hm hy
   have:eqN l m j=peq p' q':=by unfold eqN;rw [hp',hq']
   rw [this]
   exact ih p' q' x y _ _ A.in1 (Aa (zZ hp') hdl) hin rp' rq' rx ry
  cases p with
  |tup l =>
   have hp0:=hp
   unfold RW at hp
   unfold dep at hd
   obtain ⟨a,xs,rfl,h2,h3⟩:=hp
   cases rv
   obtain ⟨its,vl,tl,_⟩:=I.tuple h2
   cases q with
   |non=>unfold RW at hq;subst hq;cases ru;exact SeqAt.EqAt.tuple_none tl hu'
   |bl _=>unfold RW at hq;subst hq;cases ru;exact SeqAt.EqAt.tuple_bool _ tl hu'
   |int _=>unfold RW at hq;subst hq;obtain ⟨t,rfl⟩:=ru;exact SeqAt.EqAt.tuple_int _ _ tl hu'
   |str _=>unfold RW at hq;subst hq;obtain ⟨t,rfl⟩:=ru;exact SeqAt.EqAt.tuple_str _ _ tl hu'
   |lst _=>unfold RW at hq;obtain ⟨a,xs,rfl,h2,_⟩:=hq;cases ru;obtain ⟨its,_,t,_⟩:=I.list h2;exact SeqAt.EqAt.tuple_list tl t.isList hu'
   |ref _=>unfold RW at hq;exact hq.elim
   |dct=>unfold RW at hq;exact hq.elim
   |ty _=>unfold RW at hq;exact hq.elim
   |fn _=>unfold RW at hq;exact hq.elim
   |exc _ _=>unfold RW at hq;exact hq.elim
   |tup m =>
    have hq0:=hq
    unfold RW at hq
    obtain ⟨a2,ys,rfl,g2,g3⟩:=hq
    cases ru
    obtain ⟨its2,vm,tm,_⟩:=I.tuple g2
    by_cases ha:a=a2
    ·subst ha
     rw [RW.same I _ _ hp0 hq0]
     exact SeqAt.EqAt.same _
    ·refine SeqAt.EqAt.of_refs ha ?_
     have rc:=SeqAt.RcAt.tuples (e:=eqN l m) tl tm hu' (elt (by omega) h3 g3 vl vm)
     have hl1:its.toArray.size=l.length:=by rw [AS,← vl.length,h3.length]
     have hl2:its2.toArray.size=m.length:=by rw [AS,← vm.length,g3.length]
     rw [hl1,hl2] at rc
     have e:((List.range (min l.length m.length)).all (eqN l m)&&l.length==m.length)=peq (.tup l) (.tup m):=by
      unfold peq
      by_cases hlm:l.length=m.length
      ·rw [← hlm,Nat.min_self,zk l m hlm,At,Bool.and_true]
      ·rw [W5 l m hlm,B2 hlm,B5]
     rw [e] at rc
     exact rc
  |lst l =>
   have hp0:=hp
   unfold RW at hp
   unfold dep at hd
   obtain ⟨a,xs,rfl,h2,h3⟩:=hp
   cases rv
   obtain ⟨its,vl,tl',_⟩:=I.list h2
   have tl:=tl'.isList
   cases q with
   |non=>unfold RW at hq;subst hq;cases ru;exact SeqAt.EqAt.list_none tl hu'
   |bl _=>unfold RW at hq;subst hq;cases ru;exact SeqAt.EqAt.list_bool _ tl hu'
   |int _=>unfold RW at hq;subst hq;obtain ⟨t,rfl⟩:=ru;exact SeqAt.EqAt.list_int _ _ tl hu'
   |str _=>unfold RW at hq;subst hq;obtain ⟨t,rfl⟩:=ru;exact SeqAt.EqAt.list_str _ _ tl hu'
   |tup _=>unfold RW at hq;obtain ⟨a,xs,rfl,h2,_⟩:=hq;cases ru;obtain ⟨its,_,t,_⟩:=I.tuple h2;exact SeqAt.EqAt.list_tuple tl t hu'
   |ref _=>unfold RW at hq;exact hq.elim
   |dct=>unfold RW at hq;exact hq.elim
   |ty _=>unfold RW at hq;exact hq.elim
   |fn _=>unfold RW at hq;exact hq.elim
   |exc _ _=>unfold RW at hq;exact hq.elim
   |lst m =>
    have hq0:=hq
    unfold RW at hq
    obtain ⟨a2,ys,rfl,g2,g3⟩:=hq
    cases ru
    obtain ⟨its2,vm,tm',_⟩:=I.list g2
    have tm:=tm'.isList
    by_cases ha:a=a2
    ·subst ha
     rw [RW.same I _ _ hp0 hq0]
     exact SeqAt.EqAt.same _
    ·refine SeqAt.EqAt.of_refs ha ?_
     have hl1:its.toArray.size=l.length:=by rw [AS,← vl.length,h3.length]
     have hl2:its2.toArray.size=m.length:=by rw [AS,← vm.length,g3.length]
     unfold peq
     by_cases hlm:l.length=m.length
     ·have rc:=SeqAt.RcAt.lists (e:=eqN l m) tl tm (by rw [hl1,hl2,hlm]) hu' (elt (by omega) h3 g3 vl vm)
      rw [hl1,zk l m hlm] at rc
      exact rc
     ·rw [W5 l m hlm]
      exact SeqAt.RcAt.lists_lengths tl tm (by rw [hl1,hl2];exact bne_iff_ne.mpr hlm) hu'
  |non=>exact wJ I _ q rfl hu' hp hq rv ru
  |bl _=>exact wJ I _ q rfl hu' hp hq rv ru
  |int _=>exact wJ I _ q rfl hu' hp hq rv ru
  |str _=>exact wJ I _ q rfl hu' hp hq rv ru
  |ref _=>exact wJ I _ q rfl hu' hp hq rv ru
  |dct=>exact wJ I _ q rfl hu' hp hq rv ru
  |ty _=>exact wJ I _ q rfl hu' hp hq rv ru
  |fn _=>exact wJ I _ q rfl hu' hp hq rv ru
  |exc _ _=>exact wJ I _ q rfl hu' hp hq rv ru
end
section
variable {X:Cx} {pins:List (Addr×Obj)} {σ:L2.St} {H:Hp} {s:Shared}
mutual
theorem RW.det (I:L2.Inv X pins σ H s):∀ (p q:PV) {v:V},RW X.K H p v->RW X.K H q v->p=q
 | .non,q,v,h,g=>by
  unfold RW at h;subst h
  cases q <;> unfold RW at g <;> first |rfl |exact (g:False).elim |(obtain ⟨_,_,e,_⟩:=g;cases e) |cases g
 | .bl x,q,v,h,g=>by
  unfold RW at h;subst h
  cases q <;> unfold RW at g <;> first |(obtain ⟨_,_,e,_⟩:=g;cases e) |(cases g;rfl) |exact (g:False).elim |cases g
 | .int x,q,v,h,g=>by
  unfold RW at h;subst h
  cases q <;> unfold RW at g <;> first |(obtain ⟨_,_,e,_⟩:=g;cases e) |(cases g;rfl) |exact (g:False).elim |cases g
 | .str x,q,v,h,g=>by
  unfold RW at h;subst h
  cases q <;> unfold RW at g <;> first |(obtain ⟨_,_,e,_⟩:=g;cases e) |(cases g;rfl) |exact (g:False).elim |cases g
 | .tup l,q,v,h,g=>by
  unfold RW at h
  obtain ⟨a,xs,rfl,h2,h3⟩:=h
  cases q with
  |tup m =>
   unfold RW at g
   obtain ⟨a',ys,e,g2,g3⟩:=g
   cases e
   have:=I.tuple_inj h2 g2
   subst this
   rw [RWs.det I l m h3 g3]
  |lst m =>
   unfold RW at g
   obtain ⟨a',ys,e,g2,g3⟩:=g
   cases e
   exact (Z6 I g2 h2).elim
  |ref _=>unfold RW at g;exact g.elim
  |dct=>unfold RW at g;exact g.elim
  |ty _=>unfold RW at g;exact g.elim
  |fn _=>unfold RW at g;exact g.elim
  |exc _ _=>unfold RW at g;exact g.elim
  |non=>unfold RW at g;cases g
  |bl _=>unfold RW at g;cases g
  |int _=>unfold RW at g;cases g
  |str _=>unfold RW at g;cases g
 | .lst l,q,v,h,g=>by
  unfold RW at h
  obtain ⟨a,xs,rfl,h2,h3⟩:=h
  cases q with
  |lst m =>
   unfold RW at g
   obtain ⟨a',ys,e,g2,g3⟩:=g
   cases e
   have:=I.list_inj h2 g2
   subst this
   rw [RWs.det I l m h3 g3]
  |tup m =>
   unfold RW at g
   obtain ⟨a',ys,e,g2,g3⟩:=g
   cases e
   exact (Z6 I h2 g2).elim
  |ref _=>unfold RW at g;exact g.elim
  |dct=>unfold RW at g;exact g.elim
  |ty _=>unfold RW at g;exact g.elim
  |fn _=>unfold RW at g;exact g.elim
  |exc _ _=>unfold RW at g;exact g.elim
  |non=>unfold RW at g;cases g
  |bl _=>unfold RW at g;cases g
  |int _=>unfold RW at g;cases g
  |str _=>unfold RW at g;cases g
 | .ref _,_,_,h,_=>by unfold RW at h;exact h.elim
 | .dct,_,_,h,_=>by unfold RW at h;exact h.elim
 | .ty _,_,_,h,_=>by unfold RW at h;exact h.elim
 | .fn _,_,_,h,_=>by unfold RW at h;exact h.elim
 | .exc _ _,_,_,h,_=>by unfold RW at h;exact h.elim
theorem RWs.det (I:L2.Inv X pins σ H s):∀ (l m:List PV) {xs:List V},RWs X.K H l xs->RWs X.K H m xs->l=m
 |[],m,xs,h,g=>by
  unfold RWs at h;subst h
  cases m with
  |nil=>rfl
  |cons _ _=>unfold RWs at g;obtain ⟨_,_,e,_⟩:=g;cases e
 |p::ps,m,xs,h,g=>by
  unfold RWs at h
  obtain ⟨x,r,rfl,h2,h3⟩:=h
  cases m with
  |nil=>unfold RWs at g;cases g
  |cons q qs =>
   unfold RWs at g
   obtain ⟨y,t,e,g2,g3⟩:=g
   cases e
   rw [RW.det I p q h2 g2,RWs.det I ps qs h3 g3]
end
theorem wZ (I:L2.Inv X pins σ H s) (p q:PV) {v u:V} {uv uu:Value} {A:Around} (hd:dep p=0) (hu':A.units < cLine) (hp:RW X.K H p v) (hq:RW X.K H q u) (rv:RelV v uv) (ru:RelV u uu):SeqAt.RcAt A s uv uu (peq p q):=by
 cases p with
 |tup l=>unfold dep at hd;omega
 |lst l=>unfold dep at hd;omega
 |ref _=>unfold RW at hp;exact hp.elim
 |dct=>unfold RW at hp;exact hp.elim
 |ty _=>unfold RW at hp;exact hp.elim
 |fn _=>unfold RW at hp;exact hp.elim
 |exc _ _=>unfold RW at hp;exact hp.elim
 |non =>
  unfold RW at hp;subst hp;cases rv
  cases q with
  |non=>unfold RW at hq;subst hq;cases ru;exact SeqAt.RcAt.none_none
  |bl _=>unfold RW at hq;subst hq;cases ru;exact SeqAt.RcAt.none_bool _
  |int _=>unfold RW at hq;subst hq;obtain ⟨t,rfl⟩:=ru;exact SeqAt.RcAt.none_int _ _
  |str _=>unfold RW at hq;subst hq;obtain ⟨t,rfl⟩:=ru;exact SeqAt.RcAt.none_str _ _
  |tup _=>unfold RW at hq;obtain ⟨a,xs,rfl,h2,_⟩:=hq;cases ru;obtain ⟨its,_,t,_⟩:=I.tuple h2;exact SeqAt.RcAt.none_tuple t hu'
  |lst _=>unfold RW at hq;obtain ⟨a,xs,rfl,h2,_⟩:=hq;cases ru;obtain ⟨its,_,t,_⟩:=I.list h2;exact SeqAt.RcAt.none_list t.isList hu'
  |ref _=>unfold RW at hq;exact hq.elim
  |dct=>unfold RW at hq;exact hq.elim
  |ty _=>unfold RW at hq;exact hq.elim
  |fn _=>unfold RW at hq;exact hq.elim
  |exc _ _=>unfold RW at hq;exact hq.elim
 |bl x =>
  unfold RW at hp;subst hp;cases rv
  cases q with
  |non=>unfold RW at hq;subst hq;cases ru;exact SeqAt.RcAt.bool_none _
  |bl _=>unfold RW at hq;subst hq;cases ru;exact SeqAt.RcAt.bool_bool _ _
  |int _=>unfold RW at hq;subst hq;obtain ⟨t,rfl⟩:=ru;exact SeqAt.RcAt.bool_int _ _ _
  |str _=>unfold RW at hq;subst hq;obtain ⟨t,rfl⟩:=ru;exact SeqAt.RcAt.bool_str _ _ _
  |tup _=>unfold RW at hq;obtain ⟨a,xs,rfl,h2,_⟩:=hq;cases ru;obtain ⟨its,_,t,_⟩:=I.tuple h2;exact SeqAt.RcAt.bool_tuple _ t hu'
  |lst _=>unfold RW at hq;obtain ⟨a,xs,rfl,h2,_⟩:=hq;cases ru;obtain ⟨its,_,t,_⟩:=I.list h2;exact SeqAt.RcAt.bool_list _ t.isList hu'
  |ref _=>unfold RW at hq;exact hq.elim
  |dct=>unfold RW at hq;exact hq.elim
  |ty _=>unfold RW at hq;exact hq.elim
  |fn _=>unfold RW at hq;exact hq.elim
  |exc _ _=>unfold RW at hq;exact hq.elim
 |int x =>
  unfold RW at hp;subst hp;obtain ⟨t0,rfl⟩:=rv
  cases q with
  |non=>unfold RW at hq;subst hq;cases ru;exact SeqAt.RcAt.int_none _ _
  |bl _=>unfold RW at hq;subst hq;cases ru;exact SeqAt.RcAt.int_bool _ _ _
  |int _=>unfold RW at hq;subst hq;obtain ⟨t,rfl⟩:=ru;exact SeqAt.RcAt.int_int _ _ _ _
  |str _=>unfold RW at hq;subst hq;obtain ⟨t,rfl⟩:=ru;exact SeqAt.RcAt.int_str _ _ _ _
  |tup _=>unfold RW at hq;obtain ⟨a,xs,rfl,h2,_⟩:=hq;cases ru;obtain ⟨its,_,t,_⟩:=I.tuple h2;exact SeqAt.RcAt.int_tuple _ _ t hu'
  |lst _=>unfold RW at hq;obtain ⟨a,xs,rfl,h2,_⟩:=hq;cases ru;obtain ⟨its,_,t,_⟩:=I.list h2;exact SeqAt.RcAt.int_list _ _ t.isList hu'
  |ref _=>unfold RW at hq;exact hq.elim
  |dct=>unfold RW at hq;exact hq.elim
  |ty _=>unfold RW at hq;exact hq.elim
  |fn _=>unfold RW at hq;exact hq.elim
  |exc _ _=>unfold RW at hq;exact hq.elim
 |str x =>
  unfold RW at hp;subst hp;obtain ⟨t0,rfl⟩:=rv
  cases q with
  |non=>unfold RW at hq;subst hq;cases ru;exact SeqAt.RcAt.str_none _ _
  |bl _=>unfold RW at hq;subst hq;cases ru;exact SeqAt.RcAt.str_bool _ _ _
  |int _=>unfold RW at hq;subst hq;obtain ⟨t,rfl⟩:=ru;exact SeqAt.RcAt.str_int _ _ _ _
  |str _=>unfold RW at hq;subst hq;obtain ⟨t,rfl⟩:=ru;exact SeqAt.RcAt.str_str _ _ _ _
  |tup _=>unfold RW at hq;obtain ⟨a,xs,rfl,h2,_⟩:=hq;cases ru;obtain ⟨its,_,t,_⟩:=I.tuple h2;exact SeqAt.RcAt.str_tuple _ _ t hu'
  |lst _=>unfold RW at hq;obtain ⟨a,xs,rfl,h2,_⟩:=hq;cases ru;obtain ⟨its,_,t,_⟩:=I.list h2;exact SeqAt.RcAt.str_list _ _ t.isList hu'
  |ref _=>unfold RW at hq;exact hq.elim
  |dct=>unfold RW at hq;exact hq.elim
  |ty _=>unfold RW at hq;exact hq.elim
  |fn _=>unfold RW at hq;exact hq.elim
  |exc _ _=>unfold RW at hq;exact hq.elim
theorem wa (I:L2.Inv X pins σ H s) (p q:PV) {v u:V} {uv uu:Value} {A:Around} (hd:dep p=0) (hu':A.units < cLine) (hp:RW X.K H p v) (hq:RW X.K H q u) (rv:RelV v uv) (ru:RelV u uu):SeqAt.RcNeAt A s uv uu (!peq p q):=by
 cases p with
 |tup l=>unfold dep at hd;omega
 |lst l=>unfold dep at hd;omega
 |ref _=>unfold RW at hp;exact hp.elim
 |dct=>unfold RW at hp;exact hp.elim
 |ty _=>unfold RW at hp;exact hp.elim
 |fn _=>unfold RW at hp;exact hp.elim
 |exc _ _=>unfold RW at hp;exact hp.elim
 |non =>
  unfold RW at hp;subst hp;cases rv
  cases q with
  |non=>unfold RW at hq;subst hq;cases ru;exact SeqAt.RcNeAt.none_none
  |bl _=>unfold RW at hq;subst hq;cases ru;exact SeqAt.RcNeAt.none_bool _
  |int _=>unfold RW at hq;subst hq;obtain ⟨t,rfl⟩:=ru;exact SeqAt.RcNeAt.none_int _ _
  |str _=>unfold RW at hq;subst hq;obtain ⟨t,rfl⟩:=ru;exact SeqAt.RcNeAt.none_str _ _
  |tup _=>unfold RW at hq;obtain ⟨a,xs,rfl,h2,_⟩:=hq;cases ru;obtain ⟨its,_,t,_⟩:=I.tuple h2;exact SeqAt.RcNeAt.none_tuple t hu'
  |lst _=>unfold RW at hq;obtain ⟨a,xs,rfl,h2,_⟩:=hq;cases ru;obtain ⟨its,_,t,_⟩:=I.list h2;exact SeqAt.RcNeAt.none_list t.isList hu'
  |ref _=>unfold RW at hq;exact hq.elim
  |dct=>unfold RW at hq;exact hq.elim
  |ty _=>unfold RW at hq;exact hq.elim
  |fn _=>unfold RW at hq;exact hq.elim
  |exc _ _=>unfold RW at hq;exact hq.elim
 |bl x =>
  unfold RW at hp;subst hp;cases rv
  cases q with
  |non=>unfold RW at hq;subst hq;cases ru;exact SeqAt.RcNeAt.bool_none _
  |bl _=>unfold RW at hq;subst hq;cases ru;exact SeqAt.RcNeAt.bool_bool _ _
  |int _=>unfold RW at hq;subst hq;obtain ⟨t,rfl⟩:=ru;exact SeqAt.RcNeAt.bool_int _ _ _
  |str _=>unfold RW at hq;subst hq;obtain ⟨t,rfl⟩:=ru;exact SeqAt.RcNeAt.bool_str _ _ _
  |tup _=>unfold RW at hq;obtain ⟨a,xs,rfl,h2,_⟩:=hq;cases ru;obtain ⟨its,_,t,_⟩:=I.tuple h2;exact SeqAt.RcNeAt.bool_tuple _ t hu'
  |lst _=>unfold RW at hq;obtain ⟨a,xs,rfl,h2,_⟩:=hq;cases ru;obtain ⟨its,_,t,_⟩:=I.list h2;exact SeqAt.RcNeAt.bool_list _ t.isList hu'
  |ref _=>unfold RW at hq;exact hq.elim
  |dct=>unfold RW at hq;exact hq.elim
  |ty _=>unfold RW at hq;exact hq.elim
  |fn _=>unfold RW at hq;exact hq.elim
  |exc _ _=>unfold RW at hq;exact hq.elim
 |int x =>
  unfold RW at hp;subst hp;obtain ⟨t0,rfl⟩:=rv
  cases q with
  |non=>unfold RW at hq;subst hq;cases ru;exact SeqAt.RcNeAt.int_none _ _
  |bl _=>unfold RW at hq;subst hq;cases ru;exact SeqAt.RcNeAt.int_bool _ _ _
  |int _=>unfold RW at hq;subst hq;obtain ⟨t,rfl⟩:=ru;exact SeqAt.RcNeAt.int_int _ _ _ _
  |str _=>unfold RW at hq;subst hq;obtain ⟨t,rfl⟩:=ru;exact SeqAt.RcNeAt.int_str _ _ _ _
  |tup _=>unfold RW at hq;obtain ⟨a,xs,rfl,h2,_⟩:=hq;cases ru;obtain ⟨its,_,t,_⟩:=I.tuple h2;exact SeqAt.RcNeAt.int_tuple _ _ t hu'
  |lst _=>unfold RW at hq;obtain ⟨a,xs,rfl,h2,_⟩:=hq;cases ru;obtain ⟨its,_,t,_⟩:=I.list h2;exact SeqAt.RcNeAt.int_list _ _ t.isList hu'
  |ref _=>unfold RW at hq;exact hq.elim
  |dct=>unfold RW at hq;exact hq.elim
  |ty _=>unfold RW at hq;exact hq.elim
  |fn _=>unfold RW at hq;exact hq.elim
  |exc _ _=>unfold RW at hq;exact hq.elim
 |str x =>
  unfold RW at hp;subst hp;obtain ⟨t0,rfl⟩:=rv
  cases q with
  |non=>unfold RW at hq;subst hq;cases ru;exact SeqAt.RcNeAt.str_none _ _
  |bl _=>unfold RW at hq;subst hq;cases ru;exact SeqAt.RcNeAt.str_bool _ _ _
  |int _=>unfold RW at hq;subst hq;obtain ⟨t,rfl⟩:=ru;exact SeqAt.RcNeAt.str_int _ _ _ _
  |str _=>unfold RW at hq;subst hq;obtain ⟨t,rfl⟩:=ru;exact SeqAt.RcNeAt.str_str _ _ _ _
  |tup _=>unfold RW at hq;obtain ⟨a,xs,rfl,h2,_⟩:=hq;cases ru;obtain ⟨its,_,t,_⟩:=I.tuple h2;exact SeqAt.RcNeAt.str_tuple _ _ t hu'
  |lst _=>unfold RW at hq;obtain ⟨a,xs,rfl,h2,_⟩:=hq;cases ru;obtain ⟨its,_,t,_⟩:=I.list h2;exact SeqAt.RcNeAt.str_list _ _ t.isList hu'
  |ref _=>unfold RW at hq;exact hq.elim
  |dct=>unfold RW at hq;exact hq.elim
  |ty _=>unfold RW at hq;exact hq.elim
  |fn _=>unfold RW at hq;exact hq.elim
  |exc _ _=>unfold RW at hq;exact hq.elim
theorem qKC (I:L2.Inv X pins σ H s) (p q:PV) {v u:V} {uv uu:Value} {A:Around} (hu:A.units + (dep p + 1) < cLine) (hp:RW X.K H p v) (hq:RW X.K H q u) (rv:RelV v uv) (ru:RelV u uu):SeqAt.RcAt A s uv uu (peq p q):=by
 have hu':A.units < cLine:=BY (Bu _ _) hu
 have elt:∀ {n:Nat} {l m:List PV} {xs ys:List V} {its its2:List Value},A.in1.units + n < cLine->deps l≤n->RWs X.K H l xs->RWs X.K H m ys->Vals xs its->Vals ys its2 -> ∀ j (h1:j < its.toArray.size) (h2:j < its2.toArray.size),SeqAt.EqAt A.in1 s its.toArray[j] its2.toArray[j] (eqN l m j):=fun {n l m xs ys its its2} hin hdl hl hm vl vm j h1 h2=>by
  have e1:its[j]? = some its.toArray[j]:=by simp
  have e2:its2[j]? = some its2.toArray[j]:=by simp
  obtain ⟨x,hx,rx⟩:=Vals.get2 vl e1
  obtain ⟨y,hy,ry⟩:=Vals.get2 vm e2
  obtain ⟨p',hp',rp'⟩:=RWs.get' hl hx
  obtain ⟨q',hq',rq'⟩:=RWs.get' hm hy
  have:eqN l m j=peq p' q':=by unfold eqN;rw [hp',hq']
  rw [this]
  exact qCt I n p' q' x y _ _ A.in1 (Aa (zZ hp') hdl) hin rp' rq' rx ry
 cases p with
 |tup l =>
  have hp0:=hp
  unfold RW at hp
  obtain ⟨a,xs,rfl,h2,h3⟩:=hp
  cases rv
  obtain ⟨its,vl,tl,_⟩:=I.tuple h2
  unfold dep at hu
  cases q with
  |non=>unfold RW at hq;subst hq;cases ru;exact SeqAt.RcAt.tuple_none tl hu'
  |bl _=>unfold RW at hq;subst hq;cases ru;exact SeqAt.RcAt.tuple_bool _ tl hu'
  |int _=>unfold RW at hq;subst hq;obtain ⟨t,rfl⟩:=ru;exact SeqAt.RcAt.tuple_int _ _ tl hu'
  |str _=>unfold RW at hq;subst hq;obtain ⟨t,rfl⟩:=ru;exact SeqAt.RcAt.tuple_str _ _ tl hu'
  |lst _=>unfold RW at hq;obtain ⟨a,xs,rfl,h2,_⟩:=hq;cases ru;obtain ⟨its,_,t,_⟩:=I.list h2;exact SeqAt.RcAt.tuple_list tl t.isList hu'
  |ref _=>unfold RW at hq;exact hq.elim
  |dct=>unfold RW at hq;exact hq.elim
  |ty _=>unfold RW at hq;exact hq.elim
  |fn _=>unfold RW at hq;exact hq.elim
  |exc _ _=>unfold RW at hq;exact hq.elim
  |tup m =>
   unfold RW at hq
   obtain ⟨a2,ys,rfl,g2,g3⟩:=hq
   cases ru
   obtain ⟨its2,vm,tm,_⟩:=I.tuple g2
   have rc:=SeqAt.RcAt.tuples (e:=eqN l m) tl tm hu' (elt (n:=deps l) (by show A.units + 1 + deps l < cLine;omega) (AL _) h3 g3 vl vm)
   have hl1:its.toArray.size=l.length:=by rw [AS,← vl.length,h3.length]
   have hl2:its2.toArray.size=m.length:=by rw [AS,← vm.length,g3.length]
   rw [hl1,hl2] at rc
   have e:((List.range (min l.length m.length)).all (eqN l m)&&l.length==m.length)=peq (.tup l) (.tup m):=by
    unfold peq
    by_cases hlm:l.length=m.length
    ·rw [← hlm,Nat.min_self,zk l m hlm,At,Bool.and_true]
    ·rw [W5 l m hlm,B2 hlm,B5]
   rw [e] at rc
   exact rc
 |lst l =>
  have hp0:=hp
  unfold RW at hp
  obtain ⟨a,xs,rfl,h2,h3⟩:=hp
  cases rv
  obtain ⟨its,vl,tl',_⟩:=I.list h2
  have tl:=tl'.isList
  unfold dep at hu
  cases q with
  |non=>unfold RW at hq;subst hq;cases ru;exact SeqAt.RcAt.list_none tl hu'
  |bl _=>unfold RW at hq;subst hq;cases ru;exact SeqAt.RcAt.list_bool _ tl hu'
  |int _=>unfold RW at hq;subst hq;obtain ⟨t,rfl⟩:=ru;exact SeqAt.RcAt.list_int _ _ tl hu'
  |str _=>unfold RW at hq;subst hq;obtain ⟨t,rfl⟩:=ru;exact SeqAt.RcAt.list_str _ _ tl hu'
  |tup _=>unfold RW at hq;obtain ⟨a,xs,rfl,h2,_⟩:=hq;cases ru;obtain ⟨its,_,t,_⟩:=I.tuple h2;exact SeqAt.RcAt.list_tuple tl t hu'
  |ref _=>unfold RW at hq;exact hq.elim
  |dct=>unfold RW at hq;exact hq.elim
  |ty _=>unfold RW at hq;exact hq.elim
  |fn _=>unfold RW at hq;exact hq.elim
  |exc _ _=>unfold RW at hq;exact hq.elim
  |lst m =>
   unfold RW at hq
   obtain ⟨a2,ys,rfl,g2,g3⟩:=hq
   cases ru
   obtain ⟨its2,vm,tm',_⟩:=I.list g2
   have tm:=tm'.isList
   have hl1:its.toArray.size=l.length:=by rw [AS,← vl.length,h3.length]
   have hl2:its2.toArray.size=m.length:=by rw [AS,← vm.length,g3.length]
   unfold peq
   by_cases hlm:l.length=m.length
   ·have rc:=SeqAt.RcAt.lists (e:=eqN l m) tl tm (by rw [hl1,hl2,hlm]) hu' (elt (n:=deps l) (by show A.units + 1 + deps l < cLine;omega) (AL _) h3 g3 vl vm)
    rw [hl1,zk l m hlm] at rc
    exact rc
   ·rw [W5 l m hlm]
    exact SeqAt.RcAt.lists_lengths tl tm (by rw [hl1,hl2];exact bne_iff_ne.mpr hlm) hu'
 |non=>exact wZ I _ q rfl hu' hp hq rv ru
 |bl _=>exact wZ I _ q rfl hu' hp hq rv ru
 |int _=>exact wZ I _ q rfl hu' hp hq rv ru
 |str _=>exact wZ I _ q rfl hu' hp hq rv ru
 |ref _=>exact wZ I _ q rfl hu' hp hq rv ru
 |dct=>exact wZ I _ q rfl hu' hp hq rv ru
 |ty _=>exact wZ I _ q rfl hu' hp hq rv ru
 |fn _=>exact wZ I _ q rfl hu' hp hq rv ru
 |exc _ _=>exact wZ I _ q rfl hu' hp hq rv ru
theorem qKa (I:L2.Inv X pins σ H s) (p q:PV) {v u:V} {uv uu:Value} {A:Around} (hu:A.units + (dep p + 1) < cLine) (hp:RW X.K H p v) (hq:RW X.K H q u) (rv:RelV v uv) (ru:RelV u uu):SeqAt.RcNeAt A s uv uu (!peq p q):=by
 have hu':A.units < cLine:=BY (Bu _ _) hu
 have elt:∀ {n:Nat} {l m:List PV} {xs ys:List V} {its its2:List Value},A.in1.units + n < cLine->deps l≤n->RWs X.K H l xs->RWs X.K H m ys->Vals xs its->Vals ys its2 -> ∀ j (h1:j < its.toArray.size) (h2:j < its2.toArray.size),SeqAt.EqAt A.in1 s its.toArray[j] its2.toArray[j] (eqN l m j):=fun {n l m xs ys its its2} hin hdl hl hm vl vm j h1 h2=>by
  have e1:its[j]? = some its.toArray[j]:=by simp
  have e2:its2[j]? = some its2.toArray[j]:=by simp
  obtain ⟨x,hx,rx⟩:=Vals.get2 vl e1
  obtain ⟨y,hy,ry⟩:=Vals.get2 vm e2
  obtain ⟨p',hp',rp'⟩:=RWs.get' hl hx
  obtain ⟨q',hq',rq'⟩:=RWs.get' hm hy
  have:eqN l m j=peq p' q':=by unfold eqN;rw [hp',hq']
  rw [this]
  exact qCt I n p' q' x y _ _ A.in1 (Aa (zZ hp') hdl) hin rp' rq' rx ry
 cases p with
 |tup l =>
  have hp0:=hp
  unfold RW at hp
  obtain ⟨a,xs,rfl,h2,h3⟩:=hp
  cases rv
  obtain ⟨its,vl,tl,_⟩:=I.tuple h2
  unfold dep at hu
  cases q with
  |non=>unfold RW at hq;subst hq;cases ru;exact SeqAt.RcNeAt.tuple_none tl hu'
  |bl _=>unfold RW at hq;subst hq;cases ru;exact SeqAt.RcNeAt.tuple_bool _ tl hu'
  |int _=>unfold RW at hq;subst hq;obtain ⟨t,rfl⟩:=ru;exact SeqAt.RcNeAt.tuple_int _ _ tl hu'
  |str _=>unfold RW at hq;subst hq;obtain ⟨t,rfl⟩:=ru;exact SeqAt.RcNeAt.tuple_str _ _ tl hu'
  |lst _=>unfold RW at hq;obtain ⟨a,xs,rfl,h2,_⟩:=hq;cases ru;obtain ⟨its,_,t,_⟩:=I.list h2;exact SeqAt.RcNeAt.tuple_list tl t.isList hu'
  |ref _=>unfold RW at hq;exact hq.elim
  |dct=>unfold RW at hq;exact hq.elim
  |ty _=>unfold RW at hq;exact hq.elim
  |fn _=>unfold RW at hq;exact hq.elim
  |exc _ _=>unfold RW at hq;exact hq.elim
  |tup m =>
   unfold RW at hq
   obtain ⟨a2,ys,rfl,g2,g3⟩:=hq
   cases ru
   obtain ⟨its2,vm,tm,_⟩:=I.tuple g2
   have rc:=SeqAt.RcNeAt.tuples (e:=eqN l m) tl tm hu' (elt (n:=deps l) (by show A.units + 1 + deps l < cLine;omega) (AL _) h3 g3 vl vm)
   have hl1:its.toArray.size=l.length:=by rw [AS,← vl.length,h3.length]
   have hl2:its2.toArray.size=m.length:=by rw [AS,← vm.length,g3.length]
   rw [hl1,hl2] at rc
   have e:((List.range (min l.length m.length)).all (eqN l m)&&l.length==m.length)=peq (.tup l) (.tup m):=by
    unfold peq
    by_cases hlm:l.length=m.length
    ·rw [← hlm,Nat.min_self,zk l m hlm,At,Bool.and_true]
    ·rw [W5 l m hlm,B2 hlm,B5]
   rw [e] at rc
   exact rc
 |lst l =>
  have hp0:=hp
  unfold RW at hp
  obtain ⟨a,xs,rfl,h2,h3⟩:=hp
  cases rv
  obtain ⟨its,vl,tl',_⟩:=I.list h2
  have tl:=tl'.isList
  unfold dep at hu
  cases q with
  |non=>unfold RW at hq;subst hq;cases ru;exact SeqAt.RcNeAt.list_none tl hu'
  |bl _=>unfold RW at hq;subst hq;cases ru;exact SeqAt.RcNeAt.list_bool _ tl hu'
  |int _=>unfold RW at hq;subst hq;obtain ⟨t,rfl⟩:=ru;exact SeqAt.RcNeAt.list_int _ _ tl hu'
  |str _=>unfold RW at hq;subst hq;obtain ⟨t,rfl⟩:=ru;exact SeqAt.RcNeAt.list_str _ _ tl hu'
  |tup _=>unfold RW at hq;obtain ⟨a,xs,rfl,h2,_⟩:=hq;cases ru;obtain ⟨its,_,t,_⟩:=I.tuple h2;exact SeqAt.RcNeAt.list_tuple tl t hu'
  |ref _=>unfold RW at hq;exact hq.elim
  |dct=>unfold RW at hq;exact hq.elim
  |ty _=>unfold RW at hq;exact hq.elim
  |fn _=>unfold RW at hq;exact hq.elim
  |exc _ _=>unfold RW at hq;exact hq.elim
  |lst m =>
   unfold RW at hq
   obtain ⟨a2,ys,rfl,g2,g3⟩:=hq
   cases ru
   obtain ⟨its2,vm,tm',_⟩:=I.list g2
   have tm:=tm'.isList
   have hl1:its.toArray.size=l.length:=by rw [AS,← vl.length,h3.length]
   have hl2:its2.toArray.size=m.length:=by rw [AS,← vm.length,g3.length]
   unfold peq
   by_cases hlm:l.length=m.length
   ·have rc:=SeqAt.RcNeAt.lists (e:=eqN l m) tl tm (by rw [hl1,hl2,hlm]) hu' (elt (n:=deps l) (by show A.units + 1 + deps l < cLine;omega) (AL _) h3 g3 vl vm)
    rw [hl1,zk l m hlm] at rc
    exact rc
   ·rw [W5 l m hlm]
    exact SeqAt.RcNeAt.lists_lengths tl tm (by rw [hl1,hl2];exact bne_iff_ne.mpr hlm) hu'
 |non=>exact wa I _ q rfl hu' hp hq rv ru
 |bl _=>exact wa I _ q rfl hu' hp hq rv ru
 |int _=>exact wa I _ q rfl hu' hp hq rv ru
 |str _=>exact wa I _ q rfl hu' hp hq rv ru
 |ref _=>exact wa I _ q rfl hu' hp hq rv ru
 |dct=>exact wa I _ q rfl hu' hp hq rv ru
 |ty _=>exact wa I _ q rfl hu' hp hq rv ru
 |fn _=>exact wa I _ q rfl hu' hp hq rv ru
 |exc _ _=>exact wa I _ q rfl hu' hp hq rv ru
end
def res (st:qC) (p:PV):PV:=match asL st p with
 |some l => .lst l
 |none=>p
theorem Yr {K:W.Frag} {H:Hp} {b:Bz} {st:qC} {p:PV} {v:V} (S:SR K H b st) (r:RV K H b p v) (h:nr (res st p)=true):RW K H (res st p) v:=by
 unfold res at h ⊢
 cases e:asL st p with
 |none=>rw [e] at h;exact RV.rw p h r
 |some l =>
  rw [e] at h
  obtain ⟨a,xs,rfl,h2,h3⟩:=wg S r e
  dsimp only at h ⊢
  unfold nr at h
  unfold RW
  exact ⟨a,xs,rfl,h2,RVs.rws l h h3⟩
abbrev y0:Nat:=60
def Y8 (p q:PV):Bool:=nr p&&nr q&&decide (dep p≤y0)
def gEq:PV->PV->qC->Rs PV:=fun p q st=>if Y8 (res st p) (res st q)=true then .ok (.bl (peq (res st p) (res st q))) st else .no
def gNe:PV->PV->qC->Rs PV:=fun p q st=>if Y8 (res st p) (res st q)=true then .ok (.bl (!peq (res st p) (res st q))) st else .no
section
variable {X:Cx} {E:XK} {e a c d:Expr} {es:List Expr} {f fa fb fc:FE} {pos:Pos}
def qGV (K:W.Frag) (neg:Bool):R2:=fun u v H Q => ∃ p q,RW K H p u∧RW K H q v∧dep p≤y0∧Q (.bl (if neg then !peq p q else peq p q)) H
theorem zB (hr:X.A.units + 64 < cLine):OpR X (compareOp .Eq) (qGV X.K false):=by
 intro pins s σ H x y v u Q I rx ry h
 obtain ⟨p,q,hp,hq,hd,h⟩:=h
 exact qKC I p q (by have:dep p≤60:=hd;omega) hp hq rx ry _ _ _ _ ⟨.bl _,H,I,rfl,h⟩
theorem Wb (hr:X.A.units + 64 < cLine):OpR X (compareOp .NotEq) (qGV X.K true):=by
 intro pins s σ H x y v u Q I rx ry h
 obtain ⟨p,q,hp,hq,hd,h⟩:=h
 exact qKa I p q (by have:dep p≤60:=hd;omega) hp hq rx ry _ _ _ _ ⟨.bl _,H,I,rfl,h⟩
theorem qAb {p q:PV} (h:Y8 p q=true):nr p=true∧nr q=true∧dep p≤y0:=by
 unfold Y8 at h
 rw [Aj,Aj] at h
 exact ⟨h.1.1,h.1.2,Bb h.2⟩
theorem ZO:OpG X E (qGV X.K false) gEq:=by
 intro H b st p q u v Q S rp rq P
 unfold gEq at P
 split at P
 ·rename_i h
  obtain ⟨h1,h2,h3⟩:=qAb h
  exact ⟨_,_,Yr S rp h1,Yr S rq h2,h3,PostE.here P S zg⟩
 ·exact P.elim
theorem ze:OpG X E (qGV X.K true) gNe:=by
 intro H b st p q u v Q S rp rq P
 unfold gNe at P
 split at P
 ·rename_i h
  obtain ⟨h1,h2,h3⟩:=qAb h
  exact ⟨_,_,Yr S rp h1,Yr S rq h2,h3,PostE.here P S zg⟩
 ·exact P.elim
theorem jf (hr:X.A.units + 64 < cLine) (ha:VE X E a fa) (hb:VE X E c fb):VE X E (.Compare a [.Eq] [c] pos) (qM gEq fa fb):=qIw (zB hr) ZO ha hb
def pin (x:PV):List PV->Bool
 |[]=>false
 |y::ys=>peq y x || pin x ys
def gIn (neg:Bool):PV->PV->qC->Rs PV:=fun p q st=>match Wo st q with
 |some l=>if nrs l=true∧nr (res st p)=true∧deps l≤y0 then .ok (.bl (if neg then !pin (res st p) l else pin (res st p) l)) st else .no
 |none => .no
def qKS (K:W.Frag) (neg:Bool):R2:=fun u v H Q => ∃ p l a xs,v = .ref a∧(SqL K H a xs∨SqT K H a xs)∧RW K H p u∧RWs K H l xs∧deps l≤y0∧Q (.bl (if neg then !pin p l else pin p l)) H
theorem qCa {X:Cx} {pins:List (Addr×Obj)} {σ:L2.St} {H:Hp} {s:Shared} (I:L2.Inv X pins σ H s) {A:Around} {p:PV} {u:V} {uu:Value} (hp:RW X.K H p u) (ru:RelV u uu) (hA:A.units + 60 < cLine)
  {l:List PV} {xs:List V} {its:List Value} (hl:RWs X.K H l xs) (vl:Vals xs its) (hd:deps l≤y0):∃ g:Value->Bool,(∀ y∈its,SeqAt.EqAt A s y uu (g y))∧its.any g=pin p l:=by
 classical
 have key:∀ (q:PV) (x:V) (y:Value),RW X.K H q x->RelV x y->decide (∃ q x,RW X.K H q x∧RelV x y∧peq q p=true)=peq q p:=fun q x y h1 h2=>by
  by_cases hb:peq q p=true
  ·rw [hb];exact Ai ⟨q,x,h1,h2,hb⟩
  ·rw [show peq q p=false by simpa using hb]
   refine Ac fun ⟨q',x',k1,k2,k3⟩=>hb ?_
   have ex:x'=x:=k2.inj h2
   subst ex
   rw [RW.det I q q' h1 k1];exact k3
 refine ⟨fun y=>decide (∃ q x,RW X.K H q x∧RelV x y∧peq q p=true),fun y hy => ?_,?_⟩
 ·obtain ⟨i,hi⟩:=BS hy
  obtain ⟨x,hx,rx⟩:=Vals.get2 vl hi
  obtain ⟨q,hq,rq⟩:=RWs.get' hl hx
  dsimp only
  rw [key q x y rq rx]
  exact qCt I 60 q p x u y uu A (Aa (zZ hq) hd) hA rq hp rx ru
 ·have go:∀ (l:List PV) (xs:List V) (its:List Value),RWs X.K H l xs->Vals xs its->its.any (fun y=>decide (∃ q x,RW X.K H q x∧RelV x y∧peq q p=true))=pin p l:=by
   intro l
   induction l with
   |nil=>intro xs its h v;unfold RWs at h;subst h;cases v;rfl
   |cons q qs ih =>
    intro xs its h v
    unfold RWs at h
    obtain ⟨x,r,rfl,h2,h3⟩:=h
    cases v with
    |cons rv vr =>
     rw [List.any_cons,key q x _ h2 rv,ih _ _ h3 vr]
     rfl
  exact go l xs its hl vl
theorem qIo (hr:X.A.units + 64 < cLine):OpR X (compareOp .In) (qKS X.K false):=by
 intro pins s σ H x y v u Q I rx ry h
 obtain ⟨p,l,a,xs,rfl,hs,hp,hl,hd,h⟩:=h
 cases ry
 have hA:X.A.in1.units + 60 < cLine:=by show X.A.units + 1 + 60 < cLine;omega
 rcases hs with hs |hs
 ·obtain ⟨its,vl,t,_⟩:=I.list hs
  obtain ⟨g,h1,h2⟩:=qCa I hp rx hA hl vl hd
  exact SeqAt.in_listAt g t.isList (fun y hy=>h1 y (by simpa using hy)) ⟨.bl _,H,I,by show _=_;rw [List.any_toArray,h2];rfl,h⟩
 ·obtain ⟨its,vl,t,_⟩:=I.tuple hs
  obtain ⟨g,h1,h2⟩:=qCa I hp rx hA hl vl hd
  exact SeqAt.in_tupleAt g t (fun y hy=>h1 y (by simpa using hy)) ⟨.bl _,H,I,by show _=_;rw [List.any_toArray,h2];rfl,h⟩
theorem qKN {neg:Bool}:OpG X E (qKS X.K neg) (gIn neg):=by
 intro H b st p q u v Q S rp rq P
 unfold gIn at P
 split at P
 ·rename_i l el
  split at P
  ·rename_i hh
   obtain ⟨h1,h2,h3⟩:=hh
   obtain ⟨a,xs,rfl,k2,k3⟩:=Z2 S rq el
   exact ⟨_,l,a,xs,rfl,k2,Yr S rp h2,RVs.rws l h1 k3,h3,PostE.here P S zg⟩
  ·exact P.elim
 ·exact P.elim
end
end EV
end
section
namespace EV
open PySem PySem.Spec PyProof.Rows L2 EX
section
variable {X:Cx} {E:XK} {e a c d:Expr} {es:List Expr} {f fa fb fc:FE} {pos:Pos} {F G:FS}
def yL (C:Addr) (t:FA):FS:=fun r st=>match t r st with
 | .ok ps s=>if ps.length≤sizeLine then .ex ⟨C,[]⟩ s else .no
 | .ex x s => .ex x s
 | .no => .no
theorem qAC {x:Str} {C:Addr} {t:FA} {np cpos:Pos} (hz:Rz X E) (hc:X.calm=true) (hg:Gl X x) (hm:X.mg x=some (.ref C)) (q:W.excIn X.K C bmV "ValueError.__new__" = true) (ha:VA X E (e::es) t) (hdb:(x==("__debug__":Str))=false:=by decide)
  (he:starEach (e::es) X.env=(false,eval e X.env)::starEach es X.env:=by rfl) (hpl:(backTo cpos (starEach es X.env)).any (·.1)=false:=by rfl):VS X E (.Raise (some (.Call (.Name x np) (e::es) [] cpos)) none pos) (yL C t) :=
 PS.imp (qFk hz hc hg hm q ha hdb he hpl) fun D s H ⟨b,r,st,S,R,P⟩=>⟨b,r,st,S,R,by
  unfold yL at P
  cases ef:t r st with
  |no=>rw [ef] at P;exact P.elim
  |ex x s1=>rw [ef] at P;exact P
  |ok ps s1 =>
   rw [ef] at P
   dsimp only at P
   by_cases hl:ps.length≤sizeLine
   ·rw [AG hl] at P
    exact fun vs H' b' e' S' r'=>⟨by rw [← r'.length];exact hl,P (.ref C) none H' b' e' S' ⟨rfl,.inl ⟨rfl,rfl⟩⟩⟩
   ·rw [AN hl] at P;exact P.elim⟩
theorem REnv.lose {K:W.Frag} {H:Hp} {b:Bz} {r:QO} {s:L2.St} (h:REnv K H b r s) (i:Nat):REnv K H b (r.set i none) (s.set i none):=by
 refine ⟨by simp [h.1],fun j q hq => ?_⟩
 by_cases hj:i=j
 ·subst hj
  by_cases hl:i < r.length
  ·rw [Av hl] at hq;cases hq
  ·rw [BP (by simpa using hl)] at hq;cases hq
 ·rw [Ax hj] at hq ⊢
  exact h.2 j q hq
def Yd (i n:Nat) (cs:List Addr) (Fb Fh:FS):FS:=fun r st=>match Fb r st with
 | .ex x s=>if x.cls∈cs then (match Fh ((List.replicate n none).set i (some (.exc x.cls x.fs))) s with
  | .nx r' s' => .nx (r'.set i none) s'
  | .bk r' s' => .bk (r'.set i none) s'
  | .ct r' s' => .ct (r'.set i none) s'
  | .rt v s' => .rt v s'
  | .ex _ _ => .no
  | .no => .no) else .no
 |o=>o
theorem qJU {x n:Str} {Bx:Addr} {dd:Option Addr} {cd:ClassData} {sl:Array (Option Value)} {body:List Stmt} {b0:Stmt} {suite:List Stmt} {np hpos:Pos} {cs:List Addr} {Fb Fh:FS} (i:Nat) (FX:FrameX X) (hc:X.calm=true) (hN:X.N.Nodup)
  (hg:Gl X x) (hm:X.mg x=some (.ref Bx)) (o1:X.K.lookup Bx=some ⟨.type "type",dd,.cls cd,sl⟩) (m1:W.mroIn X.K Bx (.type "BaseException")=some true) (hcs:∀ C∈cs,W.mroIn X.K C (.ref Bx)=some true)
  (hb:∀ (pins:List (Addr×Obj)) (xe:Value->Shared->Prop) (E':XK),ZN (CXF X.prog X.w) (qAo X pins xe) E'->VSs (qAo X pins xe) E' body Fb) (hh:∀ ea,VSs (suX X ea) E0 (b0::suite) Fh)
  (hi:X.N[i]? = some n:=by rfl) (hl:X.env.scope.names.lookup n=some .local:=by rfl) (hdb:(x==("__debug__":Str))=false:=by decide) :
  VS X E (.Try body [.ExceptHandler (some (.Name x np)) (some n) (b0::suite) hpos] [] [] pos) (Yd i X.N.length cs Fb Fh):=by
 refine PS.imp (qJQ (ok:=fun v => ∃ C∈cs,v = .ref C) (tb:=fun E'=>rdS X.K E' Fb) (th:=rdS X.K E0 Fh) FX hc hN hi hl hg hm o1 m1 (fun v ⟨C,hC,e⟩=>⟨C,e,hcs C hC⟩) hb hh hdb) fun D σ H ⟨b,r,st,S,R,P⟩=>⟨b,r,st,S,R,?_⟩
 unfold Yd at P
 cases eb:Fb r st with
 |nx r' s'=>rw [eb] at P;exact P
 |rt r' s'=>rw [eb] at P;exact P
 |bk r' s'=>rw [eb] at P;exact P
 |ct r' s'=>rw [eb] at P;exact P
 |no=>rw [eb] at P;exact P
 |ex x s1 =>
  rw [eb] at P
  dsimp only at P
  by_cases hx:x.cls∈cs
  ·rw [AG hx] at P
   intro c d H' b' e' S' rx
   obtain ⟨rc,rf⟩:=rx
   refine ⟨⟨x.cls,hx,rc⟩,fun σ' ea oe hlen hn hcls hdict hdata=>⟨b',(List.replicate X.N.length none).set i (some (.exc x.cls x.fs)),s1,S'.new hn,⟨by simp [hlen],fun j p hp => ?_⟩,?_⟩⟩
   ·by_cases hj:i=j
    ·subst hj
     have hl':i < X.N.length:=(AQ.mp hi).1
     rw [Av (by simpa using hl')] at hp
     cases hp
     refine ⟨.ref ea,by rw [Av (by rw [hlen];exact hl')],?_⟩
     unfold RV
     refine ⟨ea,oe,_,rfl,Qd,S'.new_notin hn,hcls.trans rc,hdata,rf.imp (fun q=>⟨q.1,hdict.trans q.2⟩) fun ⟨a,q1,q2,q3⟩=>⟨a,hdict.trans q1,by rw [qU (qQ q2 hn)];exact q2,q3⟩⟩
    ·rw [Ax hj,BC] at hp
     split at hp <;> cases hp
   ·have P2:=PostS.ext P (e'.trans (Ext.new (o := .frz oe qD8) hn))
    cases eh:Fh ((List.replicate X.N.length none).set i (some (.exc x.cls x.fs))) s1 with
    |nx r' s'=>rw [eh] at P2;exact fun s2 H2 b2 e2 S2 R2=>P2 _ H2 b2 e2 S2 (R2.lose i)
    |bk r' s'=>rw [eh] at P2;exact fun s2 H2 b2 e2 S2 R2=>P2 _ H2 b2 e2 S2 (R2.lose i)
    |ct r' s'=>rw [eh] at P2;exact fun s2 H2 b2 e2 S2 R2=>P2 _ H2 b2 e2 S2 (R2.lose i)
    |rt v s'=>rw [eh] at P2;exact P2
    |ex y s'=>rw [eh] at P2;exact P2.elim
    |no=>rw [eh] at P2;exact P2.elim
  ·rw [AN hx] at P;exact P.elim
def tyP:PV->Option Value
 | .non=>some (.type "NoneType")
 | .bl _=>some (.type "bool")
 | .int _=>some (.type "int")
 | .str _=>some (.type "str")
 | .tup _=>some (.type "tuple")
 | .lst _=>some (.type "list")
 | .ref _=>some (.type "list")
 | .dct=>some (.type "dict")
 | .exc c _=>some (.ref c)
 |_=>none
def clP:PV->Option Value
 | .ty n=>some (.type n)
 | .fn a=>some (.ref a)
 |_=>none
def qDV (kit:Value->Value->Option Bool) (p c:PV):Option Bool:=match tyP p,clP c with
 |some t,some c=>kit t c
 |_,_=>none
def qAe (kit:Value->Value->Option Bool) (p:PV):List PV->Option Bool
 |[]=>some false
 |c::r=>match qDV kit p c with
  |some true=>some true
  |some false=>qAe kit p r
  |none=>none
def qKI (kit:Value->Value->Option Bool) (p:PV):PV->Option Bool
 | .tup cs=>if (tyP p).isSome then qAe kit p cs else none
 |c=>qDV kit p c
structure KitOk (K:W.Frag) (kit:Value->Value->Option Bool):Prop where
 one:∀ t c b,kit t c=some b->W.kitOne K t c=some b
 exc:∀ a c b,kit (.ref a) c=some b->ExcK K a
end
end EV
end
section
namespace EX
open PySem PySem.Spec PyProof.Rows L2
theorem qGG {X:Cx} {pins:List (Addr×Obj)} {σ:L2.St} {H:Hp} {s:Shared} (I:L2.Inv X pins σ H s) {fp:List Addr} (hf:∀ b∈fp,Zg X pins H b) {h':Heap} {t':Nat} {x y:V} {u v:Value} (rx:RelV x u) (ry:RelV y v)
  (k:∀ b o,b ∉ fp->s.heap.get? b=some o->h'.get? b=some o) (kf:∀ b∈fp,∃ o,h'.get? b=some o) (hT:IsPair h' s.heap.objs.size u v):L2.Inv X pins σ (upd H s.heap.objs.size (.tup [x,y])) { s with heap:=h',toks:=t' }:=by
 have hn:H s.heap.objs.size=none:=I.hok.fresh (AL _)
 have nt:∀ b o,s.heap.get? b=some o->b≠s.heap.objs.size:=fun b o e=>AZ (AM e)
 have nf:∀ b u,H b=some u->b ∉ fp:=fun b u e z=>by rw [(hf b z).1] at e;cases e
 have un:Un (frs X.stack) fp H (upd H s.heap.objs.size (.tup [x,y])) s.heap h' :=
  ⟨fun b o e _ _ hb=>k b o hb e,fun b o e _ _ hb=>⟨o.slots,k b o hb e⟩,fun b o e n _=>by rw [qU (nt b o e)];exact n,fun b o e hb=>⟨o,k b o hb e⟩,fun b xs e=>by rw [qU (qQ e hn)];exact e,fun b o u e=>by rw [qU (qQ e hn)];exact e,fun b ps e=>⟨#[],by rw [qU (qQ e hn),e];simp⟩⟩
 refine I.call (g':=s.gens) (d':=s.drawn) (t':=t') (ch:=fp) un (fun b u' e => ?_) I.bare fun b hb=>⟨(hf b hb).2.2.2.1,(hf b hb).2.1,(hf b hb).2.2.2.2.1,(hf b hb).2.2.2.2.2⟩
 by_cases hb:b=s.heap.objs.size
 ·subst hb
  rw [Qd] at e;cases e
  exact ⟨by show 2≤sizeLine;decide,[u,v],.cons rx (.cons ry .nil),_,hT,rfl,0,rfl⟩
 ·rw [qU hb] at e
  refine (I.hok b u' e).stay (fun c w hc q=>k c w ?_ q) (fun c q=>by rw [qU (qQ q hn)];exact q) fun c xs q=>by rw [qU (qQ q hn)];exact q
  rcases hc with rfl |hc
  ·exact nf _ _ e
  ·exact nf _ _ hc
section
variable {X:Cx}
def qKc (K:W.Frag):R2:=fun x y H Q => ∃ l b xs zs,x = .ref l∧y = .ref b∧SqL K H l xs∧SqL K H b zs∧xs.length + zs.length≤sizeLine ∧ ∀ p,H p=none->Q (.ref p) (upd H p (.lst (xs++zs)))
theorem qG5:OpR X (binaryOp .Add) (qKc X.K):=by
 intro pins s σ H x y v u Q I rx ry h
 obtain ⟨l,b,xs,zs,rfl,rfl,h1,h2,hz,q⟩:=h
 cases rx
 cases ry
 obtain ⟨us,r1,p1,_⟩:=I.list h1
 obtain ⟨ws,r2,p2,_⟩:=I.list h2
 obtain ⟨⟨c1,d1,a1,s1⟩,o1,e1,m1,f1⟩:=id p1.isList
 obtain ⟨⟨c2,d2,a2,s2⟩,o2,e2,m2,f2⟩:=id p2.isList
 have e1:c1=_:=e1
 have e2:c2=_:=e2
 have f1:a1=_:=f1
 have f2:a2=_:=f2
 subst e1;subst e2;subst f1;subst f2
 have z:us.length + ws.length≤sizeLine:=by rw [← r1.length,← r2.length];exact hz
 refine concat_meets ⟨_,o1,rfl⟩ ⟨_,o2,rfl⟩ noFill_list_add seq_list_add F.slot_list_add F.entry_list_add (F.args_list_add_2 _ _) (list_addW l b us.toArray ws.toArray m1 m2 d1 d2 s1 s2 (by simpa using z)) ⟨o1,o2,?_⟩
 rw [show us.toArray++ws.toArray=(us++ws).toArray by simp]
 exact ⟨.ref _,_,I.lnew (t':=s.toks) (r1.append r2) (by rw [AO];exact hz),rfl,q _ I.fresh⟩
def qIE (K:W.Frag):R2:=fun x y H Q => ∃ a b xs ys,x = .ref a∧y = .ref b∧SqT K H a xs∧SqT K H b ys∧xs.length + ys.length≤sizeLine ∧
 (xs=[]->Q (.ref b) H)∧(xs≠[]->ys=[]->Q (.ref a) H)∧(xs≠[]->ys≠[] -> ∀ p,H p=none->Q (.ref p) (upd H p (.tup (xs++ys))))
theorem qEI:OpR X (binaryOp .Add) (qIE X.K):=by
 intro pins s σ H x y v u Q I rx ry h
 obtain ⟨a,b,xs,ys,rfl,rfl,ha,hb,hz,q0,q1,q2⟩:=h
 by_cases hx:xs=[]
 ·cases rx
  cases ry
  obtain ⟨us,r1,p1,_⟩:=I.tuple ha
  obtain ⟨ws,r2,p2,_⟩:=I.tuple hb
  obtain ⟨⟨c1,d1,a1,s1⟩,o1,e1,m1,f1⟩:=id p1
  obtain ⟨⟨c2,d2,a2,s2⟩,o2,e2,m2,f2⟩:=id p2
  have e1:c1=_:=e1
  have e2:c2=_:=e2
  have f1:a1=_:=f1
  have f2:a2=_:=f2
  subst e1;subst e2;subst f1;subst f2
  exact concat_meets ⟨_,o1,rfl⟩ ⟨_,o2,rfl⟩ noFill_tuple_add seq_tuple_add F.slot_tuple_add F.entry_tuple_add (F.args_tuple_add_2 _ _) (tuple_addW0 a b us.toArray ws.toArray m1 m2 d1 d2 s1 s2 (by simp [r1.nil_iff.mpr hx])) ⟨o1,o2,.ref b,H,I,rfl,q0 hx⟩
 ·exact qGR pins s σ H _ _ v u Q I rx ry ⟨a,b,xs,ys,rfl,rfl,ha,hb,hx,hz,q1 hx,q2 hx⟩
def qLC (K:W.Frag):V->Option Int->Option Int->Hp->VK->Prop:=fun x lo hi H Q => ∃ a xs,x = .ref a∧SqT K H a xs∧HT.sIx xs.length 0 lo=0∧HT.sIx xs.length xs.length hi=xs.length∧Q (.ref a) H
theorem qFO:SlR X (qLC X.K):=by
 intro pins s σ H x v vl vu lo hi sl Q I rx hs pl pu h
 obtain ⟨a,xs,rfl,hx,w1,w2,q⟩:=h
 cases rx
 obtain ⟨its,r,ht,hz⟩:=I.tuple hx
 have hlen:its.toArray.size=xs.length:=by rw [AS];exact r.length.symm
 refine ⟨"tuple",_,PyProof.Rows.slot_tuple_getitem.lookup,ht.typeIs,?_⟩
 obtain ⟨os,hos,hcs,hds⟩:=id hs
 have hTs:s.TypeIs (.ref sl) "slice" := ⟨os,hos,hcs⟩
 unfold getItem
 try with_reducible refine Au ?_
 first |refine AA (AB ?_) |skip
 refine AA (wpAny_sequenceKey ht.typeIs (by decide) ?_)
 refine AA (Ay (name:=Str.ofString "__getitem__") ht.typeIs BK (A7 BK ht.typeIs PyProof.Rows.entry_tuple_getitem ?_ (PyProof.Rows.args_tuple_getitem _ _)))
 show wpAny _ _ (Builtin.Tuple.tupleItemsOf (.ref a) >>= _) _ _ s
 refine AA (tupleItemsOf_ ht ?_)
 refine AA (Bf hTs ?_)
 rw [AG (by decide)]
 refine AA (HT.sliceApplied_gen hs pl pu ?_)
 rw [hlen,w1,w2]
 dsimp only
 rw [AG (show ((((0:Nat):Int)==0&&(1:Int)==1&&xs.length - 0==xs.length)=true) by simp)]
 unfold Builtin.Tuple.tupleIsExact
 refine AA (AA (Bf ht.typeIs (AB ?_)))
 rw [AG (by simp)]
 exact AA (B3 (AB ⟨_,rfl,AB ⟨.ref a,H,I,rfl,q⟩⟩))
def PJ (X:Cx) (es:List Expr) (t:Str->L2.St->Hp->(Str->Hp->Prop)->Prop):Prop := ∀ (out:Str) (pins:List (Addr×Obj)) (s:Shared) (σ:L2.St) (H:Hp) (Q:Str->Hp->Prop),L2.Inv X pins σ H s->t out σ H Q ->
 wpAny (model X.prog X.w) X.A (joinParts out (evalEach es X.env)) (fun u s' => ∃ x H',L2.Inv X pins σ H' s'∧(∃ t,u = .str x t)∧Q x H') X.xe s
theorem qI4:PJ X [] (fun out _ H Q=>out.length≤sizeLine∧Q out H):=fun out pins s σ H Q I h=>joinParts_nil ⟨out,H,I.tok _,⟨_,rfl⟩,h.2⟩ h.1
theorem qF3 {e:Expr} {es:List Expr} {te:TE} {t:Str->L2.St->Hp->(Str->Hp->Prop)->Prop} (h1:PE X e te) (h2:PJ X es t):PJ X (e::es) (fun out σ H Q=>te σ H fun v H1 => ∃ y,v = .str y∧(out++y).length≤sizeLine∧t (out++y) σ H1 Q) :=
 fun out pins s σ H Q I h=>joinParts_cons (thn (h1 pins s σ H _ I h) fun u s1 ⟨v,H1,I1,r1,y,e,z,q⟩=>by
  subst e
  obtain ⟨t',rfl⟩:=r1
  exact ⟨z,h2 (out++y) pins s1 σ H1 Q I1 q⟩)
theorem qJl {e:Expr} {te:TE} {pos:Pos} (h:PE X e te):PE X (.FormattedValue e (-1) none pos) (fun σ H Q=>te σ H fun v H1 => ∃ i,v = .int i∧i.natAbs.log2 < 1920∧Q (.str (toString i)) H1) :=
 fun pins s σ H Q I q=>FormattedValue_plain (thn (h pins s σ H _ I q) fun u s1 ⟨v,H1,I1,r1,i,e,z,q⟩=>by
  subst e
  obtain ⟨t',rfl⟩:=r1
  exact wpAny_formatField_int z ⟨.str _,H1,I1.tok _,⟨_,rfl⟩,q⟩)
theorem qGz {e1 e2:Expr} {es:List Expr} {t:Str->L2.St->Hp->(Str->Hp->Prop)->Prop} {pos:Pos} (h:PJ X (e1::e2::es) t):PE X (.JoinedStr (e1::e2::es) pos) (fun σ H Q=>t Str.empty σ H fun x H1=>Q (.str x) H1) :=
 fun pins s σ H Q I q=>JoinedStr_many (thn (h Str.empty pins s σ H _ I q) fun u s1 ⟨x,H1,I1,r1,q1⟩=>⟨.str x,H1,I1,r1,q1⟩)
end
end EX
end
section
namespace EV
open PySem PySem.Spec PyProof.Rows L2 EX
section
variable {X:Cx} {E:XK} {e a c d:Expr} {es:List Expr} {f fa fb fc:FE} {pos:Pos} {F G:FS}
theorem Wi {x:Str} {n:String} {pos:Pos} (hg:Gl X x) (hm:X.mg x=none) (hv:bootBuiltins x=some (.type n)) (hn:x ≠ "__name__" := by decide) (hd:(x==("__debug__":Str))=false:=by decide):VE X E (.Name x pos) (vC (.ty n)) :=
 qBc (qGN (v := .ty n) hg hm hv rfl hn hd) fun _ _=>by unfold RV;rfl
theorem ZD {x:Str} {a:Addr} {pos:Pos} (hg:Gl X x) (hm:X.mg x=some (.ref a)) (hd:(x==("__debug__":Str))=false:=by decide):VE X E (.Name x pos) (vC (.fn a)) :=
 qBc (qCh (v := .ref a) hg hm rfl hd) fun _ _=>by unfold RV;rfl
def lk (st:qC):PV->Bool
 | .ref i=>match st[i]? with
  |some (.l _)=>true
  |_=>false
 |_=>true
theorem qFG {kit:Value->Value->Option Bool} (hk:KitOk X.K kit) {pins:List (Addr×Obj)} {σ:L2.St} {H:Hp} {s:Shared} (I:L2.Inv X pins σ H s) {b:Bz} {st:qC} (S:SR X.K H b st) {p:PV} {v:V} {u t:Value} (r:RV X.K H b p v) (ru:RelV v u) (ht:tyP p=some t) (hlk:lk st p=true) (hx:∀ a,t = .ref a->ExcK X.K a) :
  ∃ Hh,W.KitX X.K u t Hh∧Hh s.heap∧u ≠ .builtin "__main__.__loader__#opaque" := by
 cases p with
 |non=>unfold RV at r;subst r;cases ht;cases (show u=Value.none from ru);exact ⟨_,W.kitx_none,trivial,fun z=>nomatch z⟩
 |bl x=>unfold RV at r;subst r;cases ht;cases (show u=Value.bool x from ru);exact ⟨_,W.kitx_bool,trivial,fun z=>nomatch z⟩
 |int x=>unfold RV at r;subst r;cases ht;obtain ⟨t,rfl⟩:=(show ∃ t,u=Value.int x t from ru);exact ⟨_,W.kitx_int,trivial,fun z=>nomatch z⟩
 |str x=>unfold RV at r;subst r;cases ht;obtain ⟨t,rfl⟩:=(show ∃ t,u=Value.str x t from ru);exact ⟨_,W.kitx_str,trivial,fun z=>nomatch z⟩
 |tup l =>
  unfold RV at r
  obtain ⟨a,xs,rfl,h2,h3⟩:=r
  cases ht
  cases (show u=Value.ref a from ru)
  obtain ⟨its,_,⟨o,h4,h5,_⟩,_⟩:=I.tuple h2.sq
  exact ⟨_,W.kitx_tuple,⟨o,h4,h5⟩,fun z=>nomatch z⟩
 |lst l =>
  unfold RV at r
  obtain ⟨a,xs,rfl,h2,h3⟩:=r
  cases ht
  cases (show u=Value.ref a from ru)
  obtain ⟨its,_,⟨o,n,h4,h5,_⟩,_⟩:=I.list h2.sq
  exact ⟨_,W.kitx_list,⟨o,h4,h5⟩,fun z=>nomatch z⟩
 |ref i =>
  unfold RV at r
  obtain ⟨a,rfl,h2⟩:=r
  cases ht
  cases (show u=Value.ref a from ru)
  have hl:i < st.length:=by rw [← S.len];exact (AQ.mp h2).1
  obtain ⟨a',o,h3,h4,h5⟩:=S.at_ i _ (AE hl)
  rw [h2] at h3;cases h3
  have hq:∃ vs,o = .lst vs:=by
   cases hx:st[i] with
   |l xs=>rw [hx] at h5;obtain ⟨vs,e,_⟩:=h5;exact ⟨vs,e⟩
   |z xs=>unfold lk at hlk;dsimp only at hlk;rw [AE hl,hx] at hlk;cases hlk
   |d xs=>unfold lk at hlk;dsimp only at hlk;rw [AE hl,hx] at hlk;cases hlk
  obtain ⟨vs,rfl⟩:=hq
  obtain ⟨its,_,⟨o,n,h6,h7,_⟩,_⟩:=I.list (SqL.of h4)
  exact ⟨_,W.kitx_list,⟨o,h6,h7⟩,fun z=>nomatch z⟩
 |dct =>
  unfold RV at r
  obtain ⟨a,rfl,h2,h3⟩:=r
  cases ht
  cases (show u=Value.ref a from ru)
  obtain ⟨_,_,vs,_,o,_,_,h4,h5,_⟩:=(show ObjOk X.prog X.w H s.heap a (.dK []) from I.hok a _ h2)
  exact ⟨_,W.kitx_dict,⟨o,h4,h5.1⟩,fun z=>nomatch z⟩
 |exc c fs =>
  unfold RV at r
  obtain ⟨a,o,w,rfl,h2,h3,h4,⟨vs,h6⟩,h5⟩:=r
  cases ht
  cases (show u=Value.ref a from ru)
  have ho:s.heap.get? a=some o:=(I.hok a _ h2).1
  have hn:W.notCls o=true:=by
   obtain ⟨c',d',dt,sl⟩:=o
   have h6:dt=_:=h6
   subst h6;rfl
  refine ⟨_,qEp (hx c rfl),?_,fun z=>nomatch z⟩
  rcases h5 with ⟨_,h5⟩ |⟨d,h5,h7,h8⟩
  ·exact ⟨o,none,ho,h4,hn,by rw [h5];trivial⟩
  ·obtain ⟨od,h9⟩:=got (I.hok d _ h7)
   exact ⟨o,some od,ho,h4,hn,by rw [h5];exact h9⟩
 |ty n=>cases ht
 |fn n=>cases ht
theorem qHg {K:W.Frag} {H:Hp} {b:Bz} {c:PV} {v:V} {u t:Value} (r:RV K H b c v) (ru:RelV v u) (ht:clP c=some t):u=t:=by
 cases c with
 |ty n=>unfold RV at r;subst r;cases ht;exact ru
 |fn a=>unfold RV at r;subst r;cases ht;exact ru
 |_=>cases ht
theorem J9 {kit:Value->Value->Option Bool} (hk:KitOk X.K kit) {H:Hp} {b:Bz} {p:PV} {t:Value} (ht:tyP p=some t):∀ {cs:List PV} {xs:List V} {us:List Value} {k:Bool},RVs X.K H b cs xs->Vals xs us->qAe kit p cs=some k->W.kitAny X.K t us=some k
 |[],_,_,k,h,r,e=>by
  unfold RVs at h;subst h;cases r;exact e
 |c::cs,_,_,k,h,r,e=>by
  unfold RVs at h
  obtain ⟨x,xs,rfl,h1,h2⟩:=h
  cases r with
  | @cons _ u _ us r1 r2 =>
   unfold qAe qDV at e
   rw [ht] at e
   cases hc:clP c with
   |none=>rw [hc] at e;cases e
   |some c' =>
    rw [hc] at e
    have eu:=qHg h1 r1 hc
    subst eu
    dsimp only at e
    unfold W.kitAny
    cases q:kit t u with
    |none=>rw [q] at e;cases e
    |some bb =>
     rw [q] at e
     rw [hk.one _ _ _ q]
     cases bb with
     |true=>exact e
     |false=>exact J9 hk ht h2 r2 e
theorem qEU {kit:Value->Value->Option Bool} (hk:KitOk X.K kit) {p:PV} {t:Value} (ht:tyP p=some t):∀ {cs:List PV} {k:Bool},cs≠[]->qAe kit p cs=some k -> ∀ a,t = .ref a->ExcK X.K a
 |[],_,h,_,_,_=>absurd rfl h
 |c::cs,k,_,e,a,ha=>by
  unfold qAe qDV at e
  rw [ht] at e
  cases hc:clP c with
  |none=>rw [hc] at e;cases e
  |some c' =>
   rw [hc] at e
   dsimp only at e
   cases q:kit t c' with
   |none=>rw [q] at e;cases e
   |some bb=>subst ha;exact hk.exc _ _ _ q
theorem qFj {kit:Value->Value->Option Bool} (hk:KitOk X.K kit):zH X (.builtin "isinstance") (fun vs H Q => ∃ b st p c k,SR X.K H b st∧RVs X.K H b [p,c] vs∧(∀ cs,c = .tup cs->cs≠[])∧lk st p=true∧qKI kit p c=some k∧Q (.bl k) H):=by
 intro pins s σ H xs us Q I r h
 obtain ⟨b,st,p,c,k,S,rs,hne,hlk,e,q⟩:=h
 obtain ⟨x,y,rfl,r1,r2⟩:=RVs.two rs
 obtain ⟨u,v,rfl,ru,rv⟩:=qCE r
 by_cases hc:∃ cs,c = .tup cs
 ·obtain ⟨cs,rfl⟩:=hc
  have e:(if (tyP p).isSome then qAe kit p cs else none)=some k:=e
  cases ht:tyP p with
  |none=>rw [ht] at e;cases e
  |some t =>
   rw [ht] at e
   have e:qAe kit p cs=some k:=e
   obtain ⟨Hh,Z,hh,hx⟩:=qFG hk I S r1 ru ht hlk (qEU hk ht (hne cs rfl) e)
   unfold RV at r2
   obtain ⟨a,ys,rfl,h2,h3⟩:=r2
   cases (show v=Value.ref a from rv)
   obtain ⟨its,r',⟨o,h4,h5,n,h6⟩,_⟩:=I.tuple h2.sq
   obtain ⟨c1,d1,dt,sl⟩:=o
   have h5:c1=_:=h5
   have h6:dt=_:=h6
   subst h5;subst h6
   exact W.kia_tup Z I.kIn hh h4 (J9 hk ht h3 r' e) hx fun tk=>⟨.bl k,H,I.tok _,rfl,q⟩
 ·have e:qDV kit p c=some k:=by
   cases c <;> first |exact e |exact (hc ⟨_,rfl⟩).elim
  unfold qDV at e
  cases ht:tyP p with
  |none=>rw [ht] at e;cases e
  |some t =>
   cases hc2:clP c with
   |none=>rw [ht,hc2] at e;cases e
   |some c' =>
    rw [ht,hc2] at e
    have eu:=qHg r2 rv hc2
    subst eu
    obtain ⟨Hh,Z,hh,hx⟩:=qFG hk I S r1 ru ht hlk (fun a ha=>by subst ha;exact hk.exc _ _ _ e)
    exact W.kia_one Z I.kIn hh (hk.one _ _ _ e) hx fun tk=>⟨.bl k,H,I.tok _,rfl,q⟩
def Qg (kit:Value->Value->Option Bool):List PV->qC->Rs PV:=fun ps st=>match ps with
 |[p,c]=>match c with
  | .tup [] => .no
  |c=>match qKI kit p c with
   |some b=>if lk st p=true then .ok (.bl b) st else .no
   |none => .no
 |_ => .no
theorem Qb {kit:Value->Value->Option Bool} {ta:FA} {p:Pos} (hk:KitOk X.K kit) (hm:X.mg "isinstance" = none) (ha:VA X E (e::es) ta) (hg:Gl X "isinstance" := by rfl)
  (he:starEach (e::es) X.env=(false,eval e X.env)::starEach es X.env:=by rfl) (hpl:(backTo pos (starEach es X.env)).any (·.1)=false:=by rfl):VE X E (.Call (.Name "isinstance" p) (e::es) [] pos) (qH (Qg kit) ta) :=
 W1 (qFj hk) (fun H b st ps vs Q S r P=>by
  unfold Qg at P
  split at P
  ·rename_i p c
   split at P
   ·exact P.elim
   ·rename_i hc
    split at P
    ·rename_i k hk'
     split at P
     ·rename_i hlk
      exact ⟨b,st,p,c,k,S,r,fun cs e z=>by subst e;subst z;exact hc rfl,hlk,hk',PostE.here P S zg⟩
     ·exact P.elim
    ·exact P.elim
  ·exact P.elim) hg hm PyProof.Rows.boot_isinstance ha (he:=he) (hpl:=hpl)
end
def pbl:PV->Option Bool
 | .bl b=>some b
 |_=>none
def qDU:PV->Option Int
 | .int i=>some i
 |_=>none
def wu {α:Type} (f:PV->Option α):List PV->Option (List α)
 |[]=>some []
 |p::ps=>match f p with
  |some a=>match wu f ps with
   |some r=>some (a::r)
   |none=>none
  |none=>none
section
variable {X:Cx} {E:XK} {e a c d:Expr} {es:List Expr} {f fa fb fc:FE} {pos:Pos} {F G:FS}
theorem qEJ {K:W.Frag} {H:Hp} {b:Bz}:∀ {l:List PV} {xs:List V} {bs:List Bool},RVs K H b l xs->wu pbl l=some bs->xs=bs.map V.bl
 |[],_,_,h,e=>by unfold RVs at h;subst h;cases e;rfl
 |p::ps,_,bs,h,e=>by
  unfold RVs at h
  obtain ⟨x,r,rfl,h1,h2⟩:=h
  unfold wu at e
  cases p with
  |bl k =>
   unfold RV at h1;subst h1
   cases q:wu pbl ps with
   |none=>rw [q] at e;cases e
   |some r'=>rw [q] at e;cases e;rw [qEJ h2 q];rfl
  |_=>cases e
theorem YK {K:W.Frag} {H:Hp} {b:Bz}:∀ {l:List PV} {xs:List V} {bs:List Int},RVs K H b l xs->wu qDU l=some bs->xs=bs.map V.int
 |[],_,_,h,e=>by unfold RVs at h;subst h;cases e;rfl
 |p::ps,_,bs,h,e=>by
  unfold RVs at h
  obtain ⟨x,r,rfl,h1,h2⟩:=h
  unfold wu at e
  cases p with
  |int k =>
   unfold RV at h1;subst h1
   cases q:wu qDU ps with
   |none=>rw [q] at e;cases e
   |some r'=>rw [q] at e;cases e;rw [YK h2 q];rfl
  |_=>cases e
def jv {α:Type} (k:PV->Option α) (g:List α->PV):List PV->qC->Rs PV:=fun ps st=>match ps with
 |[p]=>match asL st p with
  |some l=>match wu k l with
   |some r => .ok (g r) st
   |none => .no
  |none => .no
 |_ => .no
def ZW:=jv pbl fun bs => .bl (bs.all id)
def zC:=jv qDU fun ns => .int ns.sum
theorem qJB:yM X E (fun xs H Q => ∃ (p:Addr) (bs:List Bool),xs=[.ref p]∧SqL X.K H p (bs.map V.bl)∧Q (.bl (bs.all id)) H) ZW:=by
 intro H b st ps vs Q S r P
 unfold ZW jv at P
 split at P
 ·obtain ⟨v,rfl,r1⟩:=RVs.one r
  split at P
  ·rename_i l e
   split at P
   ·rename_i bs eb
    obtain ⟨a,xs,rfl,h2,h3⟩:=wg S r1 e
    rw [qEJ h3 eb] at h2
    exact ⟨a,bs,rfl,h2,PostE.here P S zg⟩
   ·exact P.elim
  ·exact P.elim
 ·exact P.elim
theorem qIM:yM X E (fun xs H Q => ∃ (p:Addr) (ns:List Int),xs=[.ref p]∧SqL X.K H p (ns.map V.int)∧Q (.int ns.sum) H) zC:=by
 intro H b st ps vs Q S r P
 unfold zC jv at P
 split at P
 ·obtain ⟨v,rfl,r1⟩:=RVs.one r
  split at P
  ·rename_i l e
   split at P
   ·rename_i bs eb
    obtain ⟨a,xs,rfl,h2,h3⟩:=wg S r1 e
    rw [YK h3 eb] at h2
    exact ⟨a,bs,rfl,h2,PostE.here P S wC⟩
   ·exact P.elim
  ·exact P.elim
 ·exact P.elim
section
variable {ta:FA} {p:Pos} (ha:VA X E (e::es) ta)
include ha
theorem yT (hm:X.mg "all" = none) (hg:Gl X "all" := by rfl) (he:starEach (e::es) X.env=(false,eval e X.env)::starEach es X.env:=by rfl) (hpl:(backTo pos (starEach es X.env)).any (·.1)=false:=by rfl):VE X E (.Call (.Name "all" p) (e::es) [] pos) (qH ZW ta) :=
 W1 qDe qJB hg hm Boot.«all» ha (he:=he) (hpl:=hpl)
theorem Zp (hm:X.mg "sum" = none) (hg:Gl X "sum" := by rfl) (he:starEach (e::es) X.env=(false,eval e X.env)::starEach es X.env:=by rfl) (hpl:(backTo pos (starEach es X.env)).any (·.1)=false:=by rfl):VE X E (.Call (.Name "sum" p) (e::es) [] pos) (qH zC ta) :=
 W1 qDh qIM hg hm Boot.«sum» ha (he:=he) (hpl:=hpl)
theorem wF (hm:X.mg "len" = none) (hg:Gl X "len" := by rfl) (he:starEach (e::es) X.env=(false,eval e X.env)::starEach es X.env:=by rfl) (hpl:(backTo pos (starEach es X.env)).any (·.1)=false:=by rfl):VE X E (.Call (.Name "len" p) (e::es) [] pos) (qH WH ta) :=
 W1 JI qI9 hg hm Boot.«len» ha (he:=he) (hpl:=hpl)
theorem qHU (hc:X.calm=true) (hm:X.mg "max" = none) (hg:Gl X "max" := by rfl) (he:starEach (e::es) X.env=(false,eval e X.env)::starEach es X.env:=by rfl) (hpl:(backTo pos (starEach es X.env)).any (·.1)=false:=by rfl):VE X E (.Call (.Name "max" p) (e::es) [] pos) (qH qDy ta) :=
 W1 (qDZ hc) qI2 hg hm Boot.«max» ha (he:=he) (hpl:=hpl)
theorem qG6 (hc:X.calm=true) (hm:X.mg "min" = none) (hg:Gl X "min" := by rfl) (he:starEach (e::es) X.env=(false,eval e X.env)::starEach es X.env:=by rfl) (hpl:(backTo pos (starEach es X.env)).any (·.1)=false:=by rfl):VE X E (.Call (.Name "min" p) (e::es) [] pos) (qH qFC ta) :=
 W1 (qDI hc) qIX hg hm Boot.«min» ha (he:=he) (hpl:=hpl)
theorem Wx (hm:X.mg "tuple" = none) (hg:Gl X "tuple" := by rfl) (he:starEach (e::es) X.env=(false,eval e X.env)::starEach es X.env:=by rfl) (hpl:(backTo pos (starEach es X.env)).any (·.1)=false:=by rfl):VE X E (.Call (.Name "tuple" p) (e::es) [] pos) (qH wm ta) :=
 jW jE qEZ hg hm Boot.«tuple» ha (he:=he) (hpl:=hpl)
theorem qGJ (hm:X.mg "int" = none) (hg:Gl X "int" := by rfl) (he:starEach (e::es) X.env=(false,eval e X.env)::starEach es X.env:=by rfl) (hpl:(backTo pos (starEach es X.env)).any (·.1)=false:=by rfl):VE X E (.Call (.Name "int" p) (e::es) [] pos) (qH qEg ta) :=
 jW qDA qJa hg hm Boot.«int» ha (he:=he) (hpl:=hpl)
end
theorem qAP {p:Pos} (hm:X.mg "list" = none) (ha:VE X E e f) (hg:Gl X "list" := by rfl) (he:starEach [e] X.env=(false,eval e X.env)::starEach [] X.env:=by rfl) (hpl:(backTo pos (starEach [] X.env)).any (·.1)=false:=by rfl):VN X E (.Call (.Name "list" p) [e] [] pos) (jk f) :=
 qGQ hg hm Boot.«list» ha he hpl
def zD (fa fb:FE):FL:=fun r st=>(fa r st).bind fun p s1=>(fb r s1).bind fun q s2=>match asL s2 p with
 |some l=>match asL s2 q with
  |some m=>if l.length + m.length≤sizeLine then .ok (l++m) s2 else .no
  |none => .no
 |none => .no
theorem zQ (ha:VE X E a fa) (hb:VE X E c fb):VN X E (.BinOp a .Add c pos) (zD fa fb):=PE.imp (qFA qG5 ha hb) fun s H Q ⟨b,r,st,S,R,P⟩ =>
 ⟨b,r,st,S,R,PostE.bindN P fun p s1 u H1 b1 e1 S1 r1 P1=>⟨b1,r,s1,S1,R.ext e1,PostE.bindN P1 fun q s2 v H2 b2 e2 S2 r2 P2=>by
  split at P2
  ·rename_i l el
   split at P2
   ·rename_i m em
    split at P2
    ·rename_i hl
     obtain ⟨x,xs,rfl,h2,h3⟩:=wg S2 (RV.ext e2 p r1) el
     obtain ⟨y,ys,rfl,h4,h5⟩:=wg S2 r2 em
     exact ⟨x,y,xs,ys,rfl,rfl,h2,h4,by rw [← h3.length,← h5.length];exact hl,fun z hz=>PostN.lay P2 S2 (h3.append h5) hz⟩
    ·exact P2.elim
   ·exact P2.elim
  ·exact P2.elim⟩⟩
theorem RVs.rep {K:W.Frag} {H:Hp} {b:Bz} {l:List PV} {xs:List V} (h:RVs K H b l xs):∀ n,RVs K H b (List.replicate n l).flatten (List.replicate n xs).flatten
 |0=>RVs.nil
 |n + 1=>by rw [BI,BI,Bp,Bp];exact h.append (RVs.rep h n)
def Yq (fa:FL) (fb:FE):FL:=fun r st=>(fa r st).bind fun l s1=>(fb r s1).bind fun q s2=>match q with
 | .int k=>if -(2 ^ 63)≤k∧k < 2 ^ 63∧l.length * k.toNat≤sizeLine then .ok (List.replicate k.toNat l).flatten s2 else .no
 |_ => .no
end
theorem WE.hid1 {H H':Hp} {b b':Bz} {p:Addr} (e:Ext H b H' b') (hn:H p=none):WE H b H' ⟨b'.b,p::b'.z⟩ :=
 ⟨e.more,⟨[p],by rw [e.same];rfl,fun a ha=>by rw [Ak.mp ha];exact hn⟩,e.keep,e.dom⟩
theorem Ext.unhide {H H' H2:Hp} {b b' b4:Bz} {p:Addr} (e:Ext H b H' b') (hn:H p=none) (e4:Ext H' ⟨b'.b,p::b'.z⟩ H2 b4):Ext H b H2 ⟨b4.b,b'.z⟩:=by
 obtain ⟨n,hb,hh⟩:=e.more
 obtain ⟨n4,hb4,hh4⟩:=e4.more
 refine ⟨⟨⟨n++n4,?_,fun a ha => ?_⟩,⟨[],by rw [e.same];rfl,by simp⟩,fun a o ha ho => ?_,fun a o ha => ?_⟩,e.same,fun a o ha ho => ?_,fun a o u ha=>e4.fz a o u (e.fz a o u ha)⟩
 ·show b4.b=b.b++(n++n4)
  rw [hb4];show b'.b++n4=_;rw [hb,Ab]
 ·rcases Ar.mp ha with ha |ha
  ·exact hh a ha
  ·exact e.none_of (hh4 a ha)
 ·have o2:=e.not_in ha ho
  exact e4.keep a o (e.keep a o ha ho) ⟨o2.1,fun z=>(AJ.mp z).elim (qQ ha hn) o2.2⟩
 ·obtain ⟨o',h'⟩:=e.dom a o ha
  exact e4.dom a o' h'
 ·exact e4.hid a o (AD _ (by rw [e.same];exact ha)) (e.hid a o ha ho)
theorem qHp {b4:Bz} {z:List Addr} (h:b4.z=z):b4=⟨b4.b,z⟩:=by cases b4;cases h;rfl
section
variable {X:Cx} {E:XK} {e a c d:Expr} {es:List Expr} {f fa fb fc:FE} {fl:FL} {pos:Pos} {F G:FS}
theorem qBH (ha:VN X E a fl) (hb:VE X E c fb):VN X E (.BinOp a .Mult c pos) (Yq fl fb):=PE.imp (qFA qJh ha hb) fun s H Q ⟨b,r,st,S,R,P⟩=>⟨b,r,st,S,R,by
 unfold Yq at P
 cases ef:fl r st with
 |no=>rw [ef] at P;exact P.elim
 |ex x s1=>rw [ef] at P;exact P
 |ok l s1 =>
  rw [ef] at P
  have P:PostN X.K E H b ((fb r s1).bind fun q s2=>match q with | .int k=>if -(2 ^ 63)≤k∧k < 2 ^ 63∧l.length * k.toNat≤sizeLine then .ok (List.replicate k.toNat l).flatten s2 else .no |_ => .no) Q:=P
  intro p xs H' b' e1 hn hp hz S1 r1
  refine ⟨⟨b'.b,p::b'.z⟩,r,s1,S1,R.wext (WE.hid1 e1 hn),?_⟩
  cases eb:fb r s1 with
  |no=>rw [eb] at P;exact P.elim
  |ex x s2 =>
   rw [eb] at P
   intro cc dd H2 b2 e2 S2 rx
   have e3:=Ext.unhide e1 hn e2
   have hb2:b2=⟨b2.b,p::b'.z⟩:=qHp e2.same
   refine P cc dd H2 ⟨b2.b,b'.z⟩ e3 (by rw [hb2] at S2;exact S2.bare) ⟨rx.1,rx.2.imp id fun ⟨a,q1,q2,q3⟩=>⟨a,q1,q2,by rw [hb2] at q3;exact ⟨q3.1,fun z=>q3.2 (AD _ z)⟩⟩⟩
  |ok q s2 =>
   rw [eb] at P
   intro v H2 b2 e2 S2 rv
   have e3:=Ext.unhide e1 hn e2
   have hb2:b2=⟨b2.b,p::b'.z⟩:=qHp e2.same
   dsimp only [Rs.bind] at P
   split at P
   ·rename_i k
    split at P
    ·rename_i hk
     unfold RV at rv
     have hH2:H2 p=some (.lst xs):=e2.hid p _ AI hp
     have S3:SR X.K H2 ⟨b2.b,b'.z⟩ s2:=by rw [hb2] at S2;exact S2.bare
     have r3:RVs X.K H2 ⟨b2.b,b'.z⟩ l xs:=RVs.sh Sh.bare l (by have:=RVs.ext e2 l r1;rw [hb2] at this;exact this)
     refine ⟨p,k,xs,rfl,rv,hH2,hk.1,hk.2.1,by rw [← r1.length];exact hk.2.2,fun z hz' => ?_⟩
     exact PostN.lay (PostN.ext (show PostN X.K E H b (.ok (List.replicate k.toNat l).flatten s2) Q from P) e3) S3 (RVs.rep r3 k.toNat) hz'
    ·exact P.elim
   ·exact P.elim⟩
def zP:PV->PV->qC->Rs PV:=fun p q st=>match p,q with
 | .tup l,.tup m=>if l.length + m.length≤sizeLine then .ok (.tup (l++m)) st else .no
 |_,_ => .no
theorem zF (ha:VE X E a fa) (hb:VE X E c fb):VE X E (.BinOp a .Add c pos) (qM zP fa fb):=Z5 qEI (fun H b st p q u v Q S rp rq P=>by
 unfold zP at P
 split at P
 ·rename_i l m
  split at P
  ·rename_i hl
   have rp0:=rp
   have rq0:=rq
   unfold RV at rp rq
   obtain ⟨x,xs,rfl,h2,h3⟩:=rp
   obtain ⟨y,ys,rfl,h4,h5⟩:=rq
   have n1:=h3.length
   have n2:=h5.length
   refine ⟨x,y,xs,ys,rfl,rfl,h2.sq,h4.sq,by rw [← n1,← n2];exact hl,fun z => ?_,fun _ z => ?_,fun _ _ w hw=>PostE.layT P S (h3.append h5) hw⟩
   ·have:l=[]:=List.length_eq_zero_iff.mp (by rw [n1,z];rfl)
    subst this
    exact PostE.here P S rq0
   ·have:m=[]:=List.length_eq_zero_iff.mp (by rw [n2,z];rfl)
    subst this
    rw [A6] at P
    exact PostE.here P S rp0
  ·exact P.elim
 ·exact P.elim) ha hb
abbrev FO:=QO->qC->Rs (Option Int)
def PostO (K:W.Frag) (E:XK) (H:Hp) (b:Bz) (r:Rs (Option Int)) (Q:Option Int->Hp->Prop):Prop:=match r with
 | .ok k st => ∀ H' b',Ext H b H' b'->SR K H' b' st->Q k H'
 | .ex x st=>XP K E H b x st
 | .no=>False
def rdO (K:W.Frag) (E:XK) (f:FO):TO:=fun s H Q => ∃ b r st,SR K H b st∧REnv K H b r s∧PostO K E H b (f r st) Q
abbrev VO (X:Cx) (E:XK) (e:Option Expr) (f:FO):Prop:=PO X e (rdO X.K E f)
def Q9:FO:=fun _ st => .ok none st
def wA (f:FE):FO:=fun r st=>(f r st).bind fun p s=>match p with
 | .int i => .ok (some i) s
 |_ => .no
theorem wR:VO X E none Q9:=fun pins s σ H Q I ⟨b,r,st,S,R,P⟩=>qHZ pins s σ H Q I (P H b (Ext.refl _ _) S)
theorem wl (h:VE X E e f):VO X E (some e) (wA f):=fun pins s σ H Q I ⟨b,r,st,S,R,P⟩=>qGx h pins s σ H Q I ⟨b,r,st,S,R,by
 unfold wA at P
 cases ef:f r st with
 |no=>rw [ef] at P;exact P.elim
 |ex x s1=>rw [ef] at P;exact P
 |ok p s1 =>
  rw [ef] at P
  intro v H1 b1 e1 S1 r1
  dsimp only [Rs.bind] at P
  split at P
  ·rename_i i
   unfold RV at r1
   exact ⟨i,r1,P H1 b1 e1 S1⟩
  ·exact P.elim⟩
def WU (l:List PV) (lo hi:Option Int):List PV:=(l.drop (HT.sIx l.length 0 lo)).take (HT.sIx l.length l.length hi - HT.sIx l.length 0 lo)
def yd (f:FE) (lo hi:FO):FE:=fun r st=>(f r st).bind fun p s1=>(lo r s1).bind fun a s2=>(hi r s2).bind fun c s3=>match p with
 | .tup l => .ok (.tup (WU l a c)) s3
 |_ => .no
theorem PostO.bind {K:W.Frag} {E:XK} {H:Hp} {b:Bz} {r:Rs (Option Int)} {k:Option Int->qC->Rs PV} {Q:VK} {R:Option Int->Hp->Prop} (P:PostE K E H b (r.bind k) Q)
  (h:∀ p st H1 b1,Ext H b H1 b1->SR K H1 b1 st->PostE K E H1 b1 (k p st) Q->R p H1):PostO K E H b r R:=by
 cases r with
 |ok p st=>exact fun H1 b1 e S=>h p st H1 b1 e S (PostE.ext (show PostE K E H b (k p st) Q from P) e)
 |ex x st=>exact P
 |no=>exact P
theorem ZM {lo hi:Option Expr} {flo fhi:FO} {p2:Pos} (h:VE X E e f) (hl:VO X E lo flo) (hh:VO X E hi fhi):VE X E (.Subscript e (.Slice lo hi none p2) pos) (yd f flo fhi) :=
 PE.imp (qAH (sl_tup.or qFO) h hl hh) fun s H Q ⟨b,r,st,S,R,P⟩=>⟨b,r,st,S,R,PostE.bind P fun p s1 u H1 b1 e1 S1 r1 P1=>⟨b1,r,s1,S1,R.ext e1,PostO.bind P1 fun k s2 H2 b2 e2 S2 P2=>⟨b2,r,s2,S2,(R.ext e1).ext e2,PostO.bind P2 fun m s3 H3 b3 e3 S3 P3=>by
  split at P3
  ·rename_i l
   have r3:=RV.ext e3 _ (RV.ext e2 _ r1)
   have r0:=r3
   unfold RV at r3
   obtain ⟨x,xs,rfl,h2,h3⟩:=r3
   have hlen:=h3.length
   by_cases hw:HT.sIx xs.length 0 k=0∧HT.sIx xs.length xs.length m=xs.length
   ·refine .inr ⟨x,xs,rfl,h2.sq,hw.1,hw.2,?_⟩
    have:WU l k m=l:=by
     unfold WU
     rw [hlen,hw.1,hw.2,List.drop_zero,Nat.sub_zero,← hlen,CT]
    rw [this] at P3
    exact PostE.here P3 S3 r0
   ·refine .inl ⟨x,xs,rfl,h2.sq,hw,fun z hz => ?_⟩
    have hc:RVs X.K H3 b3 (WU l k m) (jB xs k m):=by
     unfold WU jB
     rw [hlen]
     exact (h3.drop _).take _
    exact PostE.layT P3 S3 hc hz
  ·exact P3.elim⟩⟩⟩
def W3 (fo f:FE):FS:=fun r st=>(fo r st).bindS fun o s1=>match o with
 | .ref n=>if lk s1 (.ref n)=true then (f r s1).bindS fun p s2=>match s2[n]? with
  |some (.l xs)=>if xs.length < sizeLine then .nx r (s2.set n (.l (xs++[p]))) else .no
  |_ => .no else .no
 |_ => .no
theorem ZQ {fo:FE} {o:Expr} {apos cpos:Pos} (ho:VE X E o fo) (h:VE X E e f) (hs:swapsWith (.Call (.Attribute o "append" apos) [e] [] cpos) none pos.line X.env=pure false:=by rfl)
  (hbase:attributeBase o "append" X.env (eval o X.env)=eval o X.env:=by rfl)
  (hfew:((backTo cpos (starEach [e] X.env)).all (fun x => !x.1)&&(backToKw cpos (keywordEach [] X.env)).all (fun x=>x.1.isSome)&&decide ([e].length + ([]:List Keyword).length + (if ([]:List Keyword).isEmpty then 0 else 1) < 30))=true:=by rfl)
  (hline:(apos.endLine==cpos.line)=true:=by rfl) (h1:starEach [e] X.env=(false,eval e X.env)::starEach [] X.env:=by rfl) (hplain:(backTo cpos (starEach [] X.env)).any (·.1)=false:=by rfl) :
  VS X E (.Expr (.Call (.Attribute o "append" apos) [e] [] cpos) pos) (W3 fo f) :=
 PS.imp (qCV (qD4 PySem.F.plainAttrs_list PySem.F.slot_list_append PySem.F.type_list_append jP ho (yG h Yz h1) hbase hfew hline h1 hplain) hs) fun D s H ⟨b,r,st,S,R,P⟩=>⟨b,r,st,S,R,PostE.bindS P fun o s1 u H1 b1 e1 S1 r1 P1=>by
  have key:∀ {n:Nat},o = .ref n->lk s1 (.ref n)=true->tyV X.K "list" u H1:=fun {n} ho hlk=>by
   subst ho
   unfold RV at r1
   obtain ⟨x,rfl,hx⟩:=r1
   have hl:n < s1.length:=by rw [← S1.len];exact (AQ.mp hx).1
   obtain ⟨a',o',h3,h4,h5⟩:=S1.at_ n _ (AE hl)
   rw [hx] at h3;cases h3
   cases hq:s1[n] with
   |l xs=>rw [hq] at h5;obtain ⟨vs,e,_⟩:=h5;subst e;exact .inl ⟨rfl,vs,SqL.of h4⟩
   |z xs=>unfold lk at hlk;dsimp only at hlk;rw [AE hl,hq] at hlk;cases hlk
   |d xs=>unfold lk at hlk;dsimp only at hlk;rw [AE hl,hq] at hlk;cases hlk
  cases o with
  |ref n =>
   have P1:PostS X.K E H1 b1 (if lk s1 (.ref n)=true then ((f r s1).bindS fun p s2=>match s2[n]? with |some (.l xs)=>if xs.length < sizeLine then .nx r (s2.set n (.l (xs++[p]))) else .no |_ => .no) else .no) D:=P1
   by_cases hlk:lk s1 (.ref n)=true
   rotate_left
   ·rw [AN hlk] at P1;exact P1.elim
   rw [AG hlk] at P1
   refine ⟨key rfl hlk,b1,r,s1,S1,R.ext e1,?_⟩
   cases eb:f r s1 with
   |no=>rw [eb] at P1;exact P1.elim
   |ex x s2=>rw [eb] at P1;exact P1
   |ok p s2 =>
    rw [eb] at P1
    intro v H2 b2 e2 S2 r2
    have P2:PostS X.K E H1 b1 (match s2[n]? with |some (.l xs)=>if xs.length < sizeLine then .nx r (s2.set n (.l (xs++[p]))) else .no |_ => .no) D:=P1
    split at P2
    ·rename_i xs ex
     split at P2
     ·rename_i hl
      have r1':=RV.ext e2 _ r1
      unfold RV at r1'
      obtain ⟨x,rfl,hx⟩:=r1'
      obtain ⟨x',o',h1,h2,vs,rfl,h4⟩:=S2.at_ n _ ex
      rw [hx] at h1;cases h1
      refine ⟨x,vs,v,rfl,rfl,h2,by rw [← h4.length];exact hl,?_⟩
      have hm:x∈b2.b:=Aw hx
      have ew:Ext H2 b2 (upd H2 x (.lst (vs++[v]))) b2:=Ext.wr hm S2.zb (qF4 h2)
      exact P2 s _ b2 (e2.trans ew) (S2.wr (x := .l (xs++[p])) hx ⟨_,rfl,(RVs.ext ew xs h4).append (RVs.cons (RV.ext ew p r2) RVs.nil)⟩) (((R.ext e1).ext e2).ext ew)
     ·exact P2.elim
    ·exact P2.elim
  |_=>exact P1.elim⟩
def qDC (p:PV):List PV->Option Nat
 |[]=>none
 |q::qs=>if peq q p=true then some 0 else (qDC p qs).map (· + 1)
theorem jV (p:PV):∀ {l:List PV} {j:Nat},qDC p l=some j->(∃ q,l[j]? = some q∧peq q p=true) ∧ ∀ m,m < j -> ∃ q,l[m]? = some q∧peq q p=false
 |[],_,h=>by cases h
 |q::qs,j,h=>by
  unfold qDC at h
  split at h
  ·rename_i hq;cases h;exact ⟨⟨q,rfl,hq⟩,fun m hm=>by omega⟩
  ·rename_i hq
   cases e:qDC p qs with
   |none=>rw [e] at h;cases h
   |some k =>
    rw [e] at h;cases h
    obtain ⟨⟨q',h1,h2⟩,h3⟩:=jV p e
    refine ⟨⟨q',by simpa using h1,h2⟩,fun m hm => ?_⟩
    cases m with
    |zero=>exact ⟨q,rfl,by simpa using hq⟩
    |succ m=>obtain ⟨q2,h4,h5⟩:=h3 m (by have hm:m + 1 < k + 1:=hm;omega);exact ⟨q2,by simpa using h4,h5⟩
theorem qIW {pins:List (Addr×Obj)} {σ:L2.St} {H:Hp} {s:Shared} (I:L2.Inv X pins σ H s) {A:Around} {p:PV} {u:V} {uu:Value} (hp:RW X.K H p u) (ru:RelV u uu) (hA:A.units + 60 < cLine)
  {l:List PV} {xs:List V} {its:List Value} (hl:RWs X.K H l xs) (vl:Vals xs its) (hd:deps l≤y0):∃ g:Value->Bool,(∀ y∈its,SeqAt.EqAt A s y uu (g y)) ∧ ∀ (i:Nat) (q:PV) (y:Value),l[i]? = some q->its[i]? = some y->g y=peq q p:=by
 classical
 have key:∀ (q:PV) (x:V) (y:Value),RW X.K H q x->RelV x y->decide (∃ q x,RW X.K H q x∧RelV x y∧peq q p=true)=peq q p:=fun q x y h1 h2=>by
  by_cases hb:peq q p=true
  ·rw [hb];exact Ai ⟨q,x,h1,h2,hb⟩
  ·rw [show peq q p=false by simpa using hb]
   refine Ac fun ⟨q',x',k1,k2,k3⟩=>hb ?_
   have ex:x'=x:=k2.inj h2
   subst ex
   rw [RW.det I q q' h1 k1];exact k3
 refine ⟨fun y=>decide (∃ q x,RW X.K H q x∧RelV x y∧peq q p=true),fun y hy => ?_,fun i q y hq hy => ?_⟩
 ·obtain ⟨i,hi⟩:=BS hy
  obtain ⟨x,hx,rx⟩:=Vals.get2 vl hi
  obtain ⟨q,hq,rq⟩:=RWs.get' hl hx
  dsimp only
  rw [key q x y rq rx]
  exact qCt I 60 q p x u y uu A (Aa (zZ hq) hd) hA rq hp rx ru
 ·obtain ⟨x,hx,rx⟩:=Vals.get2 vl hy
  obtain ⟨q',hq',rq⟩:=RWs.get' hl hx
  rw [hq] at hq';cases hq'
  exact key q x y rq rx
theorem qD2 (hr:X.A.units + 64 < cLine):MtM X "list.index" (fun x vs H Q => ∃ l xs a p v j,x = .ref a∧vs=[v]∧SqL X.K H a xs∧RWs X.K H l xs∧RW X.K H p v∧deps l≤y0∧qDC p l=some j∧Q (.int j) H):=by
 intro pins s σ H x vs v us Q I rx rv h
 obtain ⟨l,xs,ad,p,y,j,rfl,rfl,hs,hl,hp,hd,hj,q⟩:=h
 cases rx
 obtain ⟨u,rfl,ru⟩:=rv.one
 obtain ⟨its,r',pl,hz⟩:=I.list hs
 obtain ⟨⟨c1,d1,a1,s1⟩,o1,e1,m1,f1⟩:=id pl.isList
 have e1:c1=_:=e1
 have f1:a1=_:=f1
 subst e1;subst f1
 have hA:X.A.in1.units + 60 < cLine:=by show X.A.units + 1 + 60 < cLine;omega
 obtain ⟨g,g1,g2⟩:=qIW I hp ru hA hl r' hd
 obtain ⟨⟨q1,k1,k2⟩,k3⟩:=jV p hj
 have n1:l.length=its.length:=by rw [hl.length,r'.length]
 have jl:j < l.length:=(AQ.mp k1).1
 have ji:j < its.length:=by rw [← n1];exact jl
 refine call_meets F.slot_list_index ⟨_,o1,rfl⟩ F.entry_list_index (F.args_list_index_2 _ _) (SeqAt.list_indexAt ad its.toArray m1 d1 s1 u g j (by simpa using ji) ?_ ?_ fun m hm hlt => ?_) ⟨o1,fun y hy=>g1 y (by simpa using hy),⟨.int j,H,I.tok _,⟨_,rfl⟩,q⟩⟩
 ·have:its.length≤sizeLine:=by rw [← r'.length];exact hz
  have h2:(sizeLine:Nat) < 2 ^ 62:=by decide
  omega
 ·rw [show its.toArray[j]=its[j] by simp,g2 j q1 _ k1 (AE ji)];exact k2
 ·obtain ⟨q2,k4,k5⟩:=k3 m hlt
  have mi:m < its.length:=by simpa using hm
  rw [show its.toArray[m]=its[m] by simp,g2 m q2 _ k4 (AE mi)];exact k5
def qKD (fo f:FE):FE:=fun r st=>(fo r st).bind fun o s1=>match asL s1 o with
 |some _=>(f r s1).bind fun p s2=>match asL s2 o with
  |some l=>if nrs l=true∧nr p=true∧deps l≤y0 then (match qDC p l with |some j => .ok (.int j) s2 |none => .no) else .no
  |none => .no
 |none => .no
theorem qEK {fo:FE} {o:Expr} {apos cpos:Pos} (hr:X.A.units + 64 < cLine) (ho:VE X E o fo) (h:VE X E e f) (hbase:attributeBase o "index" X.env (eval o X.env)=eval o X.env:=by rfl)
  (hfew:((backTo cpos (starEach [e] X.env)).all (fun x => !x.1)&&(backToKw cpos (keywordEach [] X.env)).all (fun x=>x.1.isSome)&&decide ([e].length + ([]:List Keyword).length + (if ([]:List Keyword).isEmpty then 0 else 1) < 30))=true:=by rfl)
  (hline:(apos.endLine==cpos.line)=true:=by rfl) (h1:starEach [e] X.env=(false,eval e X.env)::starEach [] X.env:=by rfl) (hplain:(backTo cpos (starEach [] X.env)).any (·.1)=false:=by rfl) :
  VE X E (.Call (.Attribute o "index" apos) [e] [] cpos) (qKD fo f) :=
 PE.imp (qD4 PySem.F.plainAttrs_list PySem.F.slot_list_index PySem.F.type_list_index (qD2 hr) ho (yG h Yz h1) hbase hfew hline h1 hplain) fun s H Q ⟨b,r,st,S,R,P⟩=>⟨b,r,st,S,R,PostE.bind P fun o s1 u H1 b1 e1 S1 r1 P1=>by
  split at P1
  ·rename_i l1 el1
   obtain ⟨x,xs,rfl,h2,h3⟩:=wg S1 r1 el1
   refine ⟨.inl ⟨rfl,xs,h2⟩,b1,r,s1,S1,R.ext e1,PostE.bind P1 fun p s2 v H2 b2 e2 S2 r2 P2 => ?_⟩
   split at P2
   ·rename_i l el
    split at P2
    ·rename_i hc
     split at P2
     ·rename_i j hj
      obtain ⟨x',ys,ex,h4,h5⟩:=wg S2 (RV.ext e2 o r1) el
      cases ex
      exact ⟨l,ys,x,p,v,j,rfl,rfl,h4,RVs.rws l hc.1 h5,RV.rw p hc.2.1 r2,hc.2.2,hj,PostE.here P2 S2 wC⟩
     ·exact P2.elim
    ·exact P2.elim
   ·exact P2.elim
  ·exact P1.elim⟩
def zy:List PV->List PV->List PV
 |x::l,y::m => .tup [x,y]::zy l m
 |_,_=>[]
theorem qAF:∀ {l m:List PV} {i:Nat} {p:PV},(zy l m)[i]? = some p -> ∃ x y,l[i]? = some x∧m[i]? = some y∧p = .tup [x,y]
 |[],_,_,_,h=>by simp [zy] at h
 |_::_,[],_,_,h=>by simp [zy] at h
 |x::l,y::m,0,p,h=>⟨x,y,rfl,rfl,by simpa [zy] using h.symm⟩
 |x::l,y::m,i + 1,p,h=>by
  obtain ⟨u,v,h1,h2,h3⟩:=qAF (l:=l) (m:=m) (i:=i) (p:=p) (by simpa [zy] using h)
  exact ⟨u,v,by simpa using h1,by simpa using h2,h3⟩
theorem qAr:∀ (l m:List PV),(zy l m).length=min l.length m.length
 |[],m=>by simp [zy]
 |_::_,[]=>by simp [zy]
 |x::l,y::m=>by simp [zy,qAr l m]
def qK0 (i:Int):Str:=toString i
def qBZ (f:FE):FE:=fun r st=>(f r st).bind fun p s=>match p with
 | .int i=>if i.natAbs.log2 < 1920 then .ok (.str (qK0 i)) s else .no
 |_ => .no
theorem JA (h:VE X E e f):VE X E (.FormattedValue e (-1) none pos) (qBZ f):=PE.imp (qJl h) fun s H Q ⟨b,r,st,S,R,P⟩=>⟨b,r,st,S,R,PostE.bind P fun p s1 u H1 b1 e1 S1 r1 P1=>by
 split at P1
 ·rename_i i
  split at P1
  ·rename_i hi
   unfold RV at r1
   exact ⟨i,r1,hi,PostE.here P1 S1 (by unfold RV;rfl)⟩
  ·exact P1.elim
 ·exact P1.elim⟩
def vJ:List FE->Str->QO->qC->Rs PV
 |[],out,_,st=>if out.length≤sizeLine then .ok (.str out) st else .no
 |f::fs,out,r,st=>(f r st).bind fun p s=>match p with
  | .str y=>if (out++y).length≤sizeLine then vJ fs (out++y) r s else .no
  |_ => .no
def VJ (X:Cx) (E:XK) (es:List Expr) (fs:List FE):Prop:=PJ X es (fun out σ H Q => ∃ b r st,SR X.K H b st∧REnv X.K H b r σ∧PostE X.K E H b (vJ fs out r st) (fun v H' => ∃ x,v = .str x∧Q x H'))
theorem qEA:VJ X E [] []:=fun out pins s σ H Q I ⟨b,r,st,S,R,P⟩=>qI4 out pins s σ H Q I (by
 unfold vJ at P
 split at P
 ·rename_i h
  obtain ⟨x,e,q⟩:=PostE.here P S (by unfold RV;rfl)
  cases e
  exact ⟨h,q⟩
 ·exact P.elim)
theorem Wp {fs:List FE} (h1:VE X E e f) (h2:VJ X E es fs):VJ X E (e::es) (f::fs):=fun out pins s σ H Q I ⟨b,r,st,S,R,P⟩=>qF3 h1 h2 out pins s σ H Q I (by
 unfold vJ at P
 refine ⟨b,r,st,S,R,PostE.bind P fun p s1 u H1 b1 e1 S1 r1 P1 => ?_⟩
 split at P1
 ·rename_i y
  split at P1
  ·rename_i h
   unfold RV at r1
   exact ⟨y,r1,h,b1,r,s1,S1,R.ext e1,P1⟩
  ·exact P1.elim
 ·exact P1.elim)
theorem qCc {e1 e2:Expr} {fs:List FE} (h:VJ X E (e1::e2::es) fs):VE X E (.JoinedStr (e1::e2::es) pos) (vJ fs Str.empty):=fun pins s σ H Q I ⟨b,r,st,S,R,P⟩=>qGz h pins s σ H Q I ⟨b,r,st,S,R,by
 cases e:vJ fs Str.empty r st with
 |ex x s1=>rw [e] at P;exact P
 |no=>rw [e] at P;exact P
 |ok p s1 =>
  rw [e] at P
  intro v H' b' e' S' r'
  have q:=P v H' b' e' S' r'
  have hp:∃ y,p = .str y:=by
   have key:∀ (fs:List FE) (out:Str) (st:qC) (p:PV) (s1:qC),vJ fs out r st = .ok p s1 -> ∃ y,p = .str y:=by
    intro fs
    induction fs with
    |nil=>intro out st p s1 h;unfold vJ at h;split at h;(cases h;exact ⟨_,rfl⟩);cases h
    |cons g gs ih =>
     intro out st p s1 h
     unfold vJ at h
     cases eg:g r st with
     |no=>rw [eg] at h;cases h
     |ex x s2=>rw [eg] at h;cases h
     |ok p2 s2 =>
      rw [eg] at h
      dsimp only [Rs.bind] at h
      split at h
      ·split at h
       ·exact ih _ _ _ _ h
       ·cases h
      ·cases h
   exact key _ _ _ _ _ e
  obtain ⟨y,rfl⟩:=hp
  unfold RV at r'
  exact ⟨y,r',by rw [r'] at q;exact q⟩⟩
theorem qm {P:Program} {w:World} (X:Cx):ZN (CXF P w) X E0:=fun pins σ H s e s' I h=>by
 obtain ⟨_,_,_,_,_,_,_,_,_,_,_,_,q⟩:=h
 exact q.elim
def qy (i:Nat):FG:=fun p r=>match r[i]? with
 |some none=>some (r.set i (some p))
 |_=>none
theorem qCQ {i:Nat} {p:PV} {r r':QO} (h:qy i p r=some r'):r[i]? = some none∧r'=r.set i (some p):=by
 unfold qy at h
 split at h
 ·rename_i e;cases h;exact ⟨e,rfl⟩
 ·cases h
theorem QL (i:Nat) {x:Str} (hN:X.N.Nodup) (hi:X.N[i]? = some x:=by rfl) (hx:Loc X.env.scope x:=by first |exact Or.inl rfl |exact Or.inr rfl) (hf:X.fn x=true∨X.env.scope.names.lookup x=some .local:=by first |exact .inl rfl |exact .inr rfl |assumption):VG X (.Name x pos) (qy i) :=
 PG.imp (QV i hN hi hx hf) fun v s H Q ⟨b,r,p,st,S,R,rv,r',e,q⟩=>⟨b,r,p,st,S,R,rv,r',by rw [(qCQ e).2];rfl,q⟩
theorem Le.refl (r:QO):Le r r:=⟨rfl,fun _ _ h=>h⟩
theorem Le.trans {r r1 r2:QO} (h:Le r r1) (g:Le r1 r2):Le r r2:=⟨h.1.trans g.1,fun i p e=>g.2 i p (h.2 i p e)⟩
theorem qY (i:Nat):qCK (qy i):=fun p r r' h=>by
 obtain ⟨h1,rfl⟩:=qCQ h
 refine ⟨by simp,fun j q e => ?_⟩
 by_cases hj:i=j
 ·subst hj;rw [h1] at e;cases e
 ·rw [Ax hj];exact e
def Jm (g:FGs):Prop := ∀ p r r',g p r=some r'->Le r r'
theorem yi:Jm yz:=fun p r r' h=>by
 unfold yz at h
 split at h
 ·cases h;exact Le.refl _
 ·cases h
theorem WV {g:FG} {gs:FGs} (h1:qCK g) (h2:Jm gs):Jm (wV g gs):=fun p r r' h=>by
 unfold wV at h
 split at h
 ·split at h
  ·rename_i r1 e;exact (h1 _ _ _ e).trans (h2 _ _ _ h)
  ·cases h
 ·cases h
theorem yP {n:Nat} {gs:FGs} (h1:Jm gs):qCK (yj n gs):=fun p r r' h=>by
 unfold yj at h
 split at h
 ·split at h
  ·exact h1 _ _ _ h
  ·cases h
 ·cases h
end
structure DefG (P:Program) (w:World) (K:W.Frag) (mg:Str->Option Value) (base:Heap) (k:Nat) (x:Str) (fa:Addr) (n:Nat) (g:List PV->qC->Rs PV):Prop where
 ok:∃ fd ps,ps.length=n∧FnOk P w K mg base (CXF P w) k fa fd ps (spG K ps.length g)∧L2.Binds K fd ps [] ∧ ∀ l st,g l st ≠ .no->l.length=ps.length
 mg:mg x=some (.ref fa)
 kp:W.keepIn K (.ref fa)=true
section
variable {X:Cx} {E:XK} {e a c d:Expr} {es:List Expr} {f fa fb fc:FE} {fl:FL} {pos:Pos} {F G:FS}
theorem DefG.call {k n:Nat} {x:Str} {fa:Addr} {g:List PV->qC->Rs PV} (D:DefG X.prog X.w X.K X.mg X.base k x fa n g) (hr:Room k X.A) (hx:ZN (CXF X.prog X.w) X E) (hg:Gl X x:=by rfl) (hdb:(x==("__debug__":Str))=false:=by decide):qJT X E x g:=by
 obtain ⟨fd,ps,_,F,B,hl⟩:=D.ok
 exact qK3 (n:=n) F hr hg D.mg D.kp B hx hl hdb
end
def QG (n N:Nat) (B:FS):List PV->qC->Rs PV:=fun l st=>if l.length=n then qGI (B (Q4 N l) st) else .no
theorem ZS {n N:Nat} {B:FS} {l:List PV} {st:qC} (h:QG n N B l st ≠ .no):l.length=n:=by
 unfold QG at h
 split at h
 ·assumption
 ·exact absurd rfl h
section
variable {X:Cx} {E:XK} {e a c d:Expr} {f fa fb fc:FE} {pos:Pos}
def qBB (f:FE):FE:=fun r st=>(f r st).bind fun p s=>match p with
 | .int i => .ok (.int (-i)) s
 |_ => .no
theorem Yj (h:VE X E e f):VE X E (.UnaryOp .USub e pos) (qBB f):=PE.imp (qKU qI5 h) fun s H Q ⟨b,r,st,S,R,P⟩=>⟨b,r,st,S,R,PostE.bind P fun p s1 u H1 b1 e1 S1 r1 P1=>by
 split at P1
 ·rename_i i
  unfold RV at r1
  exact ⟨i,r1,PostE.here P1 S1 wC⟩
 ·exact P1.elim⟩
end
theorem qGA {k:Nat} {A:Around} {v:Option Value} (h:Room k A) (hk:1≤k:=by omega):Room 1 (A.mark v) :=
 ⟨fun z=>absurd z (by decide),by have:=h.dp;show A.depth + 3 * 1 + 5 < recursionLimit;omega,by have:=h.un;show A.units + 16 * 1 + 200 < cLine;omega,h.gd⟩
theorem zY {n N m:Nat} {B:FS} {l:List PV} {s0:qC} (hl:l.length=n):Refn m (qGI (B (Q4 N l) s0)) (QG n N B l s0):=by
 unfold QG;rw [AG hl];exact Refn.refl
section
variable {P:Program} {w:World} {K:W.Frag} {mg:Str->Option Value} {base:Heap}
theorem qCd {x:Str} {st:Stmt} {fa:Addr} {fd:FuncData} {N ps:List Str} {k:Nat} {B:FS} {g:List PV->qC->Rs PV} (F:Fun K x x st fa fd) (S:FnScope N ps (qJ st)) (b:L2.Binds K fd ps []) (m:mg x=some (.ref fa)) (hlen:∀ l s,g l s ≠ .no->l.length=ps.length)
  (body:∀ (cdv:Value) (A:Around) (outer:List Env) (s:Shared) (H:Hp) (E:XK),Room k (A.deeper (envOfC x (qJ st) s.heap.objs.size fa cdv))->(0 < k->A.handled=none)->VSs (wj (CXF P w) P w K mg base N x (qJ st) fa cdv A outer s H E) E (qZ st) B)
  (hg:∀ l s0,l.length=ps.length->g l s0 ≠ .no->Refn s0.length (qGI (B (Q4 N.length l) s0)) (g l s0)):DefG P w K mg base (k + 1) x fa ps.length g :=
 ⟨⟨fd,ps,rfl,okV F S fun cdv A outer s H E hr hc=>⟨B,body cdv A outer s H E hr hc,hg⟩,b,hlen⟩,m,F.kp⟩
theorem qJF {x:Str} {st:Stmt} {fa:Addr} {fd:FuncData} {ps:List Str} {k:Nat} {g:List PV->qC->Rs PV} (F:Fun K x x st fa fd) (b:L2.Binds K fd ps []) (m:mg x=some (.ref fa)) (hg:∀ l s,g l s = .no):DefG P w K mg base k x fa ps.length g:=by
 have no:∀ vs H Q E,¬ spG K ps.length g vs H Q E:=fun vs H Q E ⟨_,b,l,st,_,_,h⟩=>by rw [hg] at h;exact h
 exact ⟨⟨fd,ps,rfl,⟨fun vs H Q E h=>absurd h (no vs H Q E),fun A outer s H args us vs Q E _ _ _ _ h=>absurd h (no vs H Q E)⟩,b,fun l s h=>absurd (hg l s) h⟩,m,F.kp⟩
end
section
variable {X:Cx} {E:XK} {es:List Expr} {f:FE} {g:FA} {pos:Pos}
theorem qr {c:Const} {j:Nat} (h:VE X E (.Constant c j pos) f) (h2:VA X E es g):VA X E (.Constant c j pos::es) (qA f g):=wD h h2 rfl
theorem qO {x:Str} (h:VE X E (.Name x pos) f) (h2:VA X E es g):VA X E (.Name x pos::es) (qA f g):=wD h h2 rfl
theorem wc {a b c} (h:VE X E (.Call a b c pos) f) (h2:VA X E es g):VA X E (.Call a b c pos::es) (qA f g):=wD h h2 rfl
theorem zX {a b c} (h:VE X E (.BinOp a b c pos) f) (h2:VA X E es g):VA X E (.BinOp a b c pos::es) (qA f g):=wD h h2 rfl
theorem yC {a b} (h:VE X E (.Tuple a b pos) f) (h2:VA X E es g):VA X E (.Tuple a b pos::es) (qA f g):=wD h h2 rfl
theorem qJG {a} (h:VE X E (.List a pos) f) (h2:VA X E es g):VA X E (.List a pos::es) (qA f g):=wD h h2 rfl
theorem qDx {a b} (h:VE X E (.Subscript a b pos) f) (h2:VA X E es g):VA X E (.Subscript a b pos::es) (qA f g):=wD h h2 rfl
theorem qKb {a b} (h:VE X E (.UnaryOp a b pos) f) (h2:VA X E es g):VA X E (.UnaryOp a b pos::es) (qA f g):=wD h h2 rfl
theorem qLL {a b c} (h:VE X E (.Compare a b c pos) f) (h2:VA X E es g):VA X E (.Compare a b c pos::es) (qA f g):=wD h h2 rfl
theorem Zw {a b c} (h:VE X E (.ListComp a b c pos) f) (h2:VA X E es g):VA X E (.ListComp a b c pos::es) (qA f g):=wD h h2 rfl
theorem qKJ {a} (h:VE X E (.JoinedStr a pos) f) (h2:VA X E es g):VA X E (.JoinedStr a pos::es) (qA f g):=wD h h2 rfl
theorem qKs {a b c} (h:VE X E (.IfExp a b c pos) f) (h2:VA X E es g):VA X E (.IfExp a b c pos::es) (qA f g):=wD h h2 rfl
theorem qLM {a b} (h:VE X E (.BoolOp a b pos) f) (h2:VA X E es g):VA X E (.BoolOp a b pos::es) (qA f g):=wD h h2 rfl
end
section
variable {X:Cx} {E:XK} {e a c d:Expr} {es:List Expr} {f fa fb fc:FE} {pos:Pos}
def qEQ:PV->Bool
 | .non=>true
 |_=>false
theorem J3 {K:W.Frag} {H:Hp} {b:Bz} {p:PV} {u:V} (r:RV K H b p u):decide (u = .non)=qEQ p:=by
 cases p with
 |non=>unfold RV at r;subst r;rfl
 |bl x=>unfold RV at r;subst r;rfl
 |int x=>unfold RV at r;subst r;rfl
 |str x=>unfold RV at r;subst r;rfl
 |tup l=>unfold RV at r;obtain ⟨a,xs,rfl,_⟩:=r;rfl
 |lst l=>unfold RV at r;obtain ⟨a,xs,rfl,_⟩:=r;rfl
 |ref i=>unfold RV at r;obtain ⟨a,rfl,_⟩:=r;rfl
 |dct=>unfold RV at r;obtain ⟨a,rfl,_⟩:=r;rfl
 |ty n=>unfold RV at r;subst r;rfl
 |fn n=>unfold RV at r;subst r;rfl
 |exc x y=>unfold RV at r;obtain ⟨a,o,u,rfl,_⟩:=r;rfl
def Jf (neg:Bool):PV->PV->qC->Rs PV:=fun p q st=>match q with
 | .non => .ok (.bl (if neg then !qEQ p else qEQ p)) st
 |_ => .no
theorem qH6:OpG X E (fun x y H Q=>y = .non∧Q (.bl (decide (x = .non))) H) (Jf false):=by
 intro H b st p q u v Q S rp rq P
 unfold Jf at P
 split at P
 ·unfold RV at rq
  refine ⟨rq,?_⟩
  rw [J3 rp]
  exact PostE.here P S zg
 ·exact P.elim
theorem qD0:OpG X E (fun x y H Q=>y = .non∧Q (.bl (!decide (x = .non))) H) (Jf true):=by
 intro H b st p q u v Q S rp rq P
 unfold Jf at P
 split at P
 ·unfold RV at rq
  refine ⟨rq,?_⟩
  rw [J3 rp]
  exact PostE.here P S zg
 ·exact P.elim
end
section
variable {X:Cx} {E:XK} {e a c d:Expr} {es:List Expr} {f fa fb fc:FE} {fl:FL} {pos:Pos} {F G:FS}
theorem qIP:VE X E (.Dict [] [] pos) (vC .dct):=PE.imp qE2 fun s H Q ⟨b,r,st,S,R,P⟩ p hp=>by
 refine P (.ref p) _ b (Ext.new hp) (S.new hp) ?_
 unfold RV
 exact ⟨p,rfl,Qd,S.new_notin hp⟩
end
section
variable {X:Cx} {E:XK} {es:List Expr} {f:FE} {g:FA} {pos:Pos}
theorem qLH {a b} (h:VE X E (.Dict a b pos) f) (h2:VA X E es g):VA X E (.Dict a b pos::es) (qA f g):=wD h h2 rfl
end
end EV
end
section
namespace Att
open PySem PySem.W PySem.Calls PyProof.Rows
theorem Y3:∀ {ns:List Int} {n:Int},n∈ns->WData.weight (.int n)≤WData.weightAll (ns.map WData.int)
 |m::ns,n,h=>by
  show _≤WData.weight (.int m) + 1 + WData.weightAll (ns.map WData.int)
  rcases AJ.mp h with rfl |h
  ·omega
  ·have:=Y3 h;omega
theorem J7 {ns:List Int} (h:WData.layableAll [WData.list (ns.map WData.int)]=true):∀ n∈ns,Builtin.Int.intBits n≤2 ^ 20:=by
 intro n hn
 unfold WData.layableAll at h
 have h1:WData.layable (WData.list (ns.map WData.int))=true:=by simpa using h
 unfold WData.layable at h1
 rw [Aj] at h1
 have h2:WData.weight (WData.list (ns.map WData.int))≤2 ^ 20:=Bb h1.2
 have h3:WData.weightAll (ns.map WData.int)≤2 ^ 20:=h2
 exact Aa (Y3 hn) h3
theorem attach_callB {l:OpenLaw} {n:Nat} {q:Program} {loose:List Str} {XP:(Str->Option Value)->Heap->Prop} {YP:World->Heap->Prop} {d:DefRec}
  (hn:l.most=some n) (hdf:d.params.defaults=[])
  (call:∀ (w:World) (s₀ s₁:Shared) (mg mb:Str->Option Value) (fa:Addr) (o:Obj) (pm cd doc:Value) (a:Addr) (vs:List Value) (ns:List Int),
   Ground q loose [] XP w s₀ mg mb s₁.heap->YP w s₁.heap ->
   s₁.heap.get? fa=some o->o.data = .func (docDef d.name d.params d.body d.scope pm cd doc)->s₁.heap.CodeRec cd d.name->mg d.name=some (.ref fa) ->
   s₁.heap.get? a=some { cls := .type "list",data := .seq vs.toArray }->IntsAre vs ns->ns.length≤n->(∀ k∈ns,Builtin.Int.intBits k≤2 ^ 20)->s₁.gens = #[] ->
   codeAny (model l.prog w) callerA (.call (.ref fa) ⟨[.ref a],[]⟩) (fun r s'=>r = .ok (.ret (.bool true))∧OldK s₁.heap s'.heap∧s'.os=s₁.os∧AllBare s'.gens) s₁) :
  WalkO q loose XP YP l.row.toRowW d [] (fun f vs=>PySem.call f vs):=by
 intro w s₀ s₁ mg mb G Y fa o pm cd doc dV kV ho hd hcd hD hmg hg args vals as hpre hlay hrd hwl hlo
 obtain rfl:dV = .none:=Dflts.none hD hdf
 obtain rfl:kV = .none:=Dflts.noKw hD
 obtain ⟨a,vs,ns,rfl,rfl,hobj,hints,hlen⟩:=qDN hn hpre hwl
 refine enter_call (codeAny_mono (call w s₀ s₁ mg mb fa o pm cd doc a vs ns G Y ho (fd_plain hd) hcd hmg hobj hints hlen (J7 hlay) hg) fun r s' hq => ?_)
 obtain ⟨rfl,h2,h3,h4⟩:=hq
 exact ⟨.inl ⟨.bool true,.bool true,[],rfl,fun _=>rfl,.bool true,qDW l _,fun _=>⟨List.Pairwise.nil,fun _ hm=>(nomatch hm)⟩⟩,h2,h3,h4⟩
end Att
end
section
namespace EX
open PySem PySem.Spec PyProof.Rows L2
section
variable {X:Cx} {pins:List (Addr×Obj)} {σ:L2.St} {H:Hp} {s:Shared}
theorem qBd (I:L2.Inv X pins σ H s) {p:Addr} {its:List Value} (pl:IsTup s.heap p its.toArray) {E:Value->Shared->Prop} {Q:Value->Shared->Prop}
  (h:Walks X.prog X.w X.A.in1 s.heap.objs.size (s.heap.objs.size::p::ZX X.A) [s.heap.objs.size] its.toArray.size (fun i v=>its.toArray[i]? = some v) (fun i h=>(h.IsTupleIter s.heap.objs.size p i∧h.IsTuple p its.toArray)∧Hnd X.A.in1 h) ->
   ((s.heap.push { cls := .type "tuple_iterator",data := .fields #[.ref p,.int 0 0] }).IsTupleIter s.heap.objs.size p 0∧(s.heap.push { cls := .type "tuple_iterator",data := .fields #[.ref p,.int 0 0] }).IsTuple p its.toArray)∧Hnd X.A.in1 (s.heap.push { cls := .type "tuple_iterator",data := .fields #[.ref p,.int 0 0] }) ->
   (∀ b∈s.heap.objs.size::p::ZX X.A,b < (s.heap.push { cls := .type "tuple_iterator",data := .fields #[.ref p,.int 0 0] }).objs.size) ->
   (∀ h':Heap,(∀ b o,b ∉ [s.heap.objs.size]->(s.heap.push { cls := .type "tuple_iterator",data := .fields #[.ref p,.int 0 0] }).get? b=some o->h'.get? b=some o) -> ∀ b o,s.heap.get? b=some o->h'.get? b=some o) ->
   Q (.ref s.heap.objs.size) { s with heap:=s.heap.push { cls := .type "tuple_iterator",data := .fields #[.ref p,.int 0 0] } }) :
  wpAny (model X.prog X.w) X.A.in1 (pyIter (.ref p)) Q E s:=by
 obtain ⟨ob,po,_⟩:=id pl
 have hlt:p < s.heap.objs.size:=AM po
 refine Cj pl (h (qA4 _ p (AZ hlt) _ (qHu I)) ⟨⟨⟨_,AV _ rfl,rfl,rfl⟩,(show s.heap.IsTuple p its.toArray from pl).at fun o e=>AC _ e⟩,?_⟩ (fun b hb => ?_) fun h' k b o e => ?_)
 ·exact Hnd.frame (show Hnd X.A.in1 s.heap from I.hndH) fun b _ o e=>AC _ e
 ·rw [A8]
  rcases AJ.mp hb with rfl |hb
  ·exact Nat.lt_succ_self _
  ·rcases AJ.mp hb with rfl |hb
   ·exact BE hlt
   ·have hd:X.A.handled=some (.ref b):=by
     unfold ZX at hb
     split at hb
     ·rename_i a ha;rw [Ak.mp hb];exact ha
     ·cases hb
    obtain ⟨a,oe,vs,e1,e2,_⟩:=I.hndH _ hd
    cases e1
    exact BE (AM e2)
 ·exact k b o (by simp;exact AZ (AM e)) (AC _ e)
theorem qDl:zH X (.builtin "sum") (fun xs H Q => ∃ (p:Addr) (ns:List Int),xs=[.ref p]∧SqT X.K H p (ns.map V.int)∧Q (.int ns.sum) H):=by
 intro pins s σ H xs us Q I r h
 obtain ⟨p,ns,rfl,hq,q⟩:=h
 obtain ⟨u,rfl,rx⟩:=yv r
 cases rx
 obtain ⟨its,r',pl,hz⟩:=I.tuple hq
 have hl:=r'.length
 refine call_sum_walkAnyS (qBd I pl fun W st fp k=>⟨_,_,_,_,_,_,_,fun i=>ns.getD i 0,rfl,W.toS,st,fp,fun i v hv=>Ys r' (by simpa using hv),fun s' t' m => ?_⟩)
 have hsz:its.toArray.size=ns.length:=by rw [AS,← hl,AF]
 rw [hsz,ZC ns _ (AL _),CT]
 obtain ⟨hh,g,d,t,o⟩:=s'
 have g1:g=s.gens:=m.gens
 have d1:d=s.drawn:=m.drawn
 have o1:o=s.os:=m.os
 subst g1;subst d1;subst o1
 exact ⟨.int _,H,I.kept (k hh fun b o hb e=>m.heap b o hb e),⟨t',rfl⟩,q⟩
end
end EX
namespace EV
open PySem PySem.Spec PyProof.Rows L2 EX
section
variable {X:Cx} {E:XK} {e a c d:Expr} {es:List Expr} {f fa fb fc:FE} {fl:FL} {pos:Pos} {F G:FS}
def yD:List PV->qC->Rs PV:=fun ps st=>match ps with
 |[.tup l]=>match wu qDU l with
  |some ns => .ok (.int ns.sum) st
  |none => .no
 |_ => .no
theorem qCR {ta:FA} {p:Pos} (ha:VA X E (e::es) ta) (hm:X.mg "sum" = none) (hg:Gl X "sum" := by rfl) (he:starEach (e::es) X.env=(false,eval e X.env)::starEach es X.env:=by rfl) (hpl:(backTo pos (starEach es X.env)).any (·.1)=false:=by rfl):VE X E (.Call (.Name "sum" p) (e::es) [] pos) (qH yD ta) :=
 W1 qDl (fun H b st ps vs Q S r P=>by
  unfold yD at P
  split at P
  ·rename_i l
   split at P
   ·rename_i ns en
    obtain ⟨v,rfl,r1⟩:=RVs.one r
    unfold RV at r1
    obtain ⟨x,xs,rfl,h2,h3⟩:=r1
    rw [YK h3 en] at h2
    exact ⟨x,ns,rfl,h2.sq,PostE.here P S wC⟩
   ·exact P.elim
  ·exact P.elim) hg hm Boot.«sum» ha (he:=he) (hpl:=hpl)
end
end EV
end
section
namespace HT
open PySem PySem.Spec PyProof.Rows L2
section
variable {prog:Program} {w:World} {A:Around} {E:Value->Shared->Prop} {s:Shared}
def cutS {α:Type} (l:List α) (lo hi:Option Int) (st:Int):List α :=
 (List.range (Builtin.Slice.slicePlaces (Builtin.Slice.sliceAdjust lo hi st l.length).1 (Builtin.Slice.sliceAdjust lo hi st l.length).2 st)).filterMap fun (m:Nat)=>l[((Builtin.Slice.sliceAdjust lo hi st l.length).1 + (m:Int) * st).toNat]?
theorem yA {sl:Addr} {vl vu vs:Value} {lo hi:Option Int} {st:Int} {n:Nat} {Q:Int×Int×Nat->Shared->Prop} (hs:s.heap.IsSliceOf sl vl vu vs) (pl:IsPart vl lo) (pu:IsPart vu hi) (ps:IsPart vs (some st)) (h0:st≠0)
  (h:Q ((Builtin.Slice.sliceAdjust lo hi st n).1,st,Builtin.Slice.slicePlaces (Builtin.Slice.sliceAdjust lo hi st n).1 (Builtin.Slice.sliceAdjust lo hi st n).2 st) s):wpAny (model prog w) A (Builtin.Slice.sliceApplied (.ref sl) (pure (n:Int))) Q E s:=by
 obtain ⟨os,hos,hcs,hds⟩:=id hs
 unfold Builtin.Slice.sliceApplied Builtin.Slice.sliceFields
 refine AA (AA (Aq hos hds (x:=vl) rfl (AA (Aq hos hds (x:=vu) rfl (AA (Aq hos hds (x:=vs) rfl (AB ?_)))))))
 refine AA (W0 ps ?_)
 show wpAny _ _ (if (st==0)=true then _ else _) _ _ s
 rw [AN (by simpa using h0)]
 refine AA (W0 pl (AA (W0 pu (AA (AB ?_)))))
 exact AB h
theorem getItem_tuple_step {t sl:Addr} {items:Array Value} {vl vu vs:Value} {lo hi:Option Int} {st:Int} {Q:Value->Shared->Prop} (ht:IsTup s.heap t items) (hs:s.heap.IsSliceOf sl vl vu vs) (pl:IsPart vl lo) (pu:IsPart vu hi) (ps:IsPart vs (some st)) (h0:st < 0)
  (h:Q (.ref s.heap.objs.size) { s with heap:=s.heap.push { cls := .type "tuple",data := .seq (cutS items.toList lo hi st).toArray } })
  (hsz:(cutS items.toList lo hi st).length≤sizeLine):wpAny (model prog w) A (getItem (.ref t) (.ref sl)) Q E s:=by
 have htake:sizeOk (.seq (cutS items.toList lo hi st).toArray):=by
  show (cutS items.toList lo hi st).toArray.size≤sizeLine
  rw [AS];exact hsz
 obtain ⟨os,hos,hcs,hds⟩:=id hs
 have hTs:s.TypeIs (.ref sl) "slice" := ⟨os,hos,hcs⟩
 unfold getItem
 try with_reducible refine Au ?_
 first |refine AA (AB ?_) |skip
 refine AA (wpAny_sequenceKey ht.typeIs (by decide) ?_)
 refine AA (Ay (name:=Str.ofString "__getitem__") ht.typeIs BK
  (A7 BK ht.typeIs entry_tuple_getitem ?_ (args_tuple_getitem _ _)))
 show wpAny _ _ (Builtin.Tuple.tupleItemsOf (.ref t) >>= _) _ _ s
 refine AA (tupleItemsOf_ ht ?_)
 refine AA (Bf hTs ?_)
 rw [AG (by decide)]
 refine AA (yA hs pl pu ps (by omega) ?_)
 have hno:¬ (((Builtin.Slice.sliceAdjust lo hi st items.size).1==0&&st==1&&Builtin.Slice.slicePlaces (Builtin.Slice.sliceAdjust lo hi st items.size).1 (Builtin.Slice.sliceAdjust lo hi st items.size).2 st==items.size)=true):=by
  intro q
  rw [Aj,Aj] at q
  have q1:st=1:=eq_of_beq q.1.2
  omega
 show wpAny _ _ (if ((Builtin.Slice.sliceAdjust lo hi st items.size).1==0&&st==1&&Builtin.Slice.slicePlaces (Builtin.Slice.sliceAdjust lo hi st items.size).1 (Builtin.Slice.sliceAdjust lo hi st items.size).2 st==items.size)=true then _ else _) _ _ s
 rw [AN hno]
 have e:((List.range (Builtin.Slice.slicePlaces (Builtin.Slice.sliceAdjust lo hi st items.size).1 (Builtin.Slice.sliceAdjust lo hi st items.size).2 st)).filterMap fun (m:Nat)=>items[((Builtin.Slice.sliceAdjust lo hi st items.size).1 + (m:Int) * st).toNat]?).toArray=(cutS items.toList lo hi st).toArray:=by
  unfold cutS
  rw [AX]
  congr 2
  funext m
  rw [A3]
 rw [e]
 first
  |exact AA (m:=Builtin.Tuple.tupleExact _) (A1 (AB ⟨_,rfl,AB h⟩) htake)
  |exact AA (m:=Builtin.Tuple.tupleExact _) (A1 (AA (AB (AB ⟨_,rfl,AB h⟩))) htake)
  |exact AA (AA (m:=Builtin.Tuple.tupleExact _) (A1 (AB (AB ⟨_,rfl,AB h⟩)) htake))
  |exact AA (AA (m:=Builtin.Tuple.tupleExact _) (A1 (AB ⟨_,rfl,AB h⟩) htake))
end
end HT
namespace L2
open PySem PySem.Spec PyProof.Rows
section
variable {X:Cx} {e:Expr} {te:TE} {lo hi:Option Expr} {tl th tt:TO} {sp:Expr} {p2 pos:Pos}
theorem Vals.pick {xs:List V} {us:List Value} (r:Vals xs us) (f:Nat->Nat):∀ js:List Nat,Vals (js.filterMap fun m=>xs[f m]?) (js.filterMap fun m=>us[f m]?)
 |[] => .nil
 |j::js=>by
  have hl:=r.length
  rw [BH,BH]
  by_cases hj:f j < xs.length
  ·obtain ⟨u,hu,ru⟩:∃ u,us[f j]? = some u∧RelV (xs[f j]) u:=by
    have hju:f j < us.length:=by rw [← hl];exact hj
    obtain ⟨x,hx,rx⟩:=EV.Vals.get2 r (AE hju)
    rw [AE hj] at hx;cases hx
    exact ⟨_,AE hju,rx⟩
   rw [hu,AE hj]
   exact .cons ru (Vals.pick r f js)
  ·rw [BP (by omega),BP (by omega)]
   exact Vals.pick r f js
def qKy (K:W.Frag) (te:TE) (tl th tt:TO):TE:=fun σ H Q=>te σ H fun x H1=>tl σ H1 fun l H2=>th σ H2 fun u H3=>tt σ H3 fun o H4 => ∃ st a xs,o=some st∧st < 0∧x = .ref a∧SqT K H4 a xs∧(HT.cutS xs l u st).length≤sizeLine ∧ ∀ p,H4 p=none->Q (.ref p) (upd H4 p (.tup (HT.cutS xs l u st)))
theorem qDi (he:PE X e te) (hl:PO X lo tl) (hu:PO X hi th) (hp:PO X (some sp) tt):PE X (.Subscript e (.Slice lo hi (some sp) p2) pos) (qKy X.K te tl th tt):=by
 intro pins s σ H Q I h
 refine Subscript_ (thn (he pins s σ H _ I h) fun v s1 ⟨x,H1,I1,r1,q1⟩ => ?_)
 refine wpAny_Slice (thn (hl pins s1 σ H1 _ I1 q1) fun vl s2 ⟨l,H2,I2,pl,q2⟩=>thn (hu pins s2 σ H2 _ I2 q2) fun vu s3 ⟨u,H3,I3,pu,q3⟩=>thn (hp pins s3 σ H3 _ I3 q3) fun vs s4 ⟨o,H4,I4,po,st,a,xs,eo,h0,ex,hx,hz,q⟩ => ?_)
 subst eo;subst ex
 cases r1
 have I5:Inv X pins σ H4 { s4 with heap:=s4.heap.push { cls := .type "slice",data := .fields #[vl,vu,vs] } }:=I4.kept (t':=s4.toks) fun b ob q=>AC _ q
 obtain ⟨its,r,ht,hz2⟩:=I5.tuple hx
 have hlen:=r.length
 have hc:Vals (HT.cutS xs l u st) (HT.cutS its l u st):=by
  unfold HT.cutS
  rw [← hlen]
  exact Vals.pick r _ _
 show wpAny (model X.prog X.w) X.A (subscriptTail e (.Slice lo hi (some sp) p2) (.ref a) (.ref s4.heap.objs.size)) (EP X pins σ Q) X.xe { s4 with heap:=s4.heap.push { cls := .type "slice",data := .fields #[vl,vu,vs] } }
 refine tail_any (T := "tuple") (id := "tuple.__getitem__") (ops:=[.ref a,.ref s4.heap.objs.size]) ht.typeIs ?_ (HT.getItem_tuple_step ht (Heap.IsSliceOf.new ..) pl pu po h0 ?_ ?_) (by with_unfolding_all rfl)
 ·exact PyProof.Rows.slot_tuple_getitem.lookup
 ·refine ⟨.ref _,_,I5.laid (t':=s4.toks) (o := .tup (HT.cutS xs l u st)) (fun b ob q=>AC _ q) (AL _) ?_,rfl,q _ (I5.hok.fresh (AL _))⟩
  exact ⟨hz,_,hc,IsTup.new _ _⟩
 ·have:=hc.length
  rw [← this];exact hz
end
end L2
end
section
namespace EV
open PySem PySem.Spec PyProof.Rows L2 EX
section
variable {X:Cx} {E:XK} {e a c d:Expr} {es:List Expr} {f fa fb fc:FE} {fl:FL} {pos:Pos} {F G:FS}
theorem RVs.pick {K:W.Frag} {H:Hp} {b:Bz} {l:List PV} {xs:List V} (r:RVs K H b l xs) (f:Nat->Nat):∀ js:List Nat,RVs K H b (js.filterMap fun m=>l[f m]?) (js.filterMap fun m=>xs[f m]?)
 |[]=>RVs.nil
 |j::js=>by
  have hl:=r.length
  rw [BH,BH]
  by_cases hj:f j < l.length
  ·obtain ⟨x,hx,rx⟩:=r.get (AE hj)
   rw [hx,AE hj]
   exact RVs.cons rx (RVs.pick r f js)
  ·rw [BP (by omega),BP (by omega)]
   exact RVs.pick r f js
def Jw (f:FE) (lo hi sp:FO):FE:=fun r st=>(f r st).bind fun p s1=>(lo r s1).bind fun a s2=>(hi r s2).bind fun c s3=>(sp r s3).bind fun o s4=>match p,o with
 | .tup l,some k=>if k < 0∧(HT.cutS l a c k).length≤sizeLine then .ok (.tup (HT.cutS l a c k)) s4 else .no
 |_,_ => .no
theorem qCZ {lo hi:Option Expr} {sp:Expr} {flo fhi fsp:FO} {p2:Pos} (h:VE X E e f) (hl:VO X E lo flo) (hh:VO X E hi fhi) (hs:VO X E (some sp) fsp):VE X E (.Subscript e (.Slice lo hi (some sp) p2) pos) (Jw f flo fhi fsp) :=
 PE.imp (qDi h hl hh hs) fun s H Q ⟨b,r,st,S,R,P⟩=>⟨b,r,st,S,R,PostE.bind P fun p s1 u H1 b1 e1 S1 r1 P1=>⟨b1,r,s1,S1,R.ext e1,PostO.bind P1 fun k s2 H2 b2 e2 S2 P2=>⟨b2,r,s2,S2,(R.ext e1).ext e2,PostO.bind P2 fun m s3 H3 b3 e3 S3 P3=>⟨b3,r,s3,S3,((R.ext e1).ext e2).ext e3,PostO.bind P3 fun o s4 H4 b4 e4 S4 P4=>by
  split at P4
  ·rename_i l k'
   split at P4
   ·rename_i hc
    have r3:=RV.ext e4 _ (RV.ext e3 _ (RV.ext e2 _ r1))
    unfold RV at r3
    obtain ⟨x,xs,rfl,h2,h3⟩:=r3
    have hlen:=h3.length
    have hr:RVs X.K H4 b4 (HT.cutS l k m k') (HT.cutS xs k m k'):=by
     unfold HT.cutS
     rw [← hlen]
     exact RVs.pick h3 _ _
    exact ⟨k',x,xs,rfl,hc.1,rfl,h2.sq,by rw [← hr.length];exact hc.2,fun z hz=>PostE.layT P4 S4 hr hz⟩
   ·exact P4.elim
  ·exact P4.elim⟩⟩⟩⟩
end
end EV
end
section
namespace EV
open PySem PySem.Spec PyProof.Rows L2
theorem qCY {X:Cx} {E:XK} (i:Nat) {x:Str} {p' pos2:Pos} {elt:Expr} {c:Comprehension} {cs:List Comprehension} {scope:Scope} {pos:Pos} {capN locN:List Str} {caps:List Nat} {fi:FI} {g:FG} {ts:List FT} {gs:List GenF} {f:FE} (hN:X.N.Nodup) (hi':X.N[i]? = some x) (hx:Loc X.env.scope x) (hf:X.fn x=true∨X.env.scope.names.lookup x=some .local) (hsw:swapsWith (.ListComp elt (c::cs) scope pos) (some (.Name x p')) pos2.line X.env=pure true) (hcs:CSc X scope capN locN caps)
  (hi:VI X E c.target c.iter fi) (sub:∀ s H fp pn,VE (cCx X scope (capN++locN) s H fp pn) E0 elt f∧GOk (cCx X scope (capN++locN) s H fp pn) c ⟨fi,g,ts⟩∧GsOk (cCx X scope (capN++locN) s H fp pn) cs gs)
  (hs:∀ x,foldedSetIterable c.iter X.env x=pure x):PS X (.Assign [.Name x p'] (.ListComp elt (c::cs) scope pos) pos2) (qIx (rdN X.K E (qc caps locN.length fi g ts gs f)) (qEc i)):=by
 intro pins s σ H D0 I hq
 obtain ⟨b,r,st,S,RE,P⟩:=hq
 have hfree:∀ x∈scope.names,x.2 = .free -> ∃ c,X.env.cells.lookup x.1=some c:=fun x hx hk=>I.ok.has x.1 (hcs.fr x hx hk)
 obtain ⟨c1,c2,c3,c4⟩:=c
 have hasy:c4=0:=(sub s H [] []).2.1.asy
 subst hasy
 rw [exec_Assign_Name_used x p' _ pos2 hsw]
 refine AA (CY ?_)
 refine AA (Bg (Q:=fun _ s' => ∃ v H',L2.Inv X pins (σ.set i (some v)) H' s'∧D0.nx (σ.set i (some v)) H') ?_ (fun _ s' ⟨v,H',I',q'⟩=>AB ⟨_,H',I',q'⟩) fun _ _ z=>z)
 rw [arm_evalThenUse_ListComp]
 refine AA (Bg (Q:=fun _ s' => ∃ v H',L2.Inv X pins (σ.set i (some v)) H' s'∧D0.nx (σ.set i (some v)) H') ?_ (fun _ s' q'=>AB q') fun _ _ z=>z)
 refine wpAny_comprehension_free (e := .ListComp elt (⟨c1,c2,c3,0⟩::cs) scope pos) (use:=some (assign (.Name x p') X.env)) rfl hs (YU hfree) hcs.kind (fun x hx hl=>W9 hcs.nd (by rw [← hl];exact hx)) ?_
 show wpAny _ _ (eval c2 X.env) _ _ s
 unfold qc at P
 cases ef:fi r st with
 |no=>rw [ef] at P;exact P.elim
 |ex xx s1 =>
  rw [ef] at P
  refine thn (hi pins s σ H (fun _ _=>False) I ⟨b,r,st,S,RE,by rw [ef];exact P⟩) fun v s2 h2=>thn h2 fun itv s3 h3 => ?_
  obtain ⟨_,_,_,_,_,_,_,_,_,_,z⟩:=h3
  exact z.elim
 |ok w s1 =>
  rw [ef] at P
  refine thn (hi pins s σ H (fun J H' => ∃ b',Ext H b H' b'∧SR X.K H' b' s1∧yx X.K H' b' J w) I ⟨b,r,st,S,RE,by rw [ef];exact fun J H' b' e' S' i'=>⟨b',e',S',i'⟩⟩) fun v s2 h2=>thn h2 fun itv s3 h3 => ?_
  obtain ⟨it,fp,tn,J,H2,rfl,I2,T,t2,f2,b2,e2,S2,i2⟩:=h3
  have P:PostN X.K E H b (match qx w.G (Qk ⟨fi,g,ts⟩ (Qx gs f) (zj caps locN.length r)) w.l s1 with | .ok l s'=>if l.length≤sizeLine then .ok l s' else .no |_ => .no) (fun v H'=>D0.nx (σ.set i (some v)) H'):=P
  cases ev:qx w.G (Qk ⟨fi,g,ts⟩ (Qx gs f) (zj caps locN.length r)) w.l s1 with
  |no=>rw [ev] at P;exact P.elim
  |ex xx s4=>rw [ev] at P;exact P.elim
  |ok l st' =>
   rw [ev] at P
   have P:PostN X.K E H b (if l.length≤sizeLine then .ok l st' else .no) (fun v H'=>D0.nx (σ.set i (some v)) H'):=P
   by_cases hl:l.length≤sizeLine
   ·rw [AG hl] at P
    have hfr:H2 s3.heap.objs.size=none:=I2.hok.fresh (AL _)
    refine Cn ?_
    generalize hs3:({ s3 with heap:=s3.heap.push { cls := .type "list",data := .seq ([]:List Value).toArray } }:Shared)=s3'
    have I3:L2.Inv X pins σ (upd H2 s3.heap.objs.size (.lst [])) s3':=by
     rw [← hs3]
     exact I2.laid (t':=s3.toks) (fun a u e=>AC _ e) (AL _) (show ObjOk X.prog X.w _ _ _ (.lst []) from ⟨BJ _,[],0,.nil,AV _ rfl⟩)
    have k3:∀ a o,s3.heap.get? a=some o->s3'.heap.get? a=some o:=fun a o e=>by rw [← hs3];exact AC _ e
    have hlt:∀ a∈fp,a < s3.heap.objs.size:=fun a ha=>by
     obtain ⟨o,e,_⟩:=T.obj _ _ t2 a ha
     exact AM e
    have f3:∀ a∈fp,Zg X pins (upd H2 s3.heap.objs.size (.lst [])) a:=fun a ha=>⟨by rw [qU (AZ (hlt a ha))];exact (f2 a ha).1,(f2 a ha).2⟩
    have hlt3:∀ a∈fp,a < s3'.heap.objs.size:=fun a ha=>by
     obtain ⟨o,e,_⟩:=T.obj _ _ t2 a ha
     exact AM (k3 a o e)
    generalize hD:s3.heap.objs.size=D at I3 f3 hfr
    refine qAm ?_
    have J0:=YZ hcs I3 f3 hlt3 rfl
    obtain ⟨he,hg,hgs⟩:=sub s3' (upd H2 D (.lst [])) fp (X.pn++pins)
    have k4:∀ a o,s3'.heap.get? a=some o->(pushCells (s3'.heap.push { cls := .type "dict",data := .dict #[] }) scope.names).get? a=some o:=fun a o e=>Cf _ _ _ _ (AC _ e)
    have hDz:D ∉ b2.z:=(S2.new_notin hfr).2
    have loop:=jd (X:=cCx X scope (capN++locN) s3' (upd H2 D (.lst [])) fp (X.pn++pins)) (fun _ _ z=>z) (gens:=⟨c1,c2,c3,0⟩::cs) (scope:=scope) (pos:=pos) (D:=D) he gs cs 0 ⟨c1,c2,c3,0⟩ ⟨fi,g,ts⟩ rfl hg hgs [] _ _ _ ⟨b2.b,D::b2.z⟩ (zj caps locN.length r) s1 st' it fp tn J w [] l
     (compPost (model X.prog X.w) X.A X.xe (some (assign (.Name x p') X.env)) (fun _ s' => ∃ v H',L2.Inv X pins (σ.set i (some v)) H' s'∧D0.nx (σ.set i (some v)) H') (.ref D) s3'.heap.objs.size) J0 (SR.hide S2 hfr) (qAN ((RE.ext e2).wext (WE.hide hfr))) AI Qd T (T.keep _ _ _ t2 fun a ha o e=>k4 a o (k3 a o e))
     (fun a ha=>⟨(f3 a ha).1,(J0.ok.exf a ha).1,J0.ok.exfs a ha,.inl ha,(J0.ok.exf a ha).2,fun p hp=>(f3 a ha).2.2.2.2.2 p (by simpa [cCx] using hp)⟩) (ja i2 hfr) ev (by simpa using hl)
     (fun s' σ' H' b' lV I' e' S' R' hD' r'=>by
      obtain ⟨m,hn,_⟩:=I'.loc
      have hn:s'.heap.Ns s3'.heap.objs.size m:=hn
      have fin:L2.Inv X pins σ H' s':=qAj I3 f3 I' ⟨rfl,fun _ _=>rfl⟩
      have hC:H' s3'.heap.objs.size=none:=I'.free
      have fpC:Zg X pins H' s3'.heap.objs.size:=I3.fpOk (AL _) hC
      obtain ⟨oC,esC,epC,hoC,hdC,hkC⟩:=id hn
      have finp:=fin.pinned (fp:=[s3'.heap.objs.size]) (fun b hb=>by rw [Ak.mp hb];exact fpC) (fun b hb=>by rw [Ak.mp hb];exact ⟨oC,hoC,fun v z=>by rw [hdC] at z;cases z⟩)
      have hz':b'.z=D::b2.z:=e'.same
      show wpAny (model X.prog X.w) X.A (assign (.Name x p') X.env (.ref D)) _ _ s'
      refine wpAny_assign_Name ?_
      refine zd finp hN hi' hx (v := .ref D) rfl (fun s'' I'' => ?_) hf
      have hpin:s''.heap.get? s3'.heap.objs.size=some oC:=by
       have hm:(s3'.heap.objs.size,oC)∈X.pn++(pins++Zj [s3'.heap.objs.size] s'.heap):=by
        unfold Zj
        simp [hoC]
       exact (I''.pin _ hm).1
      refine ⟨m,⟨oC,esC,epC,hpin,hdC,hkC⟩,fun h'' sb=>⟨.ref D,H',(I''.unpinned).turned (t':=s''.toks) (fun b o hb e=>sb.extBut b o hb e) fpC.1 fpC.2.1 fpC.2.2.2.1 fpC.2.2.2.2.1 (fun p hp=>fpC.2.2.2.2.2 p hp),?_⟩⟩
      have ex:Ext H2 b2 H' ⟨b'.b,b2.z⟩:=by
       refine ⟨⟨?_,⟨[],rfl,by simp⟩,fun a o ha ho => ?_,fun a o ha => ?_⟩,rfl,fun a o hz ha => ?_,fun a o u ha=>e'.fz a o u (qQ ha hfr) (by rw [qU (qQ ha hfr)];exact ha)⟩
       ·obtain ⟨n,hb,hh⟩:=e'.more
        exact ⟨n,hb,fun a ha=>by
         have:=hh a ha
         by_cases q:a=D
         ·rw [q];exact hfr
         ·rwa [qU q] at this⟩
       ·have hne:a≠D:=qQ ha hfr
        exact e'.keep a o (by rw [qU hne];exact ha) ⟨ho.1,fun z=>(AJ.mp z).elim hne ho.2⟩
       ·have hne:a≠D:=qQ ha hfr
        exact e'.dom a o (by rw [qU hne];exact ha)
       ·have hne:a≠D:=qQ ha hfr
        exact e'.hid a o (AD _ hz) hne (by rw [qU hne];exact ha)
      have hb':(⟨b'.b,D::b2.z⟩:Bz)=b':=by rw [← hz']
      refine P D lV H' ⟨b'.b,b2.z⟩ (e2.trans ex) (e2.none_of hfr) (by simpa using hD') hDz ?_ ?_
      ·show SR X.K H' ⟨b'.b,D::b2.z⟩ st'
       rw [hb'];exact S'
      ·show RVs X.K H' ⟨b'.b,D::b2.z⟩ l lV
       rw [hb'];exact r')
    exact zp rfl rfl loop (T.self X.A 0 _ _ _ (T.keep _ _ _ t2 fun a ha o e=>k4 a o (k3 a o e)) loop)
   ·rw [AN hl] at P;exact P.elim
end EV
namespace EV
open PySem PySem.Spec PyProof.Rows L2
section
variable {X:Cx} {E:XK} {x:Str} {p' pos2:Pos} {elt:Expr} {c:Comprehension} {cs:List Comprehension} {scope:Scope} {pos:Pos} {capN locN:List Str} {caps:List Nat} {fi:FI} {g:FG} {ts:List FT} {gs:List GenF} {f:FE}
theorem qCO (i:Nat) (hN:X.N.Nodup) (hcs:CSc X scope capN locN caps)
  (hi:VI X E c.target c.iter fi) (sub:∀ s H fp pn,VE (cCx X scope (capN++locN) s H fp pn) E0 elt f∧GOk (cCx X scope (capN++locN) s H fp pn) c ⟨fi,g,ts⟩∧GsOk (cCx X scope (capN++locN) s H fp pn) cs gs)
  (hi':X.N[i]? = some x:=by rfl) (hx:Loc X.env.scope x:=by first |exact Or.inl rfl |exact Or.inr rfl) (hf:X.fn x=true∨X.env.scope.names.lookup x=some .local:=by first |exact .inl rfl |exact .inr rfl |assumption)
  (hsw:swapsWith (.ListComp elt (c::cs) scope pos) (some (.Name x p')) pos2.line X.env=pure true:=by rfl) (hs:∀ x,foldedSetIterable c.iter X.env x=pure x:=by intro _;rfl) :
  VS X E (.Assign [.Name x p'] (.ListComp elt (c::cs) scope pos) pos2) (qv i (vFz (qc caps locN.length fi g ts gs f))) :=
 PS.imp (qCY i hN hi' hx hf hsw hcs hi sub hs) fun D s H ⟨b,r,st,S,R,P⟩=>⟨b,r,st,S,R,PostN.of (PostE.bindS P fun p s1 u H1 b1 e1 S1 r1 P1=>P1 _ H1 b1 (Ext.refl _ _) S1 ((R.ext e1).set r1 i))⟩
theorem qAL (i:Nat) (hN:X.N.Nodup) (hcs:CSc X scope capN locN caps)
  (hi:VI X E c.target c.iter fi) (sub:∀ s H fp pn,VE (cCx X scope (capN++locN) s H fp pn) E0 elt f∧GOk (cCx X scope (capN++locN) s H fp pn) c ⟨fi,g,ts⟩∧GsOk (cCx X scope (capN++locN) s H fp pn) cs gs)
  (hi':X.N[i]? = some x:=by rfl) (hx:Loc X.env.scope x:=by first |exact Or.inl rfl |exact Or.inr rfl) (hf:X.fn x=true∨X.env.scope.names.lookup x=some .local:=by first |exact .inl rfl |exact .inr rfl |assumption)
  (hsw:swapsWith (.ListComp elt (c::cs) scope pos) (some (.Name x p')) pos2.line X.env=pure true:=by rfl) (hs:∀ x,foldedSetIterable c.iter X.env x=pure x:=by intro _;rfl) :
  VS X E (.Assign [.Name x p'] (.ListComp elt (c::cs) scope pos) pos2) (WQ i (qc caps locN.length fi g ts gs f)) :=
 PS.imp (qCY i hN hi' hx hf hsw hcs hi sub hs) fun D s H ⟨b,r,st,S,R,P⟩ =>
  ⟨b,r,st,S,R,PostN.bindS (k:=fun q s => .nx (r.set i (some q)) s) P fun p s1 u H1 b1 e1 S1 r1 P1=>P1 _ H1 b1 (Ext.refl _ _) S1 ((R.ext e1).set r1 i)⟩
end
end EV
end
section
namespace EX
open PySem PySem.Spec PyProof.Rows L2
def Src (b:Bool) (i l:Addr) (xs:Array Value) (k:Nat) (h:Heap):Prop:=match b with
 |true=>h.IsTupleIter i l k∧h.IsTuple l xs
 |false=>h.IsListIter i l k∧h.IsList l xs
theorem Src.keep {b:Bool} {i l:Addr} {xs:Array Value} {k:Nat} {h h':Heap} (S:Src b i l xs k h) (e1:∀ o,h.get? i=some o->h'.get? i=some o) (e2:∀ o,h.get? l=some o->h'.get? l=some o):Src b i l xs k h':=by
 cases b
 ·exact ⟨S.1.at e1,S.2.at e2⟩
 ·exact ⟨S.1.at e1,S.2.at e2⟩
theorem Src.but {b:Bool} {i l c:Addr} {xs:Array Value} {k:Nat} {h h':Heap} (S:Src b i l xs k h) (e:Heap.ExtBut c h h') (n1:i≠c) (n2:l≠c):Src b i l xs k h':=S.keep (fun o q=>e _ o n1 q) fun o q=>e _ o n2 q
section
variable {prog:Program} {w:World} {A:Around} {E:Value->Shared->Prop} {s:Shared}
theorem Src.item {b:Bool} {i l:Addr} {xs:Array Value} {k:Nat} {x:Value} {Q:Value->Shared->Prop} (S:Src b i l xs k s.heap) (hne:l≠i) (hx:xs[k]? = some x)
  (hQ:∀ h',Src b i l xs (k + 1) h'->Heap.SameBut i s.heap h'->Q x { s with heap:=h' }):wpAny (model prog w) A (Builtin.SmallTypes.nextOf (.ref i)) Q E s:=by
 cases b
 ·exact wpAny_nextOf_list_item S.1 S.2 hx fun h' a1 a2=>hQ h' ⟨a1,S.2.extBut a2.extBut hne⟩ a2
 ·obtain ⟨hit,ht⟩:=S
  obtain ⟨o,ho,hc,hd⟩:=id hit
  obtain ⟨ol,hol,_,nl,hdl⟩:=id ht
  unfold Builtin.SmallTypes.nextOf
  refine AA (Ay (name:=Str.ofString "__next__") hit.typeIs BT
   (A7 BT hit.typeIs F.entry_tuple_iterator_next ?_ (F.args_tuple_iterator_next_1 _)))
  show wpAny _ _ (field (.ref i) 0 >>= _) _ _ s
  refine AA (Aq ho hd (x := .ref l) rfl ?_)
  show wpAny _ _ (if (Value.ref l==Value.none)=true then _ else _) _ _ s
  rw [AN (show ¬ ((Value.ref l==Value.none)=true) from BL)]
  show wpAny _ _ (field (.ref i) 1 >>= _) _ _ s
  refine AA (Aq ho hd (x := .int k 0) rfl ?_)
  show wpAny _ _ (seqItems? (.ref l) >>= _) _ _ s
  refine AA (BO hol hdl ?_)
  simp only [BD,hx]
  refine AA (BV ho hd (by simp) (AB ⟨x,rfl,AB (hQ _ ⟨?_,ht.extBut (Cc ..).extBut hne⟩ (Cc ..))⟩))
  exact ⟨_,A2 _ ho (Bj (BA hd _)),(CJ ..).trans hc,by
   rw [BA hd];simp [rawInt]⟩
theorem Src.over {b:Bool} {i l:Addr} {xs:Array Value} {k:Nat} {Q:Value->Shared->Prop} (hh:A.handled=none) (S:Src b i l xs k s.heap) (hx:xs[k]? = none)
  (hE:∀ h' e,Heap.ExtBut i s.heap h'->(∃ o,h'.get? e=some o∧o.cls = .type "StopIteration")->E (.ref e) { s with heap:=h' }):wpAny (model prog w) A (Builtin.SmallTypes.nextOf (.ref i)) Q E s:=by
 cases b
 ·exact wpAny_nextOf_list_end hh S.1 S.2 hx hE
 ·obtain ⟨hit,ht⟩:=S
  obtain ⟨o,ho,hc,hd⟩:=id hit
  obtain ⟨ol,hol,_,nl,hdl⟩:=ht
  unfold Builtin.SmallTypes.nextOf
  refine AA (Ay (name:=Str.ofString "__next__") hit.typeIs BT
   (A7 BT hit.typeIs F.entry_tuple_iterator_next ?_ (F.args_tuple_iterator_next_1 _)))
  show wpAny _ _ (field (.ref i) 0 >>= _) _ _ s
  refine AA (Aq ho hd (x := .ref l) rfl ?_)
  show wpAny _ _ (if (Value.ref l==Value.none)=true then _ else _) _ _ s
  rw [AN (show ¬ ((Value.ref l==Value.none)=true) from BL)]
  show wpAny _ _ (field (.ref i) 1 >>= _) _ _ s
  refine AA (Aq ho hd (x := .int k 0) rfl ?_)
  show wpAny _ _ (seqItems? (.ref l) >>= _) _ _ s
  refine AA (BO hol hdl ?_)
  simp only [BD,hx]
  refine AA (B3 (AA (BV ho hd (by simp) ?_)))
  show wpAny _ _ (newExc (.type "StopIteration") [] >>= _) _ _ _
  refine AA ?_
  simp only [newExc,newTuple]
  refine AA (A1 ?_ (by size_fits))
  refine AA (m:=firstArgMember _ _) (An (a:=Value.none) (by first |rfl |(simp only [firstArgMember];rfl)) ?_)
  refine A1 ?_ (by size_fits)
  simp only [raiseNew]
  refine AA (wpAny_handled ?_)
  first |rw [show A.in1.handled=none from hh] |rw [hh]
  refine AA (AB (wpAny_throw ?_))
  exact hE _ _ (((Cc ..).extBut.push _).push _) ⟨_,AV _ rfl,rfl⟩
theorem qDa {b1 b2:Bool} {z TI TO i1 i2 l1 l2:Addr} {k:Nat} {xs ys:Array Value} {x y a b:Value} {Q:Option Value->Shared->Prop} (D:ZipApart z TI TO i1 i2 l1 l2)
  (hz:IsZip s.heap z TI TO .none) (hTI:IsPair s.heap TI (.ref i1) (.ref i2)) (hTO:IsPair s.heap TO a b) (h1:Src b1 i1 l1 xs k s.heap) (h2:Src b2 i2 l2 ys k s.heap) (hx:xs[k]? = some x) (hy:ys[k]? = some y)
  (hQ:∀ h',IsZip h' z TI TO (rawInt s.heap.objs.size)->IsPair h' TO x y->Src b1 i1 l1 xs (k + 1) h'->Src b2 i2 l2 ys (k + 1) h'->IsPair h' s.heap.objs.size x y ->
   (∀ c o,c≠z->c≠TO->c≠i1->c≠i2->s.heap.get? c=some o->h'.get? c=some o)->Q (some (.ref s.heap.objs.size)) { s with heap:=h' }) :
  wpAny (model prog w) A (pyNext (.ref z)) Q E s:=by
 have hT:s.TypeIs (.ref z) "zip" := ⟨_,hz,rfl⟩
 unfold pyNext
 refine AA (Bs (Ay (name:=Str.ofString "__next__") hT F.slot_zip_next (A7 F.slot_zip_next hT F.entry_zip_next ?_ (F.args_zip_next_1 _))))
 show wpAny _ _ (field (.ref z) 2 >>= _) _ _ _
 refine AA (Aq hz rfl (x := .bool false) rfl ?_)
 show wpAny _ _ (field (.ref z) 3 >>= _) _ _ _
 refine AA (Aq hz rfl (x := .ref TI) rfl ?_)
 refine AA (BO hTI rfl ?_)
 show wpAny _ _ (Builtin.SmallTypes.ownedTupleIsFree (.ref z) >>= _) _ _ _
 refine AA ?_
 unfold Builtin.SmallTypes.ownedTupleIsFree
 refine AA (Aq hz rfl (x := .none) rfl (AB ?_))
 simp only [Ca]
 refine AA (B3 ?_)
 refine AA (Aq hz rfl (x := .ref TO) rfl ?_)
 refine AA (B1 hz (by simp) fun g1 hz1 s1 => ?_)
 replace hz1:IsZip g1 z TI TO .ellipsis:=hz1
 refine AA ?_
 simp only [List.zipIdx_cons,List.zipIdx_nil,Cg,List.forIn_nil]
 refine AA (AA (wpAny_onRaise ?_))
 show wpAny _ _ (Builtin.SmallTypes.nextOf (.ref i1) >>= _) _ _ _
 refine AA ((h1.but s1.extBut D.i1z D.l1z).item D.l1i1 hx fun g2 q1 s2=>AB ?_)
 have t2:IsPair g2 TO a b:=s2.extBut _ _ D.TOi1 (s1.extBut _ _ D.TOz hTO)
 refine AA (BO t2 rfl ?_)
 refine AA (wpAny_updateSeq_pair t2 fun g3 t3 s3 => ?_)
 replace t3:IsPair g3 TO x b:=t3
 refine AA (wpAny_letGo (AB ?_))
 refine AA (AA (wpAny_onRaise ?_))
 show wpAny _ _ (Builtin.SmallTypes.nextOf (.ref i2) >>= _) _ _ _
 refine AA ((((h2.but s1.extBut D.i2z D.l2z).but s2.extBut D.i12.symm D.l2i1).but s3.extBut D.TOi2.symm D.l2TO).item D.l2i2 hy fun g4 q2 s4=>AB ?_)
 have t4:IsPair g4 TO x b:=s4.extBut _ _ D.TOi2 t3
 refine AA (BO t4 rfl ?_)
 refine AA (wpAny_updateSeq_pair t4 fun g5 t5 s5 => ?_)
 replace t5:IsPair g5 TO x y:=t5
 refine AA (wpAny_letGo (AB (AB ?_)))
 refine AA (BO t5 rfl ?_)
 refine AA (wpAny_newTuple ?_)
 have hsz:g5.objs.size=s.heap.objs.size:=by rw [s5.1,s4.1,s3.1,s2.1,s1.1]
 have hz5:IsZip g5 z TI TO .ellipsis:=s5.extBut _ _ D.TOz.symm (s4.extBut _ _ D.i2z.symm (s3.extBut _ _ D.TOz.symm (s2.extBut _ _ D.i1z.symm hz1)))
 have k5:∀ c o,c≠z->c≠TO->c≠i1->c≠i2->s.heap.get? c=some o->g5.get? c=some o:=fun c o c1 c2 c3 c4 e =>
  s5.extBut _ _ c2 (s4.extBut _ _ c4 (s3.extBut _ _ c2 (s2.extBut _ _ c3 (s1.extBut _ _ c1 e))))
 have p1:Src b1 i1 l1 xs (k + 1) g5:=((q1.but s3.extBut D.TOi1.symm D.l1TO).but s4.extBut D.i12 D.l1i2).but s5.extBut D.TOi1.symm D.l1TO
 have p2:Src b2 i2 l2 ys (k + 1) g5:=q2.but s5.extBut D.TOi2.symm D.l2TO
 have hzlt:z < g5.objs.size:=AM hz5
 show wpAny _ _ (Builtin.SmallTypes.ownedTupleHandOut (.ref z) (.ref g5.objs.size) >>= _) _ _ _
 refine AA ?_
 unfold Builtin.SmallTypes.ownedTupleHandOut
 have hz6:IsZip (g5.push { cls := .type "tuple",data := .seq #[x,y] }) z TI TO .ellipsis:=AC _ hz5
 refine AA (B1 hz6 (by simp) fun g7 hz7 s7 => ?_)
 replace hz7:IsZip g7 z TI TO (rawInt g5.objs.size):=hz7
 refine B1 hz7 (by simp) fun g8 hz8 s8 => ?_
 replace hz8:IsZip g8 z TI TO (rawInt g5.objs.size):=hz8
 have up:∀ c o,c≠z->g5.get? c=some o->g8.get? c=some o:=fun c o c1 e=>s8.extBut _ _ c1 (s7.extBut _ _ c1 (AC _ e))
 have t8:IsPair g8 g5.objs.size x y:=s8.extBut _ _ (CN hzlt) (s7.extBut _ _ (CN hzlt) (AV _ rfl))
 rw [hsz] at hz8 t8
 refine AB ⟨_,rfl,AB ?_⟩
 show Q (some (.ref g5.objs.size)) _
 rw [hsz]
 exact hQ g8 hz8 (up _ _ D.TOz t5) (p1.keep (fun o e=>up _ o D.i1z e) fun o e=>up _ o D.l1z e) (p2.keep (fun o e=>up _ o D.i2z e) fun o e=>up _ o D.l2z e) t8 fun c o c1 c2 c3 c4 e=>up c o c1 (k5 c o c1 c2 c3 c4 e)
theorem qDO {b1 b2:Bool} {z TI TO i1 i2 l1 l2:Addr} {k:Nat} {xs ys:Array Value} {a b:Value} {Q:Fin->Shared->Prop} (hh:A.handled=none) (D:ZipApart z TI TO i1 i2 l1 l2)
  (hz:IsZip s.heap z TI TO .none) (hTI:IsPair s.heap TI (.ref i1) (.ref i2)) (hTO:IsPair s.heap TO a b) (h1:Src b1 i1 l1 xs k s.heap) (h2:Src b2 i2 l2 ys k s.heap) (hend:xs[k]? = none∨ys[k]? = none)
  (stop:∀ h' e,(∀ c o,c≠z->c≠TO->c≠i1->c≠i2->s.heap.get? c=some o->h'.get? c=some o)->(∃ o,h'.get? e=some o∧o.cls = .type "StopIteration")->E (.ref e) { s with heap:=h' }) :
  wpAny (model prog w) A (Builtin.«zip.__next__» ⟨[.ref z],[]⟩) Q E s:=by
 show wpAny _ _ (field (.ref z) 2 >>= _) _ _ _
 refine AA (Aq hz rfl (x := .bool false) rfl ?_)
 show wpAny _ _ (field (.ref z) 3 >>= _) _ _ _
 refine AA (Aq hz rfl (x := .ref TI) rfl ?_)
 refine AA (BO hTI rfl ?_)
 show wpAny _ _ (Builtin.SmallTypes.ownedTupleIsFree (.ref z) >>= _) _ _ _
 refine AA ?_
 unfold Builtin.SmallTypes.ownedTupleIsFree
 refine AA (Aq hz rfl (x := .none) rfl (AB ?_))
 simp only [Ca]
 refine AA (B3 ?_)
 refine AA (Aq hz rfl (x := .ref TO) rfl ?_)
 refine AA (B1 hz (by simp) fun g1 hz1 s1 => ?_)
 replace hz1:IsZip g1 z TI TO .ellipsis:=hz1
 refine AA ?_
 simp only [List.zipIdx_cons,List.zipIdx_nil,Cg,List.forIn_nil]
 refine AA (AA (wpAny_onRaise ?_))
 show wpAny _ _ (Builtin.SmallTypes.nextOf (.ref i1) >>= _) _ _ _
 cases hx:xs[k]? with
 |none =>
  refine AA ((h1.but s1.extBut D.i1z D.l1z).over hh hx fun g2 e s2 he => ?_)
  obtain ⟨oe,hoe,hce⟩:=he
  have hz2:IsZip g2 z TI TO .ellipsis:=s2 _ _ D.i1z.symm hz1
  have hez:e≠z:=fun x=>by subst x;rw [hz2] at hoe;cases hoe;simp at hce
  exact B1 hz2 (by simp) fun g3 _ s3=>stop g3 e (fun c o c1 _ c3 _ x=>s3.extBut _ _ c1 (s2 _ _ c3 (s1.extBut _ _ c1 x))) ⟨oe,s3.extBut _ _ hez hoe,hce⟩
 |some x =>
  have hy:ys[k]? = none:=by rcases hend with h |h;rw [hx] at h;cases h;exact h
  refine AA ((h1.but s1.extBut D.i1z D.l1z).item D.l1i1 hx fun g2 q1 s2=>AB ?_)
  have t2:IsPair g2 TO a b:=s2.extBut _ _ D.TOi1 (s1.extBut _ _ D.TOz hTO)
  refine AA (BO t2 rfl ?_)
  refine AA (wpAny_updateSeq_pair t2 fun g3 t3 s3 => ?_)
  refine AA (wpAny_letGo (AB ?_))
  refine AA (AA (wpAny_onRaise ?_))
  show wpAny _ _ (Builtin.SmallTypes.nextOf (.ref i2) >>= _) _ _ _
  refine AA ((((h2.but s1.extBut D.i2z D.l2z).but s2.extBut D.i12.symm D.l2i1).but s3.extBut D.TOi2.symm D.l2TO).over hh hy fun g4 e s4 he => ?_)
  obtain ⟨oe,hoe,hce⟩:=he
  have hz4:IsZip g4 z TI TO .ellipsis:=s4 _ _ D.i2z.symm (s3.extBut _ _ D.TOz.symm (s2.extBut _ _ D.i1z.symm hz1))
  have hez:e≠z:=fun x=>by subst x;rw [hz4] at hoe;cases hoe;simp at hce
  exact B1 hz4 (by simp) fun g5 _ s5=>stop g5 e (fun c o c1 c2 c3 c4 x=>s5.extBut _ _ c1 (s4 _ _ c4 (s3.extBut _ _ c2 (s2.extBut _ _ c3 (s1.extBut _ _ c1 x))))) ⟨oe,s5.extBut _ _ hez hoe,hce⟩
theorem qFz {b1 b2:Bool} {z TI TO i1 i2 l1 l2:Addr} {k:Nat} {xs ys:Array Value} {a b:Value} {Q:Option Value->Shared->Prop} (hh:A.handled=none) (D:ZipApart z TI TO i1 i2 l1 l2)
  (hz:IsZip s.heap z TI TO .none) (hTI:IsPair s.heap TI (.ref i1) (.ref i2)) (hTO:IsPair s.heap TO a b) (h1:Src b1 i1 l1 xs k s.heap) (h2:Src b2 i2 l2 ys k s.heap) (hend:xs[k]? = none∨ys[k]? = none)
  (hQ:∀ h',(∀ c o,c≠z->c≠TO->c≠i1->c≠i2->s.heap.get? c=some o->h'.get? c=some o)->Q none { s with heap:=h' }):wpAny (model prog w) A (pyNext (.ref z)) Q E s:=by
 have hT:s.TypeIs (.ref z) "zip" := ⟨_,hz,rfl⟩
 unfold pyNext
 refine AA (Bs (Ay (name:=Str.ofString "__next__") hT F.slot_zip_next (A7 F.slot_zip_next hT F.entry_zip_next (qDO hh D hz hTI hTO h1 h2 hend fun h' e hk he => ?_) (F.args_zip_next_1 _))))
 obtain ⟨o,ho,hc⟩:=he
 refine AA (BG (T := "StopIteration") (b:=true) ⟨o,ho,hc⟩ Ck ?_)
 exact AB (hQ _ hk)
def W8 (b:Bool) (l:Addr):Obj:={ cls := .type (cond b "tuple_iterator" "list_iterator"),data := .fields #[.ref l,.int 0 0] }
def SqAt (b:Bool) (l:Addr) (xs:Array Value) (h:Heap):Prop:=match b with
 |true=>h.IsTuple l xs
 |false=>h.IsList l xs
theorem SqAt.push {b:Bool} {l:Addr} {xs:Array Value} {h:Heap} (S:SqAt b l xs h) (o:Obj):SqAt b l xs (h.push o):=by
 cases b
 ·exact Heap.IsList.push S o
 ·exact Heap.IsTuple.push S o
theorem SqAt.here {b:Bool} {l:Addr} {xs:Array Value} {h:Heap} (S:SqAt b l xs h):∃ o,h.get? l=some o:=by
 cases b
 ·obtain ⟨o,e,_⟩:=S;exact ⟨o,e⟩
 ·obtain ⟨o,e,_⟩:=S;exact ⟨o,e⟩
theorem SqAt.at {b:Bool} {l:Addr} {xs:Array Value} {h h':Heap} (S:SqAt b l xs h) (e:∀ o,h.get? l=some o->h'.get? l=some o):SqAt b l xs h':=by
 cases b
 ·exact Heap.IsList.at S e
 ·obtain ⟨o,q,r⟩:=S;exact ⟨o,e o q,r⟩
theorem SqAt.iter {b:Bool} {l:Addr} {xs:Array Value} {Q:Value->Shared->Prop} (S:SqAt b l xs s.heap) (hQ:Q (.ref s.heap.objs.size) { s with heap:=s.heap.push (W8 b l) }):wpAny (model prog w) A (pyIter (.ref l)) Q E s:=by
 cases b
 ·exact wpAny_pyIter_list S hQ
 ·exact Cj S hQ
theorem SqAt.src {b:Bool} {i l:Addr} {xs:Array Value} {h:Heap} (S:SqAt b l xs h) (e:h.get? i=some (W8 b l)):Src b i l xs 0 h:=by
 cases b
 ·exact ⟨⟨_,e,rfl,rfl⟩,S⟩
 ·exact ⟨⟨_,e,rfl,rfl⟩,S⟩
def zH2 (b1 b2:Bool) (h:Heap) (l1 l2:Addr):Heap:=(h.push (W8 b1 l1)).push (W8 b2 l2)
def zH5 (b1 b2:Bool) (h:Heap) (l1 l2:Addr):Heap:=(((zH2 b1 b2 h l1 l2).push { cls := .type "tuple",data := .seq #[.ref h.objs.size,.ref (h.objs.size + 1)] }).push { cls := .type "tuple",data := .seq #[.none,.none] }).push { cls := .type "zip",data := .fields #[.none,.bool false,.bool false,.ref (h.objs.size + 2),.ref (h.objs.size + 3)] }
theorem qBk (b1 b2:Bool) (l1 l2:Addr) (xs ys:Array Value) :
  Meets (Builtin.«zip.__new__» ⟨[.type "zip",.ref l1,.ref l2],[]⟩) (fun _ R s=>SqAt b1 l1 xs s.heap∧SqAt b2 l2 ys s.heap ∧
   R (.ok (.ret (.ref (s.heap.objs.size + 4)))) { s with heap:=zH5 b1 b2 s.heap l1 l2 }) :=
 .of_wp fun prog w A R s h=>by
  obtain ⟨hp,g,d,tk,os⟩:=s;obtain ⟨hl1,hl2,h⟩:=h
  have hsub:=sub_zip
  have hL1:SqAt b1 l1 xs (Shared.heap ⟨hp,g,d,tk,os⟩):=hl1
  have hL2:SqAt b2 l2 ys (Shared.heap ⟨hp.push (W8 b1 l1),g,d,tk,os⟩):=hl2.push _
  wp_walk using SqAt.iter hL1,SqAt.iter hL2
  refine ⟨_,rfl,?_⟩
  have z1:(hp.push (W8 b1 l1)).objs.size=hp.objs.size + 1:=A8 ..
  unfold zH5 zH2 at h
  simp only [A8]
  exact h
theorem qDg {b1 b2:Bool} {l1 l2:Addr} {xs ys:Array Value} {Q:Value->Shared->Prop} (hl1:SqAt b1 l1 xs s.heap) (hl2:SqAt b2 l2 ys s.heap)
  (h:∀ h',IsZip h' (s.heap.objs.size + 4) (s.heap.objs.size + 2) (s.heap.objs.size + 3) .none->IsPair h' (s.heap.objs.size + 2) (.ref s.heap.objs.size) (.ref (s.heap.objs.size + 1)) ->
   IsPair h' (s.heap.objs.size + 3) .none .none->Src b1 s.heap.objs.size l1 xs 0 h'->Src b2 (s.heap.objs.size + 1) l2 ys 0 h' ->
   (∀ c o,s.heap.get? c=some o->h'.get? c=some o)->Q (.ref (s.heap.objs.size + 4)) { s with heap:=h' }) :
  wpAny (model prog w) A (call (.type "zip") [.ref l1,.ref l2]) Q E s:=by
 refine callType_new F.called_zip (by decide) (F.typeCall_zip_2 _ _) (F.newCall_zip_2 _ _) (fun obj=>F.args_object_init_3 obj _ _) F.entry_zip_new
  (qBk b1 b2 l1 l2 xs ys) ⟨hl1,hl2,?_⟩
 have z1:(s.heap.push (W8 b1 l1)).objs.size=s.heap.objs.size + 1:=A8 ..
 have z2:(zH2 b1 b2 s.heap l1 l2).objs.size=s.heap.objs.size + 2:=by unfold zH2;rw [A8,z1]
 have g5:(zH5 b1 b2 s.heap l1 l2).get? (s.heap.objs.size + 4)=some { cls := .type "zip",data := .fields #[.none,.bool false,.bool false,.ref (s.heap.objs.size + 2),.ref (s.heap.objs.size + 3)] }:=by
  have:=AV (((zH2 b1 b2 s.heap l1 l2).push { cls := .type "tuple",data := .seq #[.ref s.heap.objs.size,.ref (s.heap.objs.size + 1)] }).push { cls := .type "tuple",data := .seq #[.none,.none] }) (o:={ cls := .type "zip",data := .fields #[.none,.bool false,.bool false,.ref (s.heap.objs.size + 2),.ref (s.heap.objs.size + 3)] }) rfl
  simp only [A8,z2] at this
  exact this
 have g4:(zH5 b1 b2 s.heap l1 l2).get? (s.heap.objs.size + 3)=some { cls := .type "tuple",data := .seq #[.none,.none] }:=by
  have:=AV ((zH2 b1 b2 s.heap l1 l2).push { cls := .type "tuple",data := .seq #[.ref s.heap.objs.size,.ref (s.heap.objs.size + 1)] }) (o:={ cls := .type "tuple",data := .seq #[.none,.none] }) rfl
  simp only [A8,z2] at this
  exact AC _ this
 have g3:(zH5 b1 b2 s.heap l1 l2).get? (s.heap.objs.size + 2)=some { cls := .type "tuple",data := .seq #[.ref s.heap.objs.size,.ref (s.heap.objs.size + 1)] }:=by
  have:=AV (zH2 b1 b2 s.heap l1 l2) (o:={ cls := .type "tuple",data := .seq #[.ref s.heap.objs.size,.ref (s.heap.objs.size + 1)] }) rfl
  rw [z2] at this
  exact AC _ (AC _ this)
 have up:∀ c o,(zH2 b1 b2 s.heap l1 l2).get? c=some o->(zH5 b1 b2 s.heap l1 l2).get? c=some o:=fun c o e=>AC _ (AC _ (AC _ e))
 have g2:(zH5 b1 b2 s.heap l1 l2).get? (s.heap.objs.size + 1)=some (W8 b2 l2):=by
  have:=AV (s.heap.push (W8 b1 l1)) (o:=W8 b2 l2) rfl
  rw [z1] at this
  exact up _ _ this
 have g1:(zH5 b1 b2 s.heap l1 l2).get? s.heap.objs.size=some (W8 b1 l1):=up _ _ (AC _ (AV _ rfl))
 have old:∀ c o,s.heap.get? c=some o->(zH5 b1 b2 s.heap l1 l2).get? c=some o:=fun c o e=>up _ _ (AC _ (AC _ e))
 show _∧_
 exact ⟨⟨_,g5,rfl⟩,h _ g5 g3 g4 ((hl1.at fun o e=>old _ o e).src g1) ((hl2.at fun o e=>old _ o e).src g2) old⟩
end
def SqG (b:Bool) (K:W.Frag) (H:Hp) (l:Addr) (xs:List V):Prop:=match b with
 |true=>SqT K H l xs
 |false=>SqL K H l xs
theorem ye {X:Cx} {pins:List (Addr×Obj)} {σ:L2.St} {H:Hp} {s:Shared} (I:L2.Inv X pins σ H s) {b:Bool} {l:Addr} {xs:List V} (h:SqG b X.K H l xs):∃ us:List Value,Vals xs us∧SqAt b l us.toArray s.heap:=by
 cases b
 ·obtain ⟨us,r,p,_⟩:=I.list h;exact ⟨us,r,p.isList⟩
 ·obtain ⟨us,r,p,_⟩:=I.tuple h;exact ⟨us,r,p⟩
theorem qC7 {X:Cx} {pins:List (Addr×Obj)} {σ:L2.St} {H:Hp} {s:Shared} (I:L2.Inv X pins σ H s) {b:Bool} {l:Addr} {xs ys:List V} (h:SqG b X.K H l xs) (h':SqG b X.K H l ys):xs=ys:=by
 cases b
 ·exact I.list_inj h h'
 ·exact I.tuple_inj h h'
def qKh (b1 b2:Bool) (K:W.Frag) (l1 l2:Addr):It :=
 ⟨fun i H => ∃ xs ys x y,SqG b1 K H l1 xs∧SqG b2 K H l2 ys∧xs[i]? = some x∧ys[i]? = some y,
  fun i H v H' => ∃ T x y,H T=none∧v = .ref T∧H'=upd H T (.tup [x,y]) ∧ ∀ xs ys,SqG b1 K H l1 xs->SqG b2 K H l2 ys->xs[i]? = some x∧ys[i]? = some y,
  fun i H => ∃ xs ys,SqG b1 K H l1 xs∧SqG b2 K H l2 ys∧(xs.length≤i∨ys.length≤i)⟩
def IterAt (b:Bool) (i l:Addr) (k:Nat) (h:Heap):Prop:=match b with
 |true=>h.IsTupleIter i l k
 |false=>h.IsListIter i l k
theorem IterAt.at {b:Bool} {i l:Addr} {k:Nat} {h h':Heap} (S:IterAt b i l k h) (e:∀ o,h.get? i=some o->h'.get? i=some o):IterAt b i l k h':=by
 cases b
 ·exact Heap.IsListIter.at S e
 ·exact Heap.IsTupleIter.at S e
theorem IterAt.here {b:Bool} {i l:Addr} {k:Nat} {h:Heap} (S:IterAt b i l k h):∃ o,h.get? i=some o ∧ ∃ vs,o.data = .fields vs:=by
 cases b
 ·obtain ⟨o,e,_,d⟩:=S;exact ⟨o,e,_,d⟩
 ·obtain ⟨o,e,_,d⟩:=S;exact ⟨o,e,_,d⟩
theorem IterAt.src {b:Bool} {i l:Addr} {k:Nat} {xs:Array Value} {h:Heap} (S:IterAt b i l k h) (S2:SqAt b l xs h):Src b i l xs k h:=by
 cases b
 ·exact ⟨S,S2⟩
 ·exact ⟨S,S2⟩
theorem Src.iter {b:Bool} {i l:Addr} {k:Nat} {xs:Array Value} {h:Heap} (S:Src b i l xs k h):IterAt b i l k h:=by
 cases b
 ·exact S.1
 ·exact S.1
def qFB (b1 b2:Bool) (z TI TO i1 i2 l1 l2:Addr) (i:Nat) (h:Heap):Prop:=IsZip h z TI TO .none∧IsPair h TI (.ref i1) (.ref i2)∧(∃ a b,IsPair h TO a b)∧IterAt b1 i1 l1 i h∧IterAt b2 i2 l2 i h
theorem qDQ {P:Program} {w:World} {K:W.Frag} {A:Around} {elts:List Expr} {n:Nat} {pos:Pos} (hA:A.handled=none) (b1 b2:Bool) (z TI TO i1 i2 l1 l2:Addr) (D:ZipApart z TI TO i1 i2 l1 l2) :
  Turn P w K A (.Tuple elts n pos) (qKh b1 b2 K l1 l2) [z,TI,TO,i1,i2] z (qFB b1 b2 z TI TO i1 i2 l1 l2) where
 mem:=by simp
 obj:=fun i h st b hb=>by
  obtain ⟨a1,a2,⟨a,c,a3⟩,s4,s5⟩:=st
  obtain ⟨o4,a4,_,d4⟩:=s4.here
  obtain ⟨o5,a5,_,d5⟩:=s5.here
  simp only [AJ,AY,Bi] at hb
  rcases hb with rfl |rfl |rfl |rfl |rfl
  ·exact ⟨_,a1,fun v q=>by cases (show Data.fields _=Data.cell v from q)⟩
  ·exact ⟨_,a2,fun v q=>by cases (show Data.seq _ _=Data.cell v from q)⟩
  ·exact ⟨_,a3,fun v q=>by cases (show Data.seq _ _=Data.cell v from q)⟩
  ·exact ⟨_,a4,fun v q=>by rw [d4] at q;cases q⟩
  ·exact ⟨_,a5,fun v q=>by rw [d5] at q;cases q⟩
 keep:=fun i h h' st k=>by
  obtain ⟨a1,a2,⟨a,c,a3⟩,a4,a5⟩:=st
  exact ⟨k z (by simp) _ a1,k TI (by simp) _ a2,⟨a,c,k TO (by simp) _ a3⟩,a4.at fun o e=>k i1 (by simp) o e,a5.at fun o e=>k i2 (by simp) o e⟩
 item:=by
  intro X hP hw hK hA' i pins s σ H E I hf st hg
  subst hP hw hK
  obtain ⟨xs,ys,x,y,q1,q2,e1,e2⟩:=hg
  obtain ⟨a1,a2,⟨a,c,a3⟩,a4,a5⟩:=st
  obtain ⟨us,r1,p1⟩:=ye I q1
  obtain ⟨vs,r2,p2⟩:=ye I q2
  obtain ⟨u,g1,ru⟩:=r1.get e1
  obtain ⟨v,g2,rv⟩:=r2.get e2
  refine qDa D a1 a2 a3 (a4.src p1) (a5.src p2) (x:=u) (y:=v) (by simpa using g1) (by simpa using g2) fun h' z1 z2 z3 z4 z5 z7=>⟨_,rfl,?_⟩
  refine wpAny_letOwnedTupleGo_zip (s:={ s with heap:=h' }) z1 fun h2 y1 y2 => ?_
  have nz:s.heap.objs.size≠z:=CN (AM a1)
  have oth:∀ b,b≠z->h2.get? b=h'.get? b:=fun b hb=>y2.2 b hb
  have tz:qFB b1 b2 z TI TO i1 i2 l1 l2 (i + 1) h2:=⟨y1,(oth TI D.TIz).trans (z7 TI _ D.TIz D.TITO D.TIi1 D.TIi2 a2),⟨u,v,(oth TO D.TOz).trans z2⟩,z3.iter.at fun o e=>(oth i1 D.i1z).trans e,z4.iter.at fun o e=>(oth i2 D.i2z).trans e⟩
  have hT:IsPair h2 s.heap.objs.size u v:=(oth _ nz).trans z5
  have I2:=qGG (t':=s.toks) (h':=h2) I hf ru rv (fun b o hb e=>(oth b fun q=>hb (by simp [q])).trans (z7 b o (fun q=>hb (by simp [q])) (fun q=>hb (by simp [q])) (fun q=>hb (by simp [q])) (fun q=>hb (by simp [q])) e)) (fun b hb=>by
   obtain ⟨b1,b2,⟨a',c',b3⟩,s4,s5⟩:=tz
   obtain ⟨o4,b4,_⟩:=s4.here
   obtain ⟨o5,b5,_⟩:=s5.here
   simp only [AJ,AY,Bi] at hb
   rcases hb with rfl |rfl |rfl |rfl |rfl
   ·exact ⟨_,b1⟩
   ·exact ⟨_,b2⟩
   ·exact ⟨_,b3⟩
   ·exact ⟨_,b4⟩
   ·exact ⟨_,b5⟩) hT
  refine ⟨.ref s.heap.objs.size,_,I2,rfl,⟨_,x,y,I.hok.fresh (AL _),rfl,rfl,fun xs' ys' h1 h2 => ?_⟩,tz,fun b hb => ?_⟩
  ·rw [qC7 I h1 q1,qC7 I h2 q2];exact ⟨e1,e2⟩
  ·have:=(hf b hb).1
   have ne:b≠s.heap.objs.size:=by
    simp only [AJ,AY,Bi] at hb
    obtain ⟨o4,b4,_⟩:=a4.here
    obtain ⟨o5,b5,_⟩:=a5.here
    rcases hb with rfl |rfl |rfl |rfl |rfl
    ·exact AZ (AM a1)
    ·exact AZ (AM a2)
    ·exact AZ (AM a3)
    ·exact AZ (AM b4)
    ·exact AZ (AM b5)
   rw [qU ne];exact this
 done:=by
  intro X hP hw hK hA' i pins s σ H E I hf st hg
  subst hP hw hK
  obtain ⟨xs,ys,q1,q2,e1⟩:=hg
  obtain ⟨a1,a2,⟨a,c,a3⟩,a4,a5⟩:=st
  obtain ⟨us,r1,p1⟩:=ye I q1
  obtain ⟨vs,r2,p2⟩:=ye I q2
  have n1:=r1.length
  have n2:=r2.length
  refine qFz (by rw [hA'];exact hA) D a1 a2 a3 (a4.src p1) (a5.src p2) (e1.imp (fun q=>by simp;omega) fun q=>by simp;omega) fun h' k=>⟨rfl,?_⟩
  have nf:∀ b u,H b=some u->b ∉ [z,TI,TO,i1,i2]:=fun b u e q=>by rw [(hf b q).1] at e;cases e
  have kk:∀ b o,b ∉ [z,TI,TO,i1,i2]->s.heap.get? b=some o->h'.get? b=some o:=fun b o hb e=>k b o (fun q=>hb (by simp [q])) (fun q=>hb (by simp [q])) (fun q=>hb (by simp [q])) (fun q=>hb (by simp [q])) e
  exact I.call (g':=s.gens) (d':=s.drawn) (t':=s.toks) (ch:=[z,TI,TO,i1,i2]) ⟨fun b o e _ _ hb=>kk b o hb e,fun b o e _ _ hb=>⟨o.slots,kk b o hb e⟩,fun b o e n _=>n,fun b o e hb=>⟨o,kk b o hb e⟩,fun b xs e=>e,fun b o u e=>e,fun b ps e=>⟨#[],by rw [e];simp⟩⟩
   (fun b u' e=>(I.hok b u' e).stay (fun c w hc q=>kk c w (hc.elim (fun z=>by rw [z];exact nf _ _ e) fun z=>nf _ _ z) q) (fun c q=>q) fun c xs q=>q) I.bare fun b hb=>⟨(hf b hb).2.2.2.1,(hf b hb).2.1,(hf b hb).2.2.2.2.1,(hf b hb).2.2.2.2.2⟩
 self:=fun _ _ _ _ _ st h=>wpAny_pyIter_zip st.1 h
section
variable {X:Cx} {a b:Expr} {ta:TA} {p pos:Pos} {elts:List Expr} {n:Nat} {tpos:Pos}
def qKd (K:W.Frag) (ta:TA):TI:=fun σ H R=>ta σ H fun vs H1 => ∃ b1 b2 l1 l2,vs=[.ref l1,.ref l2]∧(∃ xs,SqG b1 K H1 l1 xs)∧(∃ ys,SqG b2 K H1 l2 ys)∧R (qKh b1 b2 K l1 l2) H1
theorem qHH (hc:X.calm=true) (hg:Gl X "zip") (hm:X.mg "zip" = none) (ha:PA X [a,b] ta) (he:starEach [a,b] X.env=(false,eval a X.env)::starEach [b] X.env:=by rfl) (hpl:(backTo pos (starEach [b] X.env)).any (·.1)=false:=by rfl) :
  PI X (.Tuple elts n tpos) (.Call (.Name "zip" p) [a,b] [] pos) (qKd X.K ta):=by
 intro pins s σ H R I h
 refine By (Zt I hg hm PyProof.Rows.boot_zip ?_)
 refine Bw (thn (ha pos pins s σ H _ I h) fun us s1 ⟨vs,H1,I1,r1,q1⟩ => ?_) he hpl
 obtain ⟨b1,b2,l1,l2,rfl,⟨xs,h1⟩,⟨ys,h2⟩,q⟩:=q1
 obtain ⟨u,v,rfl,ru,rv⟩:=qCE r1
 cases ru
 cases rv
 obtain ⟨ts,r1,p1⟩:=ye I1 h1
 obtain ⟨ws,r2,p2⟩:=ye I1 h2
 refine qDg p1 p2 fun h' c1 c2 c3 c4 c5 c7 => ?_
 refine wpAny_pyIter_zip c1 ?_
 have lt1:l1 < s1.heap.objs.size:=by obtain ⟨_,e⟩:=p1.here;exact AM e
 have lt2:l2 < s1.heap.objs.size:=by obtain ⟨_,e⟩:=p2.here;exact AM e
 have I2:L2.Inv X pins σ H1 { s1 with heap:=h' }:=I1.kept (t':=s1.toks) c7
 refine ⟨_,_,_,_,H1,rfl,I2,qDQ (I1.ok.hd hc) b1 b2 _ _ _ _ _ _ _ (PyProof.Rows.zipApart_new lt1 lt2),⟨c1,c2,⟨_,_,c3⟩,c4.iter,c5.iter⟩,fun c hc' => ?_,q⟩
 have hle:s1.heap.objs.size≤c:=by
  simp only [AJ,AY,Bi] at hc'
  rcases hc' with rfl |rfl |rfl |rfl |rfl
  ·exact Bu _ _
  ·exact Bu _ _
  ·exact Bu _ _
  ·exact AL _
  ·exact Bu _ _
 exact I1.fpOk hle (I1.hok.fresh hle)
end
end EX
namespace EV
open PySem PySem.Spec PyProof.Rows L2 EX
section
variable {X:Cx} {E:XK} {e a c d:Expr} {es:List Expr} {f fa fb fc:FE} {fl:FL} {pos:Pos} {F G:FS}
def kQ:PV->Bool
 | .tup _=>true
 |_=>false
theorem yI {K:W.Frag} {H:Hp} {b:Bz} {st:qC} {p:PV} {v:V} {l:List PV} (S:SR K H b st) (r:RV K H b p v) (h:Wo st p=some l) :
  ∃ x xs,v = .ref x∧SqG (kQ p) K H x xs∧RVs K H b l xs:=by
 unfold Wo at h
 split at h
 ·cases h
  unfold RV at r
  obtain ⟨x,xs,rfl,h2,h3⟩:=r
  exact ⟨x,xs,rfl,h2.sq,h3⟩
 ·rename_i hp
  have:kQ p=false:=by unfold kQ;split <;> first |(exact absurd rfl (hp _)) |rfl
  rw [this]
  exact wg S r h
def qEM (ps:List PV) (st:qC):Rs ItP:=match ps with
 |[p,q]=>match Wo st p,Wo st q with
  |some l,some m => .ok ⟨zy l m,fun s=>Wo s p=some l∧Wo s q=some m⟩ st
  |_,_ => .no
 |_ => .no
def qCH (t:FA):FI:=fun r st=>(t r st).bind qEM
theorem qF6 {elts:List Expr} {n:Nat} {tpos p:Pos} {t:FA} (hc:X.calm=true) (hm:X.mg "zip" = none) (ha:VA X E [a,c] t) (hg:Gl X "zip" := by rfl) (he:starEach [a,c] X.env=(false,eval a X.env)::starEach [c] X.env:=by rfl) (hpl:(backTo pos (starEach [c] X.env)).any (·.1)=false:=by rfl) :
  VI X E (.Tuple elts n tpos) (.Call (.Name "zip" p) [a,c] [] pos) (qCH t):=fun pins s σ H R I q=>qHH hc hg hm ha he hpl pins s σ H R I (by
 obtain ⟨b,r,st,S,RE,P⟩:=q
 refine ⟨b,r,st,S,RE,PostA.bindI P fun l s1 us H1 b1 e1 S1 r1 P1 => ?_⟩
 unfold qEM at P1
 split at P1
 ·rename_i p q
  obtain ⟨u,v,rfl,h1,h2⟩:=RVs.two r1
  split at P1
  ·rename_i l m el em
   obtain ⟨x,xs,rfl,k1,k2⟩:=yI S1 h1 el
   obtain ⟨y,ys,rfl,k3,k4⟩:=yI S1 h2 em
   refine ⟨kQ p,kQ q,x,y,rfl,⟨xs,k1⟩,⟨ys,k3⟩,P1 _ H1 b1 (Ext.refl _ _) S1 fun H2 b2 st2 e2 S2 g2 => ?_⟩
   obtain ⟨x',xs',ex,j1,j2⟩:=yI S2 (RV.wext e2 p h1) g2.1
   cases ex
   obtain ⟨y',ys',ey,j3,j4⟩:=yI S2 (RV.wext e2 q h2) g2.2
   cases ey
   refine ⟨fun i w hw => ?_,fun i hi => ?_⟩
   ·obtain ⟨x1,y1,w1,w2,rfl⟩:=qAF hw
    obtain ⟨v1,z1,z2⟩:=j2.get w1
    obtain ⟨v2,z3,z4⟩:=j4.get w2
    refine ⟨⟨xs',ys',v1,v2,j1,j3,z1,z3⟩,fun z H3 ⟨T,a1,a2,hn,hz,hH,ha⟩ => ?_⟩
    subst hz;subst hH
    obtain ⟨q1,q2⟩:=ha xs' ys' j1 j3
    rw [z1] at q1;cases q1
    rw [z3] at q2;cases q2
    refine ⟨fun b' o h=>by rw [qU (qQ h hn)];exact h,S2.new hn,?_⟩
    unfold RV
    exact ⟨T,_,rfl,.inl ⟨Qd,S2.new_notin hn⟩,RVs.cons (RV.wext (WE.new hn) _ z2) (RVs.cons (RV.wext (WE.new hn) _ z4) RVs.nil)⟩
   ·have hi:min l.length m.length≤i:=by rw [← qAr];exact hi
    exact ⟨xs',ys',j1,j3,by rw [← j2.length,← j4.length];omega⟩
  ·exact P1.elim
 ·exact P1.elim)
end
end EV
end
section
namespace EV
open PySem PySem.Spec PyProof.Rows L2 EX
section
variable {X:Cx} {E:XK}
def qJc (sc:Scope) (x:Str):Bool:=match sc.names.lookup x with
 |some .local=>true
 |some .cell=>true
 |some .free=>true
 |_=>false
theorem qIv {sc:Scope} {x:Str} (h:qJc sc x=true):Vis sc x:=by
 unfold qJc at h
 unfold Vis
 split at h
 ·rename_i e;exact .inl e
 ·rename_i e;exact .inr (.inl e)
 ·rename_i e;exact .inr (.inr e)
 ·cases h
theorem qG (i:Nat) {x:Str} {pos:Pos} (hN:X.N[i]? = some x:=by rfl) (hv:qJc X.env.scope x=true:=by rfl) (hd:((x==("__debug__":Str)) || (x==("__classdict__":Str)))=false:=by rfl):VE X E (.Name x pos) (qB i):=by
 rw [Bool.or_eq_false_iff] at hd
 exact qJp (pv i hN (qIv hv) hd.1 hd.2)
def frB (X:Cx):List (Str×NameKind)->Bool
 |[]=>true
 |(x,.free)::l=>(match X.env.kindOf x with |some .cell=>true |some .free=>true |_=>false)&&frB X l
 |_::l=>frB X l
theorem qEE:∀ {l:List (Str×NameKind)},frB X l=true -> ∀ x∈l,x.2 = .free->(X.env.kindOf x.1=some .cell∨X.env.kindOf x.1=some .free)
 |[],_,x,hx,_=>by cases hx
 |(y,k)::l,h,x,hx,hk=>by
  rcases AJ.mp hx with rfl |hx
  ·have hk:k = .free:=hk
   subst hk
   unfold frB at h
   rw [Aj] at h
   have h:=h.1
   split at h
   ·rename_i e;exact .inl e
   ·rename_i e;exact .inr e
   ·cases h
  ·refine qEE (l:=l) ?_ x hx hk
   unfold frB at h
   split at h
   ·rename_i he;cases he
   ·rename_i he;cases he;rw [Aj] at h;exact h.2
   ·rename_i he;cases he;exact h
def qGy (X:Cx) (l:List (Str×NameKind)):List Str->List Nat->Prop
 |x::xs,j::js=>(X.N[j]? = some x∧l.lookup x=some .free)∧qGy X l xs js
 |_,_=>True
theorem Y0 {x:Str} {k:NameKind}:∀ {l:List (Str×NameKind)},l.lookup x=some k->(x,k)∈l
 |[],h=>by cases h
 |(y,q)::l,h=>by
  rw [A4] at h
  split at h
  ·rename_i e;cases h;rw [eq_of_beq e];exact AI
  ·exact AD _ (Y0 h)
theorem qCp {l:List (Str×NameKind)}:∀ {xs:List Str} {js:List Nat},qGy X l xs js -> ∀ (i:Nat) (x:Str) (j:Nat),xs[i]? = some x->js[i]? = some j->X.N[j]? = some x∧(x,NameKind.free)∈l
 |[],_,_,i,x,j,h1,_=>by cases h1
 |_::_,[],_,i,x,j,_,h2=>by cases h2
 |a::xs,b::js,h,i,x,j,h1,h2=>by
  unfold qGy at h
  cases i with
  |zero=>cases h1;cases h2;exact ⟨h.1.1,Y0 h.1.2⟩
  |succ i=>exact qCp h.2 i x j h1 h2
theorem QW {scope:Scope} {capN locN:List Str} {caps:List Nat} (h1:scope.kind = .function) (h2:(scope.names.map (·.1)).Nodup) (h3:frB X scope.names=true) (h4:capN.length=caps.length) (h5:qGy X scope.names capN caps):CSc X scope capN locN caps :=
 ⟨h1,h2,qEE h3,h4,qCp h5⟩
end
end EV
end
section
namespace EX
open PySem PySem.Spec PyProof.Rows L2
end EX
namespace EV
open PySem PySem.Spec PyProof.Rows L2 EX
end EV
end
section
namespace EV
open PySem PySem.Spec PyProof.Rows L2 EX
section
variable {X:Cx} {E:XK} {e:Expr} {es:List Expr} {pos:Pos}
theorem qLN {a:Expr} {n:Str} {f:FE} {g:FA} (h:VE X E (.Attribute a n pos) f) (h2:VA X E es g):VA X E (.Attribute a n pos::es) (qA f g):=wD h h2 rfl
end
end EV
end
section
namespace EX
open PySem PySem.Spec PyProof.Rows L2
end EX
namespace EV
open PySem PySem.Spec PyProof.Rows L2 EX
end EV
end
section
namespace EX
open PySem PySem.Spec PyProof.Rows L2
end EX
namespace EV
open PySem PySem.Spec PyProof.Rows L2 EX
end EV
end
section
namespace EX
open PySem PySem.Spec PyProof.Rows L2
end EX
namespace EV
open PySem PySem.Spec PyProof.Rows L2 EX
end EV
end
section
namespace EV
open PySem PySem.Spec PyProof.Rows L2 EX
section
variable {X:Cx} {E:XK} {e a c d:Expr} {es:List Expr} {f fa fb fc:FE} {fl:FL} {pos:Pos} {F G:FS}
def qBm (f:FE) (lo hi:FO):FE:=fun r st=>(f r st).bind fun p s1=>(lo r s1).bind fun k s2=>(hi r s2).bind fun m s3=>match asL s3 p with
 |some l => .ok (.lst (WU l k m)) s3
 |none => .no
theorem Wg {l:List PV} {xs:List V} (h:l.length=xs.length) {K:W.Frag} {H:Hp} {b:Bz} (r:RVs K H b l xs) (k m:Option Int):RVs K H b (WU l k m) (jB xs k m):=by
 unfold WU jB
 rw [h]
 exact RVs.take _ (RVs.drop _ r)
theorem qEn {lo hi:Option Expr} {flo fhi:FO} {p2:Pos} (h:VE X E e f) (hl:VO X E lo flo) (hh:VO X E hi fhi):VE X E (.Subscript e (.Slice lo hi none p2) pos) (qBm f flo fhi) :=
 PE.imp (qAH qGe h hl hh) fun s H Q ⟨b,r,st,S,R,P⟩=>⟨b,r,st,S,R,PostE.bind P fun p s1 u H1 b1 e1 S1 r1 P1=>⟨b1,r,s1,S1,R.ext e1,PostO.bind P1 fun k s2 H2 b2 e2 S2 P2=>⟨b2,r,s2,S2,(R.ext e1).ext e2,PostO.bind P2 fun m s3 H3 b3 e3 S3 P3=>by
  split at P3
  ·rename_i l el
   obtain ⟨x,xs,rfl,h2,h3⟩:=wg S3 (RV.ext e3 _ (RV.ext e2 _ r1)) el
   refine ⟨x,xs,rfl,h2,fun p hp=>PostN.lay (PostN.of (r := .ok (WU l k m) s3) P3) S3 (Wg h3.length h3 k m) hp⟩
  ·exact P3.elim⟩⟩⟩
def vMk (f:FL):FE:=fun r st=>(f r st).bind fun l s => .ok (.ref s.length) (s++[.l l])
theorem PostN.bindE {K:W.Frag} {E:XK} {H:Hp} {b:Bz} {r:Rs (List PV)} {Q:VK} (P:PostE K E H b (r.bind fun l s => .ok (.ref s.length) (s++[.l l])) Q):PostN K E H b r Q:=by
 cases r with
 |ok l st =>
  intro p xs H' b' e hn hp hz S rs
  have hl:b'.b.length=st.length:=S.len
  refine P (.ref p) H' ⟨b'.b++[p],b'.z⟩ (e.adopt hn) (S.slot (x := .l l) hz hp ⟨xs,rfl,rs⟩) ?_
  unfold RV
  exact ⟨p,rfl,by show (b'.b++[p])[st.length]? = some p;rw [← hl];simp⟩
 |ex x st=>exact P
 |no=>exact P
theorem qHf {f:FL} (h:VN X E e f):VE X E e (vMk f):=PE.imp h fun s H Q ⟨b,r,st,S,R,P⟩=>⟨b,r,st,S,R,PostN.bindE P⟩
end
end EV
end
section
namespace EX
open PySem PySem.Spec PyProof.Rows L2
end EX
namespace EV
open PySem PySem.Spec PyProof.Rows L2 EX
end EV
end
section
namespace EX
open PySem PySem.Spec PyProof.Rows L2
def byT (w:World):Bool:=w.params.followText "set-order"
section
variable {prog:Program} {w:World} {A:Around} {E:Value->Shared->Prop} {s:Shared}
theorem qCI {a:Value} {Q:Value->Shared->Prop} (h:Q (.ref s.heap.objs.size) { s with heap:=s.heap.push { cls := .type "set",data := .set #[] 0 (SetTable.fresh 0 0 (!byT w)) } }) :
  codeAny (model prog w) A (.call (.builtin "set.__new__") ⟨[.type "set",a],[]⟩) (wants Q E) s:=by
 refine CS F.plain_set_new F.entry_set_new (An (F.newCall_set_1 a) ?_)
 unfold Builtin.«set.__new__» Builtin.Frozenset.newClass
 dsimp only
 refine AA (AA (An (a:=true) rfl ?_))
 rw [AN (by decide)]
 refine AA (An sub_set_self ?_)
 rw [AN (by decide)]
 refine AB (AA ?_)
 unfold newSet setsByText
 refine AA (AA (B7 (AB ?_)))
 dsimp only
 unfold newObj
 dsimp only
 rw [AN (by decide)]
 unfold newObjAsIs
 refine AA (wpAny_alloc ?_)
 dsimp only
 exact AB (AB h)
end
theorem Jd:entryFor table "set.__iter__" = some Builtin.«frozenset.__iter__» := entryFor_alias (id' := "frozenset.__iter__") (by kernel_rfl) (by kernel_rfl) (by kernel_rfl) (by kernel_rfl)
theorem Z4:entryFor table "set_iterator.__next__" = some Builtin.«set_iterator.__next__» := entryFor_of_fast (by kernel_rfl)
theorem slot_setit:Slot "set_iterator" (Str.ofString "__next__") "set_iterator.__next__" := @Slot.of "set_iterator" (Str.ofString "__next__") "set_iterator.__next__" "set_iterator" "__next__" (by rw [typeLookup_type,builtinLookup_eq_fast];rfl) (by decide) (by decide) (by decide) (Or.inl (by decide +kernel)) (by rw [isSubtype_type];rfl) (by decide +kernel)
theorem Yb (a:Value):argsOk "set_iterator.__next__" { pos:=[a] }:=by
 unfold argsOk
 kernel_rfl
theorem qB6 {α:Type}:∀ {l:List α} {i:Nat} (h:i < l.length),(l[i]::l.eraseIdx i).Perm l
 |x::l,0,_ => .refl _
 |x::l,i + 1,h=>(List.Perm.swap x _ _).trans ((qB6 (l:=l) (i:=i) (by simpa using h)).cons x)
theorem qB9 {α:Type} (next:Nat->Nat):∀ (n k:Nat) (left:List α) (out:Array α),left.length=n->(pickOrder.go next n k left out).toList.Perm (out.toList++left)
 |0,k,left,out,h=>by
  have:left=[]:=List.eq_nil_of_length_eq_zero h
  subst this
  show out.toList.Perm _
  rw [A6]
 |n + 1,k,left,out,h=>by
  have hl:next k % left.length < left.length:=Nat.mod_lt _ (by omega)
  show (match left[next k % left.length]? with |some x=>pickOrder.go next n (k + 1) (left.eraseIdx (next k % left.length)) (out.push x) |none=>out).toList.Perm _
  rw [AE hl]
  dsimp only
  refine (qB9 next n (k + 1) _ _ (by rw [List.length_eraseIdx_of_lt hl];omega)).trans ?_
  rw [Array.toList_push,Ab]
  exact List.Perm.append_left _ (qB6 hl)
def wf (w:World) (a:Addr) (ep:Nat) (es:Array (Int×Value)):Array (Int×Value):=if byT w=true then pickOrder (w.params.setOrder a ep) es else es
theorem qAt {w:World} {a:Addr} {ep:Nat} {es:Array (Int×Value)}:(wf w a ep es).toList.Perm es.toList:=by
 unfold wf
 split
 ·exact qB9 _ _ _ _ _ (by simp)
 ·exact .refl _
theorem zf {w:World} {a:Addr} {ep:Nat} {es:Array (Int×Value)}:(wf w a ep es).size=es.size:=by
 have:=(qAt (w:=w) (a:=a) (ep:=ep) (es:=es)).length_eq
 rwa [AX,AX] at this
theorem jp:entryFor table "list.extend.loop" = some Builtin.«list.extend.loop» := entryFor_of_fast (by kernel_rfl)
theorem zI:plainId "list.extend.loop" = true:=by decide +kernel
section
variable {prog:Program} {w:World} {A:Around} {E:Value->Shared->Prop} {R:Result->Shared->Prop} {a it:Addr} {es:Array (Int×Value)} {ep:Nat} {t:SetTable}
theorem hint_set {s:Shared} {Q:Bool->Shared->Prop} (hT:s.TypeIs (.ref a) "set") (h:Q false s):wpAny (model prog w) A (Builtin.List.listLengthHint (.ref a)) Q E s:=by
 unfold Builtin.List.listLengthHint
 refine AA (wpAny_specialOf hT F.slot_set_len.lookup ?_)
 dsimp only
 rw [show splitId "set.__len__" = some ("set","__len__") by decide]
 dsimp only
 refine AA (BG hT sub_set_self ?_)
 rw [AN (by decide),AG (by decide +kernel)]
 exact AA (Bf hT (AB h))
end
end EX
namespace EV
open PySem PySem.Spec PyProof.Rows L2 EX
section
variable {X:Cx} {E:XK} {e:Expr} {f:FE} {p p2 pos pos2:Pos}
theorem ZJ {K:W.Frag} {H:Hp} {b:Bz}:∀ (ns:List Int),RVs K H b (ns.map PV.int) (ns.map V.int)
 |[]=>RVs.nil
 |n::ns=>RVs.cons wC (ZJ ns)
end
end EV
end
section
namespace EX
open PySem PySem.Spec PyProof.Rows L2
end EX
namespace EV
open PySem PySem.Spec PyProof.Rows L2 EX
end EV
end
section
namespace EV
open PySem PySem.Spec PyProof.Rows L2 EX
section
variable {X:Cx} {E:XK} {e:Expr} {te:TE} {f:FE} {p kp kpos pos:Pos} {j:Nat}
def qCz:=gI fun i j=>if 0 < j∧j < 2 ^ 64 then some (.int (i / j)) else none
theorem qEf:OpR X (binaryOp .FloorDiv) (rI (fun _ j=>0 < j∧j < 2 ^ 64) fun i j => .int (i / j)):=opI fun i j _ _ _ _ _ hc q=>by
 have h1:(0:Int) < j:=hc.1
 have h2:j < 2 ^ 64:=hc.2
 refine floordiv_int (by omega) (by rw [Int.fdiv_eq_ediv_of_nonneg i (by omega)];exact q) (.inl (PyProof.noPylong_of_log2 ?_))
 have h3:j.natAbs < 2 ^ 64:=by omega
 have h4:j.natAbs≠0:=by omega
 exact Nat.lt_trans ((Nat.log2_lt h4).mpr h3) (by decide)
theorem qHT {a c:Expr} {fa fb:FE} (ha:VE X E a fa) (hb:VE X E c fb):VE X E (.BinOp a .FloorDiv c pos) (qM qCz fa fb):=Z5 qEf (qFm fun i j z e=>by
 split at e
 ·rename_i h;cases e;exact ⟨h,fun _ _=>wC⟩
 ·cases e) ha hb
end
end EV
end
section
namespace ET
open PySem
def Rz (xs:Array Nat):Prop := ∀ i k,i < k->k < xs.size->xs.getD i 0 < xs.getD k 0
theorem qHM {xs:Array Nat} {i a b:Nat} (h:i < xs.size):xs.getD i a=xs.getD i b:=by
 rw [AR,AR,AT h];rfl
theorem Yc {xs:Array Nat} {j:Nat} (R:Rz xs):∀ (f lo hi:Nat),lo≤hi->hi≤xs.size->hi - lo≤f->(∀ i,i < lo->xs.getD i 0 < j)->(∀ i,hi≤i->i < xs.size->j≤xs.getD i 0) ->
  (∀ i,i < SetTable.below.go xs j f lo hi->xs.getD i 0 < j)∧(∀ i,SetTable.below.go xs j f lo hi≤i->i < xs.size->j≤xs.getD i 0)∧SetTable.below.go xs j f lo hi≤xs.size
 |0,lo,hi,h1,h2,h3,h4,h5=>by
  have:lo=hi:=by omega
  subst this
  exact ⟨h4,h5,h2⟩
 |f + 1,lo,hi,h1,h2,h3,h4,h5=>by
  unfold SetTable.below.go
  by_cases hl:lo < hi
  ·rw [AG hl]
   have hm1:lo≤(lo + hi) / 2:=by omega
   have hm2:(lo + hi) / 2 < hi:=by omega
   dsimp only
   rw [qHM (b:=0) (show (lo + hi) / 2 < xs.size by omega)]
   by_cases hq:xs.getD ((lo + hi) / 2) 0 < j
   ·rw [AG hq]
    refine Yc R f _ _ (by omega) h2 (by omega) (fun i hi' => ?_) h5
    by_cases he:i=(lo + hi) / 2
    ·rw [he];exact hq
    ·exact Nat.lt_trans (R i _ (by omega) (by omega)) hq
   ·rw [AN hq]
    refine Yc R f _ _ (by omega) (by omega) (by omega) h4 (fun i hi' hs => ?_)
    by_cases he:i=(lo + hi) / 2
    ·rw [he];omega
    ·have:=R _ i (show (lo + hi) / 2 < i by omega) hs
     omega
  ·rw [AN hl]
   have:lo=hi:=by omega
   subst this
   exact ⟨h4,h5,h2⟩
theorem WS {xs:Array Nat} (R:Rz xs) (j:Nat):(∀ i,i < SetTable.below xs j->xs.getD i 0 < j)∧(∀ i,SetTable.below xs j≤i->i < xs.size->j≤xs.getD i 0)∧SetTable.below xs j≤xs.size :=
 Yc R _ _ _ (BJ _) (AL _) (AL _) (fun i h=>absurd h (BR _)) (fun i h1 h2=>absurd h2 (by omega))
theorem qFf {xs:Array Nat} (R:Rz xs) {i:Nat} (h:i < xs.size):SetTable.below xs (xs.getD i 0)=i:=by
 obtain ⟨h1,h2,h3⟩:=WS R (xs.getD i 0)
 by_cases hq:SetTable.below xs (xs.getD i 0)=i
 ·exact hq
 ·rcases Nat.lt_or_gt_of_ne hq with q |q
  ·have:=h2 _ (AL _) (by omega)
   have:=R _ _ q h
   omega
  ·have:=h1 i q;omega
theorem qB1 {xs:Array Nat} (R:Rz xs) {i:Nat} (h:i < xs.size):SetTable.below xs (xs.getD i 0 + 1)=i + 1:=by
 obtain ⟨h1,h2,h3⟩:=WS R (xs.getD i 0 + 1)
 by_cases hq:SetTable.below xs (xs.getD i 0 + 1)=i + 1
 ·exact hq
 ·rcases Nat.lt_or_gt_of_ne hq with q |q
  ·have:=h2 i (by omega) h
   omega
  ·have a:=h1 (i + 1) q
   have:=R i (i + 1) (by omega) (by omega)
   omega
theorem qBx {xs:Array Nat} (R:Rz xs):SetTable.below xs 0=0:=by
 obtain ⟨h1,h2,h3⟩:=WS R 0
 cases h:SetTable.below xs 0 with
 |zero=>rfl
 |succ n=>have:=h1 0 (by omega);omega
theorem mem_getD {xs:Array Nat} {j:Nat}:j∈xs.toList ↔ ∃ i,i < xs.size∧xs.getD i 0=j:=by
 constructor
 ·intro h
  obtain ⟨i,hi,e⟩:=List.getElem_of_mem h
  refine ⟨i,by simpa using hi,?_⟩
  rw [AR,AT (by simpa using hi)]
  simpa using e
 ·rintro ⟨i,hi,rfl⟩
  rw [AR,AT hi]
  exact Array.mem_toList_iff.mpr (Array.getElem_mem hi)
theorem qCs (j:Nat):SetTable.has #[] j=false:=by
 unfold SetTable.has
 simp
theorem jj {t:SetTable} (R:Rz t.place) {i:Nat} (h:i < t.place.size):t.slot (t.place.getD i 0) = .live i:=by
 unfold SetTable.slot
 rw [qFf R h]
 dsimp only
 rw [AG]
 rw [AR,AT h]
 simp
theorem qBJ {t:SetTable} (hd:t.dummies = #[]) {j:Nat} (h:j ∉ t.place.toList):t.slot j = .empty:=by
 unfold SetTable.slot
 dsimp only
 rw [AN,hd,qCs]
 ·simp
 ·intro q
  refine h (mem_getD.mpr ⟨SetTable.below t.place j,?_⟩)
  have q:=eq_of_beq q
  obtain ⟨h1,h2⟩:=BU.mp q
  refine ⟨h1,?_⟩
  rw [AR,q];rfl
def qB0 (mask:Nat) (p:SetTable.Probe):SetTable.Probe :=
 if p.more > 0 then { p with j:=p.j + 1,more:=p.more - 1 } else
 { p with j:=(SetTable.leap mask p.i p.perturb).1,more:=SetTable.runEnd mask (SetTable.leap mask p.i p.perturb).1 - (SetTable.leap mask p.i p.perturb).1,i:=(SetTable.leap mask p.i p.perturb).1,perturb:=(SetTable.leap mask p.i p.perturb).2 }
theorem qIA (t:SetTable) (p:SetTable.Probe):t.advance p=qB0 t.mask p:=rfl
def sq (mask:Nat) (h:Int):Nat->SetTable.Probe
 |0=>⟨SetTable.bits h % (mask + 1),SetTable.runEnd mask (SetTable.bits h % (mask + 1)) - SetTable.bits h % (mask + 1),SetTable.bits h % (mask + 1),SetTable.bits h,none⟩
 |n + 1=>qB0 mask (sq mask h n)
def lp (mask:Nat) (h:Int):Nat->Nat×Nat
 |0=>(SetTable.bits h % (mask + 1),SetTable.bits h)
 |n + 1=>SetTable.leap mask (lp mask h n).1 (lp mask h n).2
def rn (mask i:Nat):Nat:=SetTable.runEnd mask i - i
def lpN (mask:Nat) (h:Int):Nat->Nat
 |0=>0
 |n + 1=>lpN mask h n + rn mask (lp mask h n).1 + 1
theorem qBL {mask:Nat} {h:Int} {m n:Nat} (e:sq mask h n=⟨(lp mask h m).1,rn mask (lp mask h m).1,(lp mask h m).1,(lp mask h m).2,none⟩):∀ k,k≤rn mask (lp mask h m).1->sq mask h (n + k)=⟨(lp mask h m).1 + k,rn mask (lp mask h m).1 - k,(lp mask h m).1,(lp mask h m).2,none⟩
 |0,_=>e
 |k + 1,hk=>by
  rw [← Co,sq,qBL e k (by omega)]
  unfold qB0
  rw [AG (show rn mask (lp mask h m).1 - k > 0 by omega)]
  show SetTable.Probe.mk _ _ _ _ _=_
  rw [show rn mask (lp mask h m).1 - k - 1=rn mask (lp mask h m).1 - (k + 1) by omega,Co]
theorem qB8 {mask:Nat} {h:Int}:∀ m,sq mask h (lpN mask h m)=⟨(lp mask h m).1,rn mask (lp mask h m).1,(lp mask h m).1,(lp mask h m).2,none⟩
 |0=>rfl
 |m + 1=>by
  rw [lpN,sq,qBL (qB8 m) _ (AL _)]
  unfold qB0
  rw [AN (show ¬ rn mask (lp mask h m).1 - rn mask (lp mask h m).1 > 0 by omega)]
  rfl
theorem qHn {mask:Nat} {h:Int} {m k:Nat} (hk:k≤rn mask (lp mask h m).1):(sq mask h (lpN mask h m + k)).j=(lp mask h m).1 + k:=by
 rw [qBL (qB8 m) k hk]
theorem qKA (mask i:Nat):rn mask i≤9:=by
 unfold rn SetTable.runEnd
 split <;> omega
theorem qEi {mask:Nat} {h:Int}:∀ m,lpN mask h m≤10 * m
 |0=>AL _
 |m + 1=>by
  have:=qEi (mask:=mask) (h:=h) m
  have:=qKA mask (lp mask h m).1
  rw [lpN];omega
theorem qKP {mask:Nat} {h:Int}:∀ m,(lp mask h m).1≤mask
 |0=>CL (Nat.mod_lt _ (Nat.succ_pos _))
 |m + 1=>CL (Nat.mod_lt _ (Nat.succ_pos _))
theorem qC5 {mask:Nat} {h:Int}:∀ m,(lp mask h m).2=SetTable.bits h / 32 ^ m
 |0=>by simp [lp]
 |m + 1=>by
  show (lp mask h m).2 / 32=_
  rw [qC5 m,Nat.div_div_eq_div_mul,Nat.pow_succ]
theorem qGo (h:Int):SetTable.bits h < 2 ^ 64:=by
 unfold SetTable.bits
 have:=Int.emod_lt_of_pos h (show (0:Int) < 2 ^ 64 by decide)
 have:=Int.emod_nonneg h (show (2 ^ 64:Int)≠0 by decide)
 omega
theorem qIG {mask:Nat} {h:Int} (m:Nat) (hm:13≤m):(lp mask h m).2=0:=by
 rw [qC5]
 refine Nat.div_eq_of_lt (As (qGo h) ?_)
 exact Aa (show 2 ^ 64≤32 ^ 13 by decide) (Nat.pow_le_pow_right (by decide) hm)
def cy (mask:Nat) (a:Nat):Nat->Nat
 |0=>a
 |n + 1=>(cy mask a n * 5 + 1) % (mask + 1)
theorem Y4 {mask a:Nat} (m:Nat):∀ n,cy mask (cy mask a m) n=cy mask a (m + n)
 |0=>rfl
 |n + 1=>by rw [← Co,cy,cy,Y4 m n]
def Cyc (mask:Nat):Prop := ∀ a,a≤mask -> ∀ e,e≤mask -> ∃ k,k≤mask∧cy mask a k=e
def cyl (mask:Nat):Nat->Nat->List Nat
 |0,_=>[]
 |n + 1,a=>a::cyl mask n ((a * 5 + 1) % (mask + 1))
theorem qCy {mask:Nat}:∀ (n a i:Nat),i < n->(cyl mask n a)[i]? = some (cy mask a i)
 |0,_,_,h=>absurd h (BR _)
 |n + 1,a,0,_=>rfl
 |n + 1,a,i + 1,h=>by
  rw [cyl,List.getElem?_cons_succ,qCy n _ i (by omega)]
  have:=Y4 (mask:=mask) (a:=a) 1 i
  rw [show i + 1=1 + i by omega,← this]
  rfl
theorem qCv {mask:Nat}:∀ (n a:Nat),(cyl mask n a).length=n
 |0,_=>rfl
 |n + 1,a=>by rw [cyl,AU,qCv n]
def qJo (mask:Nat):Bool:=Nat.beq (cy mask 0 (mask + 1)) 0&&(List.range (mask + 1)).all fun e=>(cyl mask (mask + 1) 0).any fun x=>Nat.beq x e
theorem Jk {mask:Nat} (h:qJo mask=true):Cyc mask:=by
 unfold qJo at h
 rw [Aj,A9] at h
 obtain ⟨h0,hall⟩:=h
 have h0:=Nat.eq_of_beq_eq_true h0
 have hat:∀ e,e≤mask -> ∃ k,k≤mask∧cy mask 0 k=e:=fun e he=>by
  obtain ⟨x,hx,q⟩:=List.any_eq_true.mp (hall e (BW.mpr (by omega)))
  have q:=Nat.eq_of_beq_eq_true q
  obtain ⟨k,hk⟩:=BS hx
  have hl:=(AQ.mp hk).1
  rw [qCv] at hl
  rw [qCy _ _ _ hl] at hk
  cases hk
  exact ⟨k,by omega,q⟩
 intro a ha e he
 obtain ⟨k1,h1,e1⟩:=hat a ha
 obtain ⟨k2,h2,e2⟩:=hat e he
 by_cases hq:k1≤k2
 ·refine ⟨k2 - k1,by omega,?_⟩
  rw [← e1,Y4,show k1 + (k2 - k1)=k2 by omega,e2]
 ·refine ⟨k2 + (mask + 1) - k1,by omega,?_⟩
  rw [← e1,Y4,show k1 + (k2 + (mask + 1) - k1)=(mask + 1) + k2 by omega,← Y4,h0,e2]
theorem qLF:Cyc 7:=Jk (by decide +kernel)
theorem qJx:Cyc 31:=Jk (by decide +kernel)
theorem qJZ:Cyc 127:=Jk (by decide +kernel)
theorem qIh:Cyc 511:=Jk (by decide +kernel)
theorem qH7 {mask:Nat} {h:Int}:∀ n,(lp mask h (13 + n)).1=cy mask (lp mask h 13).1 n
 |0=>rfl
 |n + 1=>by
  show ((lp mask h (13 + n)).1 * 5 + 1 + (lp mask h (13 + n)).2 / 32) % (mask + 1)=_
  rw [qIG _ (by omega),qH7 n]
  rfl
theorem qE6 {mask:Nat} {h:Int} (C:Cyc mask) {e:Nat} (he:e≤mask):∃ m,m≤mask + 13∧(lp mask h m).1=e:=by
 obtain ⟨k,hk,q⟩:=C _ (qKP (mask:=mask) (h:=h) 13) e he
 exact ⟨13 + k,by omega,by rw [qH7,q]⟩
theorem qJD {mask:Nat} {h:Int} (C:Cyc mask) {e:Nat} (he:e≤mask):∃ n,n < 10 * SetTable.turns mask∧(sq mask h n).j=e:=by
 obtain ⟨m,hm,q⟩:=qE6 (h:=h) C he
 refine ⟨lpN mask h m,?_,?_⟩
 ·have:=qEi (mask:=mask) (h:=h) m
  unfold SetTable.turns;omega
 ·rw [qB8];exact q
structure TbG (t:SetTable) (n:Nat):Prop where
 dum:t.dummies = #[]
 sz:t.place.size=n
 ris:Rz t.place
 le:∀ j∈t.place.toList,j≤t.mask
 room:n≤t.mask
theorem qBw:∀ (n:Nat) (l:List Nat),l.length < n -> ∃ e,e < n∧e ∉ l
 |0,l,h=>absurd h (BR _)
 |n + 1,l,h=>by
  by_cases hn:n∈l
  ·obtain ⟨e,he,hq⟩:=qBw n (l.filter (· ≠ n)) (by
    have:(l.filter (· ≠ n)).length < l.length:=by
     apply List.length_filter_lt_length_iff_exists.mpr
     exact ⟨n,hn,by simp⟩
    omega)
   refine ⟨e,by omega,fun q=>hq (List.mem_filter.mpr ⟨q,by simp;omega⟩)⟩
  ·exact ⟨n,by omega,hn⟩
theorem TbG.free {t:SetTable} {n:Nat} (T:TbG t n):∃ e,e≤t.mask∧e ∉ t.place.toList:=by
 obtain ⟨e,h1,h2⟩:=qBw (t.mask + 1) t.place.toList (by rw [AX,T.sz];have:=T.room;omega)
 exact ⟨e,by omega,h2⟩
theorem qA6 {P:Nat->Prop} (hd:∀ n,Decidable (P n)):∀ {n:Nat},P n -> ∃ k,k≤n∧P k ∧ ∀ m,m < k -> ¬ P m
 |0,h=>⟨0,AL _,h,fun m hm=>absurd hm (BR _)⟩
 |n + 1,h=>by
  by_cases hq:∃ m,m≤n∧P m
  ·obtain ⟨m,hm,hp⟩:=hq
   have:∀ (f:Nat) (m:Nat),m≤f->P m -> ∃ k,k≤m∧P k ∧ ∀ m',m' < k -> ¬ P m':=by
    intro f
    induction f with
    |zero =>
     intro m hm hp
     have:m=0:=by omega
     subst this
     exact ⟨0,AL _,hp,fun m hm=>absurd hm (BR _)⟩
    |succ f ih =>
     intro m hm hp
     by_cases hz:∃ m',m' < m∧P m'
     ·obtain ⟨m',h1,h2⟩:=hz
      obtain ⟨k,k1,k2,k3⟩:=ih m' (by omega) h2
      exact ⟨k,by omega,k2,k3⟩
     ·exact ⟨m,AL _,hp,fun m' h1 h2=>hz ⟨m',h1,h2⟩⟩
   obtain ⟨k,k1,k2,k3⟩:=this m m (AL _) hp
   exact ⟨k,by omega,k2,k3⟩
  ·exact ⟨n + 1,AL _,h,fun m hm hp=>hq ⟨m,by omega,hp⟩⟩
theorem TbG.first {t:SetTable} {n:Nat} (T:TbG t n) (C:Cyc t.mask) (h:Int):∃ k,k < 10 * SetTable.turns t.mask∧(sq t.mask h k).j ∉ t.place.toList ∧ ∀ m,m < k->(sq t.mask h m).j∈t.place.toList:=by
 obtain ⟨e,he,hq⟩:=T.free
 obtain ⟨k,hk,hj⟩:=qJD (h:=h) C he
 obtain ⟨k',k1,k2,k3⟩:=qA6 (P:=fun k=>(sq t.mask h k).j ∉ t.place.toList) (fun _=>inferInstance) (n:=k) (by rw [hj];exact hq)
 exact ⟨k',by omega,k2,fun m hm=>Decidable.not_not.mp (k3 m hm)⟩
theorem Yg (mask:Nat) (h:Int):∀ n,(sq mask h n).dummy=none
 |0=>rfl
 |n + 1=>by
  rw [sq];unfold qB0
  split
  ·exact Yg mask h n
  ·exact Yg mask h n
theorem qBF {t:SetTable} {n:Nat} (T:TbG t n) (f:Nat->Int) (h:Int) {k:Nat} (hk:(sq t.mask h k).j ∉ t.place.toList) (hb:∀ m,m < k->(sq t.mask h m).j∈t.place.toList):∀ (F m:Nat),m≤k->k - m < F ->
  ((∀ x,m≤x->x < k -> ∀ i,t.place.getD i 0=(sq t.mask h x).j->i < t.place.size->f i≠h)∧SetTable.probe.go t f h F (sq t.mask h m)=some (.empty (sq t.mask h k).j none)) ∨
  ∃ x i,m≤x∧x < k∧i < t.place.size∧t.place.getD i 0=(sq t.mask h x).j∧f i=h∧(∀ y,m≤y->y < x -> ∀ i,t.place.getD i 0=(sq t.mask h y).j->i < t.place.size->f i≠h)∧SetTable.probe.go t f h F (sq t.mask h m)=some (.candidate (sq t.mask h x).j i (sq t.mask h (x + 1)))
 |0,m,_,h2=>absurd h2 (BR _)
 |F + 1,m,h1,h2=>by
  rw [SetTable.probe.go]
  by_cases he:m=k
  ·subst he
   left
   refine ⟨fun x a b=>absurd b (by omega),?_⟩
   rw [qBJ T.dum hk,Yg]
  ·have hm:=hb m (by omega)
   obtain ⟨i,hi,e⟩:=mem_getD.mp hm
   have hsl:t.slot (sq t.mask h m).j = .live i:=by rw [← e];exact jj T.ris hi
   rw [hsl]
   dsimp only
   have uniq:∀ i',t.place.getD i' 0=(sq t.mask h m).j->i' < t.place.size->i'=i:=fun i' e' h'=>by
    rcases Nat.lt_trichotomy i' i with q |q |q
    ·have:=T.ris _ _ q hi;omega
    ·exact q
    ·have:=T.ris _ _ q h';omega
   by_cases hf:f i=h
   ·rw [AG (by rw [hf];exact At h)]
    right
    exact ⟨m,i,AL _,by omega,hi,e,hf,fun y a b=>absurd b (by omega),rfl⟩
   ·rw [AN (by simpa using hf)]
    have:=qBF T f h hk hb F (m + 1) (by omega) (by omega)
    rw [qIA]
    have hs:qB0 t.mask (sq t.mask h m)=sq t.mask h (m + 1):=rfl
    rw [hs]
    rcases this with ⟨a,b⟩ |⟨x,i',a,b,c,d,e1,e2,e3⟩
    ·left
     refine ⟨fun x h1 h2 i' e' h' => ?_,b⟩
     by_cases hx:x=m
     ·subst hx;rw [uniq i' e' h'];exact hf
     ·exact a x (by omega) h2 i' e' h'
    ·right
     refine ⟨x,i',by omega,b,c,d,e1,fun y h1 h2 i'' e' h' => ?_,e3⟩
     by_cases hx:y=m
     ·subst hx;rw [uniq i'' e' h'];exact hf
     ·exact e2 y (by omega) h2 i'' e' h'
def Rch {α:Type} (t:SetTable) (es:List (Int×α)):Prop := ∀ q∈t.place.toList.zip es,∃ m,(sq t.mask q.2.1 m).j=q.1 ∧ ∀ m',m' < m->(sq t.mask q.2.1 m').j∈t.place.toList
theorem qGr {α:Type} (xs:Array α) (p:Nat) (x:α):(SetTable.insertAt xs p x).toList=xs.toList.take p++x::xs.toList.drop p:=by
 unfold SetTable.insertAt
 simp [Array.toList_append,List.take_of_length_le]
theorem ris_list {xs:Array Nat}:Rz xs ↔ xs.toList.Pairwise (· < ·):=by
 rw [List.pairwise_iff_getElem]
 constructor
 ·intro R i j hi hj hij
  have:=R i j hij (by simpa using hj)
  rw [AR,AR,AT (by simpa using hi),AT (by simpa using hj)] at this
  simpa using this
 ·intro R i k hik hk
  have:=R i k (by simp;omega) (by simpa using hk) hik
  rw [AR,AR,AT (by omega),AT hk]
  simpa using this
theorem qG8 {xs:Array Nat} (R:Rz xs) {j:Nat}:∀ x∈xs.toList.take (SetTable.below xs j),x < j:=by
 intro x hx
 obtain ⟨i,hi,e⟩:=List.getElem_of_mem hx
 rw [Bh,AX] at hi
 have:=(WS R j).1 i (by omega)
 rw [AR,AT (by omega)] at this
 rw [List.getElem_take] at e
 simp at e this
 omega
theorem qCU {xs:Array Nat} (R:Rz xs) {j:Nat}:∀ x∈xs.toList.drop (SetTable.below xs j),j≤x:=by
 intro x hx
 obtain ⟨i,hi,e⟩:=List.getElem_of_mem hx
 rw [CP,AX] at hi
 have:=(WS R j).2.1 (SetTable.below xs j + i) (by omega) (by omega)
 rw [AR,AT (by omega)] at this
 rw [List.getElem_drop] at e
 simp at e this
 omega
theorem qHK {xs:Array Nat} (R:Rz xs) {j:Nat} (h:j ∉ xs.toList):Rz (SetTable.insertAt xs (SetTable.below xs j) j):=by
 rw [ris_list,qGr]
 have P:=ris_list.mp R
 rw [List.pairwise_append]
 refine ⟨P.sublist (List.take_sublist _ _),?_,?_⟩
 ·rw [Bk]
  refine ⟨fun x hx => ?_,P.sublist (List.drop_sublist _ _)⟩
  have:=qCU R x hx
  have:x≠j:=fun q=>h (by rw [← q];exact CU hx)
  omega
 ·intro a ha b hb
  have h1:=qG8 R a ha
  rcases AJ.mp hb with q |q
  ·omega
  ·have:=qCU R b q;omega
theorem qGK {α β:Type} {xs:List α} {ys:List β} {p:Nat} {x:α} {y:β} (hl:xs.length=ys.length):(xs.take p++x::xs.drop p).zip (ys.take p++y::ys.drop p)=(xs.zip ys).take p++(x,y)::(xs.zip ys).drop p:=by
 rw [List.zip_append (by simp [hl]),CG,List.zip_eq_zipWith,List.zip_eq_zipWith,List.zip_eq_zipWith,List.take_zipWith,List.drop_zipWith]
theorem qBI {α:Type} {t:SetTable} {es:Array (Int×α)} {h:Int} {x:α} {k:Nat} (T:TbG t es.size) (hr:es.size + 1≤t.mask) (R:Rch t es.toList) (hjm:(sq t.mask h k).j≤t.mask) (hk:(sq t.mask h k).j ∉ t.place.toList) (hb:∀ m,m < k->(sq t.mask h m).j∈t.place.toList) :
  TbG (t.put (sq t.mask h k).j).1 (es.size + 1)∧Rch (t.put (sq t.mask h k).j).1 (SetTable.insertAt es (t.put (sq t.mask h k).j).2 (h,x)).toList∧(SetTable.insertAt es (t.put (sq t.mask h k).j).2 (h,x)).toList.Perm ((h,x)::es.toList):=by
 have hp:(t.put (sq t.mask h k).j).1.place.toList=t.place.toList.take (SetTable.below t.place (sq t.mask h k).j)++(sq t.mask h k).j::t.place.toList.drop (SetTable.below t.place (sq t.mask h k).j):=qGr _ _ _
 have hmem:∀ j,j∈(t.put (sq t.mask h k).j).1.place.toList ↔ j=(sq t.mask h k).j∨j∈t.place.toList:=by
  intro j
  rw [hp,Ar,AJ]
  constructor
  ·rintro (q |q |q)
   ·exact .inr (CV q)
   ·exact .inl q
   ·exact .inr (CU q)
  ·rintro (q |q)
   ·exact .inr (.inl q)
   ·rw [← List.take_append_drop (SetTable.below t.place (sq t.mask h k).j) t.place.toList,Ar] at q
    rcases q with q |q
    ·exact .inl q
    ·exact .inr (.inr q)
 refine ⟨⟨?_,?_,qHK T.ris hk,?_,hr⟩,?_,?_⟩
 ·show (if SetTable.has t.dummies _=true then SetTable.eraseAt t.dummies _ else t.dummies) = #[]
  rw [T.dum,qCs];rfl
 ·rw [← AX,hp]
  have:=(WS T.ris (sq t.mask h k).j).2.2
  rw [AO,Bh,AU,CP,AX,T.sz] at *
  omega
 ·intro j hj
  rcases (hmem j).mp hj with q |q
  ·rw [q];exact hjm
  ·exact T.le j q
 ·intro q hq
  rw [hp,qGr] at hq
  have hq:q∈(t.place.toList.take (SetTable.below t.place (sq t.mask h k).j)++(sq t.mask h k).j::t.place.toList.drop (SetTable.below t.place (sq t.mask h k).j)).zip (es.toList.take (SetTable.below t.place (sq t.mask h k).j)++(h,x)::es.toList.drop (SetTable.below t.place (sq t.mask h k).j)):=hq
  rw [qGK (by rw [AX,AX,T.sz]),Ar,AJ] at hq
  have old:q∈t.place.toList.zip es.toList -> ∃ m,(sq t.mask q.2.1 m).j=q.1 ∧ ∀ m',m' < m->(sq t.mask q.2.1 m').j∈(t.put (sq t.mask h k).j).1.place.toList:=fun hq=>by
   obtain ⟨m,h1,h2⟩:=R q hq
   exact ⟨m,h1,fun m' hm=>(hmem _).mpr (.inr (h2 m' hm))⟩
  rcases hq with hq |hq |hq
  ·exact old (CV hq)
  ·subst hq
   exact ⟨k,rfl,fun m' hm=>(hmem _).mpr (.inr (hb m' hm))⟩
  ·exact old (CU hq)
 ·rw [qGr]
  refine List.perm_middle.trans ?_
  rw [List.take_append_drop]
structure Ow (mask:Nat) (owner:Array (Option Nat)) (hs:List Int) (js:List Nat):Prop where
 size:owner.size=mask + 1
 len:js.length=hs.length
 iff:∀ (j k:Nat),owner[j]? = some (some k) ↔ js[k]? = some j
 way:∀ (k:Nat) (h:Int) (j:Nat),hs[k]? = some h->js[k]? = some j -> ∃ m,(sq mask h m).j=j ∧ ∀ m',m' < m->(sq mask h m').j∈js
 le:∀ j∈js,j≤mask
theorem qAW {mask:Nat} {h:Int} {a:Nat}:∀ {b:Nat},a≤b->lpN mask h a≤lpN mask h b
 |0,q=>by
  have:a=0:=by omega
  subst this
  exact AL _
 |b + 1,q=>by
  by_cases e:a=b + 1
  ·subst e;exact AL _
  ·have:=qAW (mask:=mask) (h:=h) (a:=a) (b:=b) (by omega)
   rw [lpN];omega
theorem qIl {mask:Nat} {h:Int} {a b:Nat} (q:a < b):lpN mask h a < lpN mask h b:=by
 have:=qAW (mask:=mask) (h:=h) (show a + 1≤b by omega)
 rw [lpN] at this;omega
theorem qCj {mask:Nat} {owner:Array (Option Nat)} {hs:List Int} {js:List Nat} (O:Ow mask owner hs js) {h:Int} {k0:Nat} (hk:(sq mask h k0).j ∉ js) (hkm:(sq mask h k0).j≤mask) (hb:∀ m,m < k0->(sq mask h m).j∈js) :
  ∀ (F m:Nat),lpN mask h m≤k0->k0 < lpN mask h (m + F)->SetTable.layClean.free mask owner F (lp mask h m).1 (lp mask h m).2=some (sq mask h k0).j
 |0,m,h1,h2=>by rw [Nat.add_zero] at h2;omega
 |F + 1,m,h1,h2=>by
  rw [SetTable.layClean.free]
  have hrn:SetTable.runEnd mask (lp mask h m).1 + 1 - (lp mask h m).1=rn mask (lp mask h m).1 + 1:=by
   unfold rn SetTable.runEnd
   split <;> omega
  have occ:∀ k,k≤rn mask (lp mask h m).1->lpN mask h m + k < k0->(owner.getD ((lp mask h m).1 + k) (some 0)).isNone=false:=fun k a b=>by
   have:=hb _ b
   rw [qHn a] at this
   obtain ⟨i,hi⟩:=BS this
   have:=(O.iff _ _).mpr hi
   rw [AR,this];rfl
  rw [hrn]
  by_cases hq:k0≤lpN mask h m + rn mask (lp mask h m).1
  ·have ej:(sq mask h k0).j=(lp mask h m).1 + (k0 - lpN mask h m):=by
    have:=qHn (mask:=mask) (h:=h) (m:=m) (k:=k0 - lpN mask h m) (by omega)
    rw [show lpN mask h m + (k0 - lpN mask h m)=k0 by omega] at this
    exact this
   have hf:(List.range (rn mask (lp mask h m).1 + 1)).find? (fun k=>(owner.getD ((lp mask h m).1 + k) (some 0)).isNone)=some (k0 - lpN mask h m):=by
    rw [List.find?_range_eq_some]
    refine ⟨?_,BW.mpr (by omega),fun j hj => ?_⟩
    ·rw [← ej,AR,AT (by rw [O.size];omega)]
     cases hx:owner[(sq mask h k0).j]'(by rw [O.size];omega) with
     |none=>rfl
     |some k' =>
      exfalso
      refine hk (Aw ((O.iff _ k').mp ?_))
      rw [AT (by rw [O.size];omega),hx]
    ·rw [occ j (by omega) (by omega)];rfl
   rw [hf,ej]
  ·have hf:(List.range (rn mask (lp mask h m).1 + 1)).find? (fun k=>(owner.getD ((lp mask h m).1 + k) (some 0)).isNone)=none:=by
    rw [List.find?_eq_none]
    intro k hk'
    rw [occ k (by have:=BW.mp hk';omega) (by have:=BW.mp hk';omega)]
    simp
   rw [hf]
   exact qCj O hk hkm hb F (m + 1) (by rw [lpN];omega) (by rw [show m + 1 + F=m + (F + 1) by omega];exact h2)
theorem qHv {mask:Nat} {h:Int} (n:Nat):(sq mask h n).j≤mask:=by
 have:∀ n,(sq mask h n).j + (sq mask h n).more≤mask∧(sq mask h n).i≤mask:=by
  intro n
  have key:∀ i,i≤mask->i + (SetTable.runEnd mask i - i)≤mask:=fun i hi=>by
   unfold SetTable.runEnd
   split <;> omega
  induction n with
  |zero =>
   have hi:SetTable.bits h % (mask + 1)≤mask:=CL (Nat.mod_lt _ (Nat.succ_pos _))
   exact ⟨key _ hi,hi⟩
  |succ n ih =>
   rw [sq];unfold qB0
   split
   ·rename_i hm
    exact ⟨by show (sq mask h n).j + 1 + ((sq mask h n).more - 1)≤mask;omega,ih.2⟩
   ·have hi:(SetTable.leap mask (sq mask h n).i (sq mask h n).perturb).1≤mask:=CL (Nat.mod_lt _ (Nat.succ_pos _))
    exact ⟨key _ hi,hi⟩
 have:=(this n).1
 omega
theorem Ow.step {mask:Nat} {owner:Array (Option Nat)} {hs:List Int} {js:List Nat} (O:Ow mask owner hs js) (C:Cyc mask) (hl:hs.length≤mask) (h:Int):∃ j,SetTable.layClean.free mask owner (SetTable.turns mask) (SetTable.bits h % (mask + 1)) (SetTable.bits h)=some j∧Ow mask (owner.setIfInBounds j (some hs.length)) (hs++[h]) (js++[j]):=by
 obtain ⟨e,he,hq⟩:=qBw (mask + 1) js (by rw [O.len];omega)
 obtain ⟨m,hm,q⟩:=qE6 (h:=h) C (show e≤mask by omega)
 obtain ⟨k0,k1,k2,k3⟩:=qA6 (P:=fun k=>(sq mask h k).j ∉ js) (fun _=>inferInstance) (n:=lpN mask h m) (by rw [qB8,q];exact hq)
 have hb:∀ m,m < k0->(sq mask h m).j∈js:=fun m hm=>Decidable.not_not.mp (k3 m hm)
 have hj:=qHv (mask:=mask) (h:=h) k0
 refine ⟨_,qCj O k2 hj hb (SetTable.turns mask) 0 (BJ _) ?_,?_⟩
 ·rw [Nat.zero_add]
  refine BY k1 (qIl ?_)
  unfold SetTable.turns;omega
 ·have hmem:∀ x,x∈js++[(sq mask h k0).j] ↔ x∈js∨x=(sq mask h k0).j:=fun x=>by simp
  refine ⟨by simp [O.size],by simp [O.len],fun j k => ?_,fun k h' j h1 h2 => ?_,fun j hj' => ?_⟩
  ·rw [Array.getElem?_setIfInBounds]
   by_cases hjj:(sq mask h k0).j=j
   ·rw [AG hjj,AG (by rw [O.size];omega)]
    constructor
    ·intro z
     cases z
     rw [Af (by rw [O.len];exact AL _),O.len,Bm]
     simp [hjj]
    ·intro z
     by_cases hkl:k < js.length
     ·rw [Ae hkl] at z
      exact absurd (by rw [hjj];exact Aw z) k2
     ·rw [Af (by omega)] at z
      have:k - js.length=0:=by
       have:=(AQ.mp z).1
       simp at this;omega
      rw [show k=hs.length by have:=O.len;omega]
   ·rw [AN hjj,O.iff]
    constructor
    ·intro z
     rw [Ae (AQ.mp z).1];exact z
    ·intro z
     by_cases hkl:k < js.length
     ·rwa [Ae hkl] at z
     ·rw [Af (by omega)] at z
      have h0:=(AQ.mp z).1
      have:k - js.length=0:=by simp at h0;omega
      rw [this] at z
      simp at z
      exact absurd z hjj
  ·by_cases hkl:k < js.length
   ·rw [Ae hkl] at h2
    rw [Ae (by rw [← O.len];exact hkl)] at h1
    obtain ⟨m,a,b⟩:=O.way k h' j h1 h2
    exact ⟨m,a,fun m' hm'=>(hmem _).mpr (.inl (b m' hm'))⟩
   ·rw [Af (by omega)] at h2
    rw [Af (by have:=O.len;omega)] at h1
    have h0:=(AQ.mp h2).1
    have z:k - js.length=0:=by simp at h0;omega
    rw [← O.len,z] at h1
    rw [z] at h2
    simp at h1 h2
    subst h1;subst h2
    exact ⟨k0,rfl,fun m' hm'=>(hmem _).mpr (.inl (hb m' hm'))⟩
  ·rcases (hmem j).mp hj' with q |q
   ·exact O.le j q
   ·rw [q];exact hj
theorem qAi {mask:Nat} (C:Cyc mask):∀ (r hs:List Int) (owner:Array (Option Nat)) (js:List Nat),Ow mask owner hs js->hs.length + r.length≤mask + 1 ->
  ∃ owner' js',r.foldl (fun acc h=>do
   let (owner,k) ← acc
   let j ← SetTable.layClean.free mask owner (SetTable.turns mask) (SetTable.bits h % (mask + 1)) (SetTable.bits h)
   pure (owner.setIfInBounds j (some k),k + 1)) (some (owner,hs.length))=some (owner',(hs++r).length)∧Ow mask owner' (hs++r) js'
 |[],hs,owner,js,O,_=>⟨owner,js,by simp,by simpa using O⟩
 |h::r,hs,owner,js,O,hl=>by
  rw [AU] at hl
  obtain ⟨j,e,O'⟩:=O.step C (by omega) h
  obtain ⟨ow,js',e2,O2⟩:=qAi C r (hs++[h]) _ _ O' (by rw [AO,Ag];omega)
  refine ⟨ow,js',?_,by simpa using O2⟩
  rw [Bl]
  have:(do
   let (owner,k) ← some (owner,hs.length)
   let j ← SetTable.layClean.free mask owner (SetTable.turns mask) (SetTable.bits h % (mask + 1)) (SetTable.bits h)
   pure (owner.setIfInBounds j (some k),k + 1))=some (owner.setIfInBounds j (some hs.length),hs.length + 1):=by
   show (do
    let j ← SetTable.layClean.free mask owner (SetTable.turns mask) (SetTable.bits h % (mask + 1)) (SetTable.bits h)
    pure (owner.setIfInBounds j (some hs.length),hs.length + 1))=_
   rw [e];rfl
  rw [this]
  simpa using e2
theorem qEw {mask:Nat} (C:Cyc mask) (hashes:Array Int) (hl:hashes.size≤mask + 1):∃ owner js,SetTable.layClean mask hashes=some owner∧Ow mask owner hashes.toList js:=by
 obtain ⟨owner,js,e,O⟩:=qAi C hashes.toList [] (Array.replicate (mask + 1) none) [] ⟨by simp,rfl,fun j k=>by
  constructor
  ·intro z
   rw [Array.getElem?_replicate] at z
   split at z <;> simp at z
  ·intro z;simp at z,fun k h j h1 h2=>by simp at h1,fun j h=>by simp at h⟩ (by simpa using hl)
 refine ⟨owner,js,?_,by simpa using O⟩
 unfold SetTable.layClean
 rw [← Array.foldl_toList]
 have e':=e
 simp only [Ce] at e'
 have h0:(some (Array.replicate (mask + 1) none,([]:List Int).length):Option (Array (Option Nat)×Nat))=some (Array.replicate (mask + 1) none,0):=rfl
 rw [h0] at e'
 rw [e']
 rfl
theorem Za {α:Type} [DecidableEq α]:∀ {l m:List α},l.Nodup->m.Nodup->(∀ x,x∈l ↔ x∈m)->l.Perm m
 |[],m,_,_,h=>by
  cases m with
  |nil=>exact .refl _
  |cons y m=>exact absurd ((h y).mpr AI) (by simp)
 |x::l,m,h1,h2,h=>by
  have hx:=(h x).mp AI
  refine List.Perm.trans ?_ (List.perm_cons_erase hx).symm
  refine List.Perm.cons x (Za (BM.mp h1).2 (h2.erase x) fun y => ?_)
  rw [h2.mem_erase_iff]
  constructor
  ·intro hy
   exact ⟨fun z=>(BM.mp h1).1 (by rw [← z];exact hy),(h y).mp (AD _ hy)⟩
  ·rintro ⟨a,b⟩
   rcases AJ.mp ((h y).mpr b) with q |q
   ·exact absurd q a
   ·exact q
theorem qFF {α:Type} (l:List α):(List.range l.length).filterMap (fun i=>l[i]?)=l:=by
 induction l with
 |nil=>rfl
 |cons x l ih =>
  rw [AU,CI,BH]
  show x::((List.range l.length).map Nat.succ).filterMap _=_
  rw [List.filterMap_map]
  congr 1
theorem qFT {α β:Type} {f:α->Option β} {g:α->β}:∀ {l:List α},(∀ x∈l,f x=some (g x))->l.filterMap f=l.map g
 |[],_=>rfl
 |x::l,h=>by rw [BH,h x AI,Ap,qFT fun y hy=>h y (AD _ hy)]
theorem qGS {α:Type} [Inhabited α] {mask finger moves:Nat} {led plain:Bool} (C:Cyc mask) {es:Array (Int×α)} (hl:es.size≤mask):∃ t order,SetTable.laid mask finger moves led plain (es.map (·.1))=some (t,order)∧t.mask=mask∧t.led=led∧t.plain=plain ∧
  (order.filterMap (es[·]?)).toList.Perm es.toList∧TbG t es.size∧Rch t (order.filterMap (es[·]?)).toList:=by
 obtain ⟨owner,js,e,O⟩:=qEw C (es.map (·.1)) (by simp;omega)
 refine ⟨_,_,by unfold SetTable.laid;rw [e];rfl,rfl,rfl,rfl,?_⟩
 generalize hL:(List.range (mask + 1)).filterMap (fun j=>(owner.getD j none).map (j,·))=L
 have hmem:∀ q,q∈L ↔ js[q.2]? = some q.1:=by
  intro ⟨j,k⟩
  rw [← hL,CC]
  constructor
  ·rintro ⟨a,ha,hb⟩
   have ha:=BW.mp ha
   rw [AR,AT (by rw [O.size];omega)] at hb
   cases hx:owner[a]'(by rw [O.size];omega) with
   |none=>rw [hx] at hb;simp at hb
   |some k' =>
    rw [hx] at hb
    simp at hb
    obtain ⟨rfl,rfl⟩:=hb
    exact (O.iff _ _).mp (by rw [AT (by rw [O.size];omega),hx])
  ·intro z
   have z':=(O.iff _ _).mpr z
   refine ⟨j,BW.mpr (by have:=O.le j (Aw z);omega),?_⟩
   rw [AR,z'];rfl
 have hlen:js.length=es.size:=by rw [O.len];simp
 have hinj:∀ a b j,js[a]? = some j->js[b]? = some j->a=b:=fun a b j h1 h2=>by
  have h1:=(O.iff j a).mpr h1
  have h2:=(O.iff j b).mpr h2
  rw [h1] at h2;cases h2;rfl
 have hpw:L.Pairwise (fun p q=>p.1 < q.1):=by
  rw [← hL,List.pairwise_filterMap]
  refine List.Pairwise.imp ?_ List.pairwise_lt_range
  intro a b hab x hx y hy
  simp only [Option.map_eq_some_iff] at hx hy
  obtain ⟨_,_,rfl⟩:=hx
  obtain ⟨_,_,rfl⟩:=hy
  exact hab
 have hnd:(L.map (·.2)).Nodup:=by
  rw [List.nodup_iff_pairwise_ne,Bq]
  refine List.Pairwise.imp_of_mem (R:=fun p q=>p.1 < q.1) ?_ hpw
  intro a b ha hb hab z
  have h1:=(hmem a).mp ha
  have h2:=(hmem b).mp hb
  rw [z,h2] at h1
  have:=Am h1
  omega
 have hperm:(L.map (·.2)).Perm (List.range es.size):=by
  refine Za hnd List.nodup_range fun k => ?_
  rw [BW,Al]
  constructor
  ·rintro ⟨q,hq,rfl⟩
   have:=(AQ.mp ((hmem q).mp hq)).1
   omega
  ·intro hk
   have:js[k]? = some (js[k]'(by omega)):=AE _
   exact ⟨(js[k]'(by omega),k),(hmem _).mpr this,rfl⟩
 have hLl:L.length=es.size:=by have:=hperm.length_eq;simpa using this
 have hfm:(((L.map (·.2)).toArray.filterMap (es[·]?)).toList)=L.map fun q=>es.toList.getD q.2 (0,default):=by
  rw [List.filterMap_toArray]
  show (L.map (·.2)).filterMap (fun i=>es[i]?)=_
  rw [List.filterMap_map]
  refine qFT fun q hq => ?_
  have:=(AQ.mp ((hmem q).mp hq)).1
  show es[q.2]? = _
  rw [AT (by omega),AK,A3,AT (by omega)]
  rfl
 refine ⟨?_,⟨rfl,by simp [hLl],?_,?_,hl⟩,?_⟩
 ·have h1:((L.map (·.2)).toArray.filterMap (es[·]?)).toList=(L.map (·.2)).filterMap (fun i=>es.toList[i]?):=by
   rw [List.filterMap_toArray]
   simp
  rw [h1]
  refine (hperm.filterMap _).trans ?_
  have:=qFF es.toList
  rw [AX] at this
  rw [this]
 ·rw [ris_list]
  show (L.map (·.1)).Pairwise _
  rw [Bq];exact hpw
 ·intro j hj
  have hj:j∈L.map (·.1):=hj
  obtain ⟨q,hq,rfl⟩:=Al.mp hj
  exact O.le _ (Aw ((hmem q).mp hq))
 ·intro q hq
  rw [hfm] at hq
  have hq:q∈(L.map (·.1)).zip (L.map fun q=>es.toList.getD q.2 (0,default)):=hq
  rw [List.zip_map,Al] at hq
  obtain ⟨⟨u,v⟩,huv,rfl⟩:=hq
  have huv':u=v∧u∈L:=by
   have:∀ (l:List (Nat×Nat)) (p:(Nat×Nat)×(Nat×Nat)),p∈l.zip l->p.1=p.2∧p.1∈l:=by
    intro l
    induction l with
    |nil=>intro p hp;simp at hp
    |cons a l ih =>
     intro p hp
     rw [CG] at hp
     rcases AJ.mp hp with z |z
     ·subst z;exact ⟨rfl,AI⟩
     ·exact ⟨(ih p z).1,AD _ (ih p z).2⟩
   exact this L _ huv
  obtain ⟨rfl,hu⟩:=huv'
  have hj:=(hmem u).mp hu
  have hlt:=(AQ.mp hj).1
  have hh:(es.map (·.1)).toList[u.2]? = some (es.toList.getD u.2 (0,default)).1:=by
   rw [AK,A3,A3,Array.getElem?_map,AT (show u.2 < es.size by omega)]
   rfl
  obtain ⟨m,h1,h2⟩:=O.way _ _ _ hh hj
  refine ⟨m,h1,fun m' hm' => ?_⟩
  have:=h2 m' hm'
  obtain ⟨i,hi⟩:=BS this
  show _∈L.map (·.1)
  exact Al.mpr ⟨((sq mask (es.toList.getD u.2 (0,default)).1 m').j,i),(hmem _).mpr hi,rfl⟩
end ET
end
section
namespace ET
open PySem PySem.Spec PyProof.Rows L2 EX
section
variable {prog:Program} {w:World} {A:Around} {E:Value->Shared->Prop} {s:Shared}
abbrev TK (prog:Program) (w:World) (h:Heap) (ks:List Int) (b:Addr):Prop:=IsTupleKey (intKind prog w) h ks b
abbrev hsT (prog:Program) (w:World) (ks:List Int):Int:=tupleKeyHash (intKind prog w) ks
theorem ZL {ks:List Int} {vs:List Value} (h:ItemsAre (intKind prog w) ks vs):∀ v∈vs,∃ n t,v=Value.int n t:=by
 induction h with
 |nil=>intro v hv;cases hv
 | @cons k v ks vs h1 _ ih =>
  intro u hu
  rcases AJ.mp hu with q |q
  ·subst q
   cases u with
   |int n t=>exact ⟨n,t,rfl⟩
   |_=>exact Bool.noConfusion (show false=true from h1)
  ·exact ih u q
theorem TK.keep {h h':Heap} {ks:List Int} {b:Addr} (k:TK prog w h ks b) (e:∀ o,h.get? b=some o->h'.get? b=some o):TK prog w h' ks b:=by
 obtain ⟨o,its,n,h1,h2⟩:=k
 exact ⟨o,its,n,e o h1,h2⟩
theorem hbv {ks:List Int} {b:Addr} {Q:Bool->Shared->Prop} (k:TK prog w s.heap ks b) (h:Q true s):wpAny (model prog w) A (hashByValue 8 (.ref b)) Q E s:=by
 have hT:=k.typeIs
 obtain ⟨o,items,n,ho,_,hd,hi⟩:=k
 unfold hashByValue
 refine AA (wpAny_specialOf hT F.slot_tuple_hash.lookup ?_)
 dsimp only
 refine AA (BO ho hd ?_)
 show wpAny _ _ (forIn items _ _ >>= _) _ _ s
 refine AA ?_
 rw [← Array.forIn_toList]
 refine wpAny_forIn_list _ (fun rest r s'=>r.1=none∧s'=s ∧ ∀ v∈rest,∃ n t,v=Value.int n t) _ ?_ ?_ _ _ ⟨rfl,rfl,ZL hi⟩
 ·rintro v rest r s' ⟨hr,rfl,hall⟩
  obtain ⟨n,t,rfl⟩:=hall v AI
  refine AA (An (a:=true) (by rw [hashByValue_scannable 7 (x := .int n t) rfl];rfl) ?_)
  simp only [Bool.not_true,BF,Bt]
  exact AB ⟨rfl,rfl,fun u hu'=>hall u (AD _ hu')⟩
 ·rintro ⟨r1,r2⟩ s' ⟨hr,rfl,_⟩
  simp only at hr
  subst hr
  exact AB h
theorem oac {ks:List Int} {b:Addr} {Q:Bool->Shared->Prop} (k:TK prog w s.heap ks b) (h:Q false s):wpAny (model prog w) A (ofAClassStatement 8 (.ref b)) Q E s:=by
 have hT:=k.typeIs
 obtain ⟨o,items,n,ho,_,hd,hi⟩:=k
 unfold ofAClassStatement
 refine AA (Bf hT ?_)
 dsimp only
 rw [AG (by decide)]
 refine AA (AB ?_)
 rw [AN (by decide)]
 refine AA (BO ho hd ?_)
 dsimp only
 refine AA ?_
 rw [← Array.forIn_toList]
 refine wpAny_forIn_list _ (fun rest r s'=>r.1=none∧s'=s ∧ ∀ v∈rest,∃ n t,v=Value.int n t) _ ?_ ?_ _ _ ⟨rfl,rfl,ZL hi⟩
 ·rintro v rest r s' ⟨hr,rfl,hall⟩
  obtain ⟨n,t,rfl⟩:=hall v AI
  refine AA (An (a:=false) (by unfold ofAClassStatement;rfl) ?_)
  rw [AN (by decide)]
  exact AB ⟨rfl,rfl,fun u hu'=>hall u (AD _ hu')⟩
 ·rintro ⟨r1,r2⟩ s' ⟨hr,rfl,_⟩
  simp only at hr
  subst hr
  exact AB h
theorem qK2 {ks:List Int} {b:Addr} {Q:Bool->Shared->Prop} (k:TK prog w s.heap ks b) (l:List Value) (hl:∀ v∈l,∃ c ks',v = .ref c∧TK prog w s.heap ks' c) (h:Q false s):wpAny (model prog w) A (searchCouldBeSeen (.ref b) l) Q E s:=by
 unfold searchCouldBeSeen
 refine AA ?_
 refine wpAny_forIn_list _ (fun rest r s'=>r.1=none∧s'=s ∧ ∀ v∈rest,∃ c ks',v = .ref c∧TK prog w s.heap ks' c) _ ?_ ?_ _ _ ⟨rfl,rfl,hl⟩
 ·rintro v rest r s' ⟨hr,rfl,hall⟩
  obtain ⟨c,ks',rfl,k'⟩:=hall v AI
  dsimp only
  by_cases hbc:(b==c || (carriedByValue (.ref b)&&carriedByValue (.ref c)))=true
  ·rw [AG hbc]
   exact AB ⟨rfl,rfl,fun u hu'=>hall u (AD _ hu')⟩
  ·rw [AN hbc]
   refine AA (wpAny_eqIsQuiet_tuple k ?_)
   rw [AN (by decide)]
   refine AA (wpAny_eqIsQuiet_tuple k' ?_)
   rw [AN (by decide)]
   refine AA (oac k ?_)
   rw [AN (by decide)]
   refine AA (oac k' ?_)
   rw [AN (by decide)]
   exact AB ⟨rfl,rfl,fun u hu'=>hall u (AD _ hu')⟩
 ·rintro ⟨r1,r2⟩ s' ⟨hr,rfl,_⟩
  simp only at hr
  subst hr
  exact AB h
inductive EsT (prog:Program) (w:World) (h:Heap):List (Int×Value)->List (List Int)->Prop
 |nil:EsT prog w h [] []
 |cons {ks:List Int} {b:Addr} {l:List (Int×Value)} {kss:List (List Int)}:TK prog w h ks b->EsT prog w h l kss->EsT prog w h ((hsT prog w ks,.ref b)::l) (ks::kss)
theorem EsT.len {h:Heap} {l:List (Int×Value)} {kss:List (List Int)} (e:EsT prog w h l kss):l.length=kss.length:=by
 induction e with
 |nil=>rfl
 |cons _ _ ih=>rw [AU,AU,ih]
theorem EsT.keep {h h':Heap} {l:List (Int×Value)} {kss:List (List Int)} (e:EsT prog w h l kss) (k:∀ b ks,TK prog w h ks b->TK prog w h' ks b):EsT prog w h' l kss:=by
 induction e with
 |nil=>exact .nil
 |cons a _ ih=>exact .cons (k _ _ a) ih
theorem EsT.get {h:Heap} {l:List (Int×Value)} {kss:List (List Int)} (e:EsT prog w h l kss):∀ {i:Nat} {x:Int×Value},l[i]? = some x -> ∃ ks b,kss[i]? = some ks∧x=(hsT prog w ks,.ref b)∧TK prog w h ks b:=by
 induction e with
 |nil=>intro i x hx;simp at hx
 | @cons ks b l kss a _ ih =>
  intro i x hx
  cases i with
  |zero=>simp at hx;exact ⟨ks,b,rfl,hx.symm,a⟩
  |succ i=>simp at hx;simpa using ih hx
theorem EsT.get' {h:Heap} {l:List (Int×Value)} {kss:List (List Int)} (e:EsT prog w h l kss):∀ {i:Nat} {ks:List Int},kss[i]? = some ks -> ∃ b,l[i]? = some (hsT prog w ks,.ref b)∧TK prog w h ks b:=by
 induction e with
 |nil=>intro i x hx;simp at hx
 | @cons ks b l kss a _ ih =>
  intro i x hx
  cases i with
  |zero=>simp at hx;subst hx;exact ⟨b,rfl,a⟩
  |succ i=>simp at hx;simpa using ih hx
theorem EsT.perm {h:Heap} {l l':List (Int×Value)} (p:l.Perm l'):∀ {kss:List (List Int)},EsT prog w h l kss -> ∃ kss',kss.Perm kss'∧EsT prog w h l' kss':=by
 induction p with
 |nil=>intro kss e;exact ⟨kss,.refl _,e⟩
 |cons x _ ih =>
  intro kss e
  cases e with
  |cons a e =>
   obtain ⟨k',q,r⟩:=ih e
   exact ⟨_,q.cons _,.cons a r⟩
 |swap x y l =>
  intro kss e
  cases e with
  |cons a e =>
   cases e with
   |cons b e=>exact ⟨_,.swap _ _ _,.cons b (.cons a e)⟩
 |trans _ _ ih1 ih2 =>
  intro kss e
  obtain ⟨k1,q1,r1⟩:=ih1 e
  obtain ⟨k2,q2,r2⟩:=ih2 r1
  exact ⟨k2,q1.trans q2,r2⟩
theorem EsT.mem {h:Heap} {l:List (Int×Value)} {kss:List (List Int)} (e:EsT prog w h l kss):∀ x∈l,∃ ks b,ks∈kss∧x=(hsT prog w ks,.ref b)∧TK prog w h ks b:=by
 intro x hx
 obtain ⟨i,hi⟩:=BS hx
 obtain ⟨ks,b,h1,h2,h3⟩:=e.get hi
 exact ⟨ks,b,Aw h1,h2,h3⟩
def Lv (mask n:Nat):Prop:=(mask=7∧n≤4)∨(mask=31∧n≤18)∨(mask=127∧n≤76)∨(mask=511∧n≤306)
theorem Lv.cyc {mask n:Nat} (h:Lv mask n):Cyc mask:=by
 rcases h with ⟨rfl,_⟩ |⟨rfl,_⟩ |⟨rfl,_⟩ |⟨rfl,_⟩
 ·exact qLF
 ·exact qJx
 ·exact qJZ
 ·exact qIh
structure TbT (w:World) (t:SetTable) (es:Array (Int×Value)):Prop where
 g:TbG t es.size
 r:Rch t es.toList
 lv:Lv t.mask es.size
 led:t.led = !byT w
 pl:t.plain=true
structure SetT (prog:Program) (w:World) (h:Heap) (a:Addr) (es:Array (Int×Value)) (ep:Nat) (t:SetTable) (kss:List (List Int)):Prop where
 ex:∃ o,h.get? a=some o∧o.ExactSet∧o.data=Data.set es ep t
 el:EsT prog w h es.toList kss
 nd:kss.Nodup
 tb:TbT w t es
theorem JU {t:SetTable} {n:Nat} (T:TbG t n):t.fits n=true:=by
 unfold SetTable.fits
 rw [Aj]
 refine ⟨by rw [T.sz];exact At _,Ai ?_⟩
 unfold SetTable.fill
 rw [T.dum,T.sz]
 exact T.room
theorem qEL {t:SetTable} {n:Nat} (h:Lv t.mask n):t.gaveWay=false:=by
 unfold SetTable.gaveWay
 rcases h with ⟨h,_⟩ |⟨h,_⟩ |⟨h,_⟩ |⟨h,_⟩ <;> rw [h] <;> rfl
theorem qFW {a:Addr} {es:Array (Int×Value)} {ep:Nat} {t:SetTable} {kss:List (List Int)} {ks:List Int} {b:Addr} {adding:Bool} {Q:SetFound->Shared->Prop} (hu:A.units < cLine) (S:SetT prog w s.heap a es ep t kss) (k:TK prog w s.heap ks b) {k0:Nat}
  (hk:(sq t.mask (hsT prog w ks) k0).j ∉ t.place.toList) (hb:∀ m,m < k0->(sq t.mask (hsT prog w ks) m).j∈t.place.toList) (hk0:k0 < 10 * SetTable.turns t.mask)
  (h1:ks∈kss -> ∀ oi,(adding=false->oi.isSome=true)->Q (.there oi) s) (h2:ks ∉ kss->Q (.free (sq t.mask (hsT prog w ks) k0).j false) s) :
  ∀ (f m:Nat) (st:Option SetTable.Probe),m≤k0->k0 - m < f->st.getD (t.probeStart (hsT prog w ks))=sq t.mask (hsT prog w ks) m->(∀ y,y < m -> ∀ i,t.place.getD i 0=(sq t.mask (hsT prog w ks) y).j->i < t.place.size->kss[i]? ≠ some ks) ->
   wpAny (model prog w) A (setSearchFrom a (.ref b) (hsT prog w ks) adding f st) Q E s
 |0,m,st,_,hf,_,_=>absurd hf (BR _)
 |f + 1,m,st,hm,hf,hst,hn=>by
  obtain ⟨o,ho,hx,hd⟩:=S.ex
  have hfit:=JU S.tb.g
  have hsz:t.place.size=es.size:=S.tb.g.sz
  have hkl:es.size=kss.length:=by rw [← S.el.len,AX]
  rw [setSearchFrom]
  refine AA (A5 ho hd hfit ?_)
  dsimp only
  rw [qEL S.tb.lv]
  simp only [BF,Bt]
  rw [hst]
  have hp:=qBF S.tb.g (fun i=>(es[i]?.map (·.1)).getD 0) (hsT prog w ks) hk hb (10 * SetTable.turns t.mask) m hm (by omega)
  rcases hp with ⟨hall,e⟩ |⟨x,i,hx1,hx2,hi,hpl,hfi,hall,e⟩
  ·generalize hg:t.probe _ (hsT prog w ks) (sq t.mask (hsT prog w ks) m)=pr
   have e2:=hg.symm.trans e
   subst e2
   dsimp only
   refine AB (h2 fun hmem => ?_)
   obtain ⟨i,hi⟩:=BS hmem
   have hil:i < es.size:=by rw [hkl];exact (AQ.mp hi).1
   obtain ⟨c,hc,_⟩:=S.el.get' hi
   have hz:(t.place.getD i 0,(hsT prog w ks,Value.ref c))∈t.place.toList.zip es.toList:=by
    refine Aw (i:=i) ?_
    rw [List.getElem?_zip_eq_some]
    refine ⟨?_,hc⟩
    rw [A3,AT (by omega),AR,AT (by omega)]
    rfl
   obtain ⟨y,hy1,hy2⟩:=S.tb.r _ hz
   have hyk:y < k0:=by
    rcases Nat.lt_trichotomy y k0 with q |q |q
    ·exact q
    ·subst q;exact absurd (by rw [hy1];exact mem_getD.mpr ⟨i,by omega,rfl⟩) hk
    ·exact absurd (hy2 k0 q) hk
   by_cases hym:y < m
   ·exact hn y hym i hy1.symm (by omega) hi
   ·refine hall y (by omega) hyk i hy1.symm (by omega) ?_
    show (es[i]?.map (·.1)).getD 0=_
    rw [← A3,hc];rfl
  ·generalize hg:t.probe _ (hsT prog w ks) (sq t.mask (hsT prog w ks) m)=pr
   have e2:=hg.symm.trans e
   subst e2
   dsimp only
   have hie:i < es.size:=by omega
   obtain ⟨ks',c,hks',hc,kc⟩:=S.el.get (i:=i) (x:=es[i]) (by rw [A3,AT hie])
   have hsl:t.slot (sq t.mask (hsT prog w ks) x).j = .live i:=by rw [← hpl];exact jj S.tb.g.ris hi
   cases hled:t.led
   case' true=>simp only [Bool.not_true,BF,Bt]
   case' false =>
    simp only [Bool.not_false,Ca]
    refine AA (qK2 k _ (fun v hv=>(by
     obtain ⟨e',he',rfl⟩:=Al.mp hv
     have he':e'∈es.toList:=Array.mem_toList_iff.mpr (Array.mem_filter.mp (Array.mem_toList_iff.mp he')).1
     obtain ⟨ks'',c',_,hh,kk⟩:=S.el.mem _ he'
     exact ⟨c',ks'',by rw [hh],kk⟩)) ?_)
    simp only [BF,Bt]
   all_goals
    rw [AT hie,hc]
    dsimp only
    refine AA (Au (wpAny_eqBool_tuple hu kc k ?_))
    refine AA (A5 ho hd hfit ?_)
    dsimp only
    by_cases hq:ks'=ks
    ·subst hq
     rw [Ai rfl]
     have hmem:ks'∈kss:=Aw hks'
     cases adding with
     |true=>exact AB (h1 hmem none fun z=>by cases z)
     |false =>
      simp only [Bool.false_and,BF,Bt]
      rw [show t.sameMemory t.moves t.mask=some true by unfold SetTable.sameMemory;rw [AG (At _)]]
      dsimp only
      rw [AG rfl,hsl]
      dsimp only
      rw [AT hie,hc]
      dsimp only
      refine AA (wpAny_isSame_ref_self (AA (AB ?_)))
      rw [AG rfl]
      dsimp only
      exact AB (h1 hmem (some i) fun _=>rfl)
    ·rw [Ac hq]
     rw [B5]
     simp only [BF,Bt]
     rw [show t.sameMemory t.moves t.mask=some true by unfold SetTable.sameMemory;rw [AG (At _)]]
     dsimp only
     rw [AG rfl,hsl]
     dsimp only
     rw [AT hie,hc]
     dsimp only
     refine AA (wpAny_isSame_ref_self (AA (AB ?_)))
     rw [AG rfl]
     dsimp only
     refine qFW hu S k hk hb hk0 h1 h2 f (x + 1) _ (by omega) (by omega) rfl fun y hy j hj hjl => ?_
     by_cases hym:y < m
     ·exact hn y hym j hj hjl
     ·have uniq:t.place.getD j 0=t.place.getD i 0->j=i:=fun e'=>by
       rcases Nat.lt_trichotomy j i with q |q |q
       ·have:=S.tb.g.ris _ _ q hi;omega
       ·exact q
       ·have:=S.tb.g.ris _ _ q hjl;omega
      by_cases hyx:y=x
      ·subst hyx
       rw [uniq (hj.trans hpl.symm),hks']
       intro z;cases z;exact hq rfl
      ·intro z
       refine hall y (by omega) (by omega) j hj hjl ?_
       obtain ⟨c',hc',_⟩:=S.el.get' z
       show (es[j]?.map (·.1)).getD 0=_
       rw [← A3,hc'];rfl
theorem SetT.first {h:Heap} {a:Addr} {es:Array (Int×Value)} {ep:Nat} {t:SetTable} {kss:List (List Int)} (S:SetT prog w h a es ep t kss) (hs:Int):∃ k,k < 10 * SetTable.turns t.mask∧(sq t.mask hs k).j ∉ t.place.toList ∧ ∀ m,m < k->(sq t.mask hs m).j∈t.place.toList:=S.tb.g.first S.tb.lv.cyc hs
theorem qAc {mask n:Nat} (h:Lv mask n):10 * SetTable.turns mask < 100000:=by
 unfold SetTable.turns
 rcases h with ⟨h,_⟩ |⟨h,_⟩ |⟨h,_⟩ |⟨h,_⟩ <;> omega
theorem qGq {a:Addr} {es:Array (Int×Value)} {ep:Nat} {t:SetTable} {kss:List (List Int)} {ks:List Int} {b:Addr} {adding:Bool} {Q:SetFound->Shared->Prop} (hu:A.units < cLine) (S:SetT prog w s.heap a es ep t kss) (k:TK prog w s.heap ks b)
  (h1:ks∈kss -> ∀ oi,(adding=false->oi.isSome=true)->Q (.there oi) s)
  (h2:ks ∉ kss -> ∀ k0,(sq t.mask (hsT prog w ks) k0).j ∉ t.place.toList->(∀ m,m < k0->(sq t.mask (hsT prog w ks) m).j∈t.place.toList)->Q (.free (sq t.mask (hsT prog w ks) k0).j false) s) :
  wpAny (model prog w) A (setSearch a (.ref b) (hsT prog w ks) adding) Q E s:=by
 obtain ⟨k0,hk0,hk,hb⟩:=S.first (hsT prog w ks)
 have:=qAc S.tb.lv
 exact qFW hu S k hk hb hk0 h1 (fun q=>h2 q k0 hk hb) 100000 0 none (BJ _) (by omega) rfl fun y hy=>absurd hy (BR _)
theorem qHI {mask n:Nat} (h:Lv mask n) (hn:n + 1≤300) (hf:¬ (n + 1) * 5 ≥ mask * 3):Lv mask (n + 1):=by
 rcases h with ⟨rfl,h⟩ |⟨rfl,h⟩ |⟨rfl,h⟩ |⟨rfl,h⟩
 ·exact .inl ⟨rfl,by omega⟩
 ·exact .inr (.inl ⟨rfl,by omega⟩)
 ·exact .inr (.inr (.inl ⟨rfl,by omega⟩))
 ·exact .inr (.inr (.inr ⟨rfl,by omega⟩))
theorem qHR {mask n:Nat} (h:Lv mask n) (hn:n + 1≤300) (hf:(n + 1) * 5 ≥ mask * 3):Lv (SetTable.sizeAbove (SetTable.grown (n + 1)) - 1) (n + 1)∧SetTable.sizeAbove (SetTable.grown (n + 1))≤512:=by
 rcases h with ⟨rfl,h⟩ |⟨rfl,h⟩ |⟨rfl,h⟩ |⟨rfl,h⟩
 ·have:n=4:=by omega
  subst this
  exact ⟨.inr (.inl ⟨by decide,by omega⟩),by decide⟩
 ·have:n=18:=by omega
  subst this
  exact ⟨.inr (.inr (.inl ⟨by decide,by omega⟩)),by decide⟩
 ·have:n=76:=by omega
  subst this
  exact ⟨.inr (.inr (.inr ⟨by decide,by omega⟩)),by decide⟩
 ·omega
theorem qCD {mask n:Nat} (h:Lv mask n):n + 1≤mask:=by
 rcases h with ⟨rfl,h⟩ |⟨rfl,h⟩ |⟨rfl,h⟩ |⟨rfl,h⟩ <;> omega
theorem qJ4 {a:Addr} {es:Array (Int×Value)} {ep:Nat} {t:SetTable} {kss:List (List Int)} {ks:List Int} {b:Addr} {Q:Bool->Shared->Prop} (hu:A.units < cLine) (S:SetT prog w s.heap a es ep t kss) (k:TK prog w s.heap ks b) (hn:kss.length + 1≤300)
  (h:∀ (h':Heap) (es':Array (Int×Value)) (ep':Nat) (t':SetTable) (kss':List (List Int)),Heap.SameBut a s.heap h'->SetT prog w h' a es' ep' t' kss'->kss'.Perm (if ks∈kss then kss else kss++[ks])->(∀ e∈es'.toList,e∈es.toList∨e.2 = .ref b)->Q (decide (ks ∉ kss)) { s with heap:=h' }) :
  wpAny (model prog w) A (setAddHashed a (.ref b) (hsT prog w ks)) Q E s:=by
 obtain ⟨o,ho,hx,hd⟩:=S.ex
 have hfit:=JU S.tb.g
 have hlen:es.size=kss.length:=by rw [← S.el.len,AX]
 unfold setAddHashed
 refine Au ?_
 rw [setAddHashedIn.eq_def]
 refine AA (A5 ho hd hfit ?_)
 dsimp only
 rw [AN (by unfold byScan;exact fun q=>Bool.noConfusion (show false=true from q))]
 refine AA (qGq (adding:=true) hu S k (fun q oi _ => ?_) fun q k0 hk hb => ?_)
 ·dsimp only
  refine AB ?_
  have:=h s.heap es ep t kss ⟨rfl,fun _ _=>rfl⟩ S (by rw [AG q]) (fun e he => .inl he)
  rw [Ac (not_not_intro q)] at this
  exact this
 ·dsimp only
  refine AA (A5 ho hd hfit ?_)
  dsimp only
  have hne:∀ ks' c,TK prog w s.heap ks' c->c≠a:=fun ks' c kc z=>by
   subst z
   obtain ⟨o',_,_,g1,g2,g3,_⟩:=kc
   rw [ho] at g1;cases g1
   rw [hd] at g3;cases g3
  obtain ⟨T1,R1,P1⟩:=qBI (x:=Value.ref b) S.tb.g (qCD S.tb.lv) S.tb.r (qHv k0) hk hb
  generalize ht:t.put (sq t.mask (hsT prog w ks) k0).j=tp at T1 R1 P1 ⊢
  obtain ⟨t1,p1⟩:=tp
  dsimp only at T1 R1 P1 ⊢
  have hm1:t1.mask=t.mask:=by have:=CH (fun x=>x.1.mask) ht;exact this.symm
  have hl1:t1.led=t.led:=by have:=CH (fun x=>x.1.led) ht;exact this.symm
  have hp1:t1.plain=t.plain:=by have:=CH (fun x=>x.1.plain) ht;exact this.symm
  rw [AG (hp1.trans S.tb.pl)]
  refine AA (hbv k ?_)
  rw [AG rfl]
  have hsz1:(SetTable.insertAt es p1 (hsT prog w ks,Value.ref b)).size=es.size + 1:=by
   have:=P1.length_eq
   simpa using this
  refine AA (wpAny_storeSet_of ho hd ?_ (by rw [hsz1];exact Aa (show es.size + 1≤300 by omega) (by decide)))
  obtain ⟨oc,od,odt,osl⟩:=o
  have hd:odt=Data.set es ep t:=hd
  subst hd
  have hu1:(s.heap.update a (Obj.putSet (SetTable.insertAt es p1 (hsT prog w ks,.ref b)) t1)).get? a=some ⟨oc,od,Data.set (SetTable.insertAt es p1 (hsT prog w ks,.ref b)) (ep + 1) t1,osl⟩:=by
   rw [A2 _ ho rfl]
   rfl
  have hsb:Heap.SameBut a s.heap (s.heap.update a (Obj.putSet (SetTable.insertAt es p1 (hsT prog w ks,.ref b)) t1)):=⟨B8 ..,fun c hc=>Heap.get?_update_ne _ _ _ _ hc⟩
  generalize s.heap.update a (Obj.putSet (SetTable.insertAt es p1 (hsT prog w ks,.ref b)) t1)=h1 at hu1 hsb ⊢
  have keep:∀ c ks',TK prog w s.heap ks' c->TK prog w h1 ks' c:=fun c ks' kc=>kc.keep fun o' ho'=>(hsb.2 c (hne ks' c kc)).trans ho'
  have E1:EsT prog w h1 ((hsT prog w ks,Value.ref b)::es.toList) (ks::kss) := .cons (keep _ _ k) (S.el.keep keep)
  obtain ⟨kss1,q1,E2⟩:=E1.perm P1.symm
  have nd1:kss1.Nodup:=q1.nodup_iff.mp (BM.mpr ⟨q,S.nd⟩)
  have qp:kss1.Perm (if ks∈kss then kss else kss++[ks]):=by
   rw [AN q]
   exact q1.symm.trans (List.perm_append_comm (l₁:=[ks]) (l₂:=kss))
  have hfull:t1.tooFull=decide ((es.size + 1) * 5 ≥ t.mask * 3):=by
   unfold SetTable.tooFull SetTable.fill
   rw [T1.dum,T1.sz,hm1]
   rfl
  rw [hfull]
  have fresh1:∀ e∈(SetTable.insertAt es p1 (hsT prog w ks,Value.ref b)).toList,e∈es.toList∨e.2 = .ref b:=fun e he=>by
   rcases AJ.mp (P1.mem_iff.mp he) with z |z
   ·exact .inr (by rw [z])
   ·exact .inl z
  have fin:∀ (h2:Heap),(∀ es' ep' t' kss',Heap.SameBut a s.heap h2->SetT prog w h2 a es' ep' t' kss'->kss'.Perm (if ks∈kss then kss else kss++[ks])->(∀ e∈es'.toList,e∈es.toList∨e.2 = .ref b)->Q true { s with heap:=h2 }):=fun h2 es' ep' t' kss' a1 a2 a3 a4=>by
   have:=h h2 es' ep' t' kss' a1 a2 a3 a4
   rw [Ai q] at this
   exact this
  by_cases hf:(es.size + 1) * 5 ≥ t.mask * 3
  ·rw [Ai hf]
   simp only [Bool.not_false,Bool.and_self,Ca]
   obtain ⟨L1,L2⟩:=qHR S.tb.lv (by omega) hf
   unfold setRelay
   refine AA ?_
   refine AA (A5 (s:={ s with heap:=h1 }) hu1 rfl (by rw [hsz1];exact JU T1) ?_)
   dsimp only
   rw [AN (by rw [CZ];omega)]
   obtain ⟨t2,order,e2,m2,l2,p2,P2,T2,R2⟩:=qGS (finger:=t1.finger) (moves:=t1.movedTo (SetTable.sizeAbove (SetTable.grown (es.size + 1)) - 1)) (led:=t1.led) (plain:=t1.plain) L1.cyc (es:=SetTable.insertAt es p1 (hsT prog w ks,Value.ref b)) (by rw [hsz1];have:=qCD L1;omega)
   have e2:t1.relaid ((SetTable.insertAt es p1 (hsT prog w ks,Value.ref b)).map (·.1)) (SetTable.grown (es.size + 1))=some (t2,order):=e2
   rw [e2]
   have hsz2:(order.filterMap ((SetTable.insertAt es p1 (hsT prog w ks,Value.ref b))[·]?)).size=es.size + 1:=by
    have:=P2.length_eq
    rw [AX,AX,hsz1] at this
    exact this
   refine AA (An (a:=(order.filterMap ((SetTable.insertAt es p1 (hsT prog w ks,Value.ref b))[·]?),t2)) ?_ ?_)
   ·show (if ((order.filterMap ((SetTable.insertAt es p1 (hsT prog w ks,Value.ref b))[·]?)).size != (SetTable.insertAt es p1 (hsT prog w ks,Value.ref b)).size)=true then _ else pure _)=pure _
    rw [AN (by rw [hsz2,hsz1];simp)]
   ·dsimp only
    refine wpAny_storeSet_of (s:={ s with heap:=h1 }) hu1 rfl ?_ (by rw [hsz2];exact Aa (show es.size + 1≤300 by omega) (by decide))
    have hu2:(h1.update a (Obj.putSet (order.filterMap ((SetTable.insertAt es p1 (hsT prog w ks,Value.ref b))[·]?)) t2)).get? a=some ⟨oc,od,Data.set (order.filterMap ((SetTable.insertAt es p1 (hsT prog w ks,Value.ref b))[·]?)) (ep + 1 + 1) t2,osl⟩:=by
     rw [A2 _ hu1 rfl]
     rfl
    have hsb2:Heap.SameBut a h1 (h1.update a (Obj.putSet (order.filterMap ((SetTable.insertAt es p1 (hsT prog w ks,Value.ref b))[·]?)) t2)):=⟨B8 ..,fun c hc=>Heap.get?_update_ne _ _ _ _ hc⟩
    refine AB ?_
    generalize h1.update a (Obj.putSet (order.filterMap ((SetTable.insertAt es p1 (hsT prog w ks,Value.ref b))[·]?)) t2)=h2 at hu2 hsb2 ⊢
    obtain ⟨kss2,q2,E3⟩:=E2.perm P2.symm
    have E4:EsT prog w h2 (order.filterMap ((SetTable.insertAt es p1 (hsT prog w ks,Value.ref b))[·]?)).toList kss2:=E3.keep fun c ks' kc=>kc.keep fun o' ho'=>(hsb2.2 c (fun z=>by
     subst z
     obtain ⟨o',_,_,g1,g2,g3,_⟩:=kc
     rw [hu1] at g1;cases g1
     cases g3)).trans ho'
    refine fin h2 _ _ _ kss2 ⟨hsb2.1.trans hsb.1,fun c hc=>(hsb2.2 c hc).trans (hsb.2 c hc)⟩ ⟨⟨_,hu2,hx,rfl⟩,E4,q2.nodup_iff.mp nd1,⟨?_,R2,?_,?_,?_⟩⟩ (q2.symm.trans qp) (fun e he=>fresh1 e (P2.mem_iff.mp he))
    ·rw [hsz2,← hsz1];exact T2
    ·rw [hsz2,m2];exact L1
    ·rw [l2,hl1];exact S.tb.led
    ·rw [p2,hp1];exact S.tb.pl
  ·rw [Ac hf]
   simp only [Bool.not_false,B5,BF,Bt]
   refine AB (fin h1 _ _ _ kss1 hsb ⟨⟨_,hu1,hx,rfl⟩,E2,nd1,⟨?_,R1,?_,?_,?_⟩⟩ qp fresh1)
   ·rw [hsz1];exact T1
   ·rw [hsz1,hm1];exact qHI S.tb.lv (by omega) hf
   ·rw [hl1];exact S.tb.led
   ·rw [hp1];exact S.tb.pl
end
end ET
end
section
namespace ET
open PySem PySem.Spec PyProof.Rows L2 EX PySem.W
section
variable {O:KeyOrd} {key:Nat->O.α} {n:Nat}
def kOk (key:Nat->O.α) (n:Nat) {α:Type}:KasT α->(α->Prop)->Prop
 | .ret a,P=>P a
 | .ask i j k,P=>i < n∧j < n∧kOk key n (k (O.blt (key i) (key j))) P
theorem zh {α β:Type} {f:α->KasT β} {P:β->Prop}:∀ {t:KasT α},kOk key n t (fun a=>kOk key n (f a) P)->kOk key n (t.bind f) P
 | .ret a,h=>h
 | .ask i j k,h=>⟨h.1,h.2.1,zh h.2.2⟩
theorem qAw {α:Type} {cmp:Nat->Nat->(Bool->Shared->Prop)->Shared->Prop} {s:Shared} (hc:∀ i j C,i < n->j < n->C (O.blt (key i) (key j)) s->cmp i j C s) {P:α->Prop} {Q:α->Shared->Prop} (hq:∀ a,P a->Q a s):∀ (t:KasT α),kOk key n t P->t.kasWp cmp Q s
 | .ret a,h=>hq a h
 | .ask i j k,h=>hc i j _ h.1 h.2.1 (qAw hc hq _ h.2.2)
structure PB (n:Nat) (p:Array Nat):Prop where
 perm:p.Perm (List.range n).toArray
theorem PB.size {p:Array Nat} (h:PB n p):p.size=n:=by
 have:=h.perm.size_eq;simpa using this
theorem PB.lt {p:Array Nat} (h:PB n p) {k:Nat} (hk:k < n):p.getD k 0 < n:=by
 have hs:=h.size
 rw [AR,AT (by omega)]
 have:p[k]∈(List.range n).toArray.toList:=(Array.perm_iff_toList_perm.mp h.perm).mem_iff.mp (by simp)
 simpa using this
def kq (key:Nat->O.α) (p:Array Nat) (k:Nat):O.α:=key (p.getD k 0)
def Srt (key:Nat->O.α) (p:Array Nat) (k:Nat):Prop := ∀ i j,i≤j->j < k->O.kle (kq key p i) (kq key p j)
def Nin (key:Nat->O.α) (p:Array Nat) (k:Nat):Prop := ∀ i j,i≤j->j < k->O.kle (kq key p j) (kq key p i)
theorem yV {p:Array Nat} {i j:Nat} (hj:j≤p.size) (k:Nat):kq key (kas_rev p i j) k=if i≤k∧k < j then kq key p (i + j - 1 - k) else kq key p k:=by
 have e:=getElem?_mirror_all (i:=i) hj k
 unfold kq kas_rev
 rw [AR,e]
 split
 ·rw [AR]
 ·rw [AR]
theorem WC {p:Array Nat} {i j:Nat} (hj:j≤p.size) (heq:∀ k,i≤k->k < j->kq key p k=kq key p (j - 1)) (k:Nat):kq key (kas_rev p i j) k=kq key p k:=by
 rw [yV hj]
 split
 ·rw [heq _ (by omega) (by omega),heq k (by omega) (by omega)]
 ·rfl
theorem jm {p:Array Nat} {src d:Nat} (hs:src < p.size) (hd:d≤src) (k:Nat):kq key (bubble p src d) k=if k=src - d then kq key p src else if src - d < k∧k≤src then kq key p (k - 1) else kq key p k:=by
 have e:=getElem?_bubble hs d hd k
 unfold kq
 rw [AR,AR,AR,AR,e]
 split
 ·rfl
 ·split <;> rfl
theorem PB.rev {p:Array Nat} (h:PB n p) (i j:Nat):PB n (kas_rev p i j):=⟨(mirror_perm _ _ _ _).trans h.perm⟩
theorem qBK {p:Array Nat} (B:PB n p) {nrem:Nat} (hn:nrem≤n) {P:Nat->Prop} (h:∀ m,1≤m->m≤nrem->Srt key p m->(m=nrem∨O.klt (kq key p m) (kq key p (m - 1)))->P m):∀ (f a:Nat),1≤a->a + f=nrem->Srt key p a->kOk key n (kas_asc p f a) P
 |0,a,h1,h2,hs=>h a h1 (by omega) hs (.inl (by omega))
 |f + 1,a,h1,h2,hs=>by
  refine ⟨B.lt (by omega),B.lt (by omega),?_⟩
  show kOk key n (if O.blt (kq key p a) (kq key p (a - 1))=true then .ret a else kas_asc p f (a + 1)) P
  cases hl:O.blt (kq key p a) (kq key p (a - 1)) with
  |true=>rw [AG rfl];exact h a h1 (by omega) hs (.inr hl)
  |false =>
   rw [AN (by simp)]
   refine qBK B hn h f (a + 1) (by omega) (by omega) fun i j hij hj => ?_
   by_cases hja:j < a
   ·exact hs i j hij hja
   ·have:j=a:=by omega
    subst this
    by_cases hi':i=j
    ·subst hi';exact Bd _
    ·exact CW (hs i (j - 1) (by omega) (by omega)) hl
theorem qAU {p:Array Nat} (B:PB n p) {nrem m:Nat} (hn:nrem≤n) (h1:1≤m) (hm:m≤nrem) (hs:Nin key p m) {P:Nat×Array Nat->Prop} (h:∀ m' p',PB n p'->1≤m'->m'≤nrem->Srt key p' m'->P (m',p')):kOk key n (kas_tail3 m nrem p) P:=by
 unfold kas_tail3
 have hsz:m≤p.size:=by rw [B.size];omega
 refine zh (qBK (B.rev 0 m) hn (fun m' a b c _=>h m' _ (B.rev 0 m) a b c) _ _ h1 (by omega) fun i j hij hj => ?_)
 rw [yV hsz,yV hsz,AG (by omega),AG (by omega)]
 exact hs _ _ (by omega) (by omega)
theorem YM {nrem:Nat} (hn:nrem≤n) {P:Array Nat×Nat×Nat->Prop}
  (h:∀ m neq p',PB n p'->1≤m->m≤nrem->Nin key p' m->neq + 1≤m->(∀ i,m - (neq + 1)≤i->i < m->kq key p' i=kq key p' (m - 1))->P (p',m,neq)) :
  ∀ (f:Nat) (p:Array Nat) (x neq:Nat),PB n p->1≤x->x + f=nrem->Nin key p x->neq + 1≤x->(∀ i,x - (neq + 1)≤i->i < x->kq key p i=kq key p (x - 1))->kOk key n (kas_desc f p x neq) P
 |0,p,x,neq,B,h1,h2,hs,hq,he=>h x neq p B h1 (by omega) hs hq he
 |f + 1,p,x,neq,B,h1,h2,hs,hq,he=>by
  have hsz:x≤p.size:=by rw [B.size];omega
  refine ⟨B.lt (by omega),B.lt (by omega),?_⟩
  show kOk key n (if O.blt (kq key p x) (kq key p (x - 1))=true then (if neq > 0 then kas_desc f (kas_rev p (x - (neq + 1)) x) (x + 1) 0 else kas_desc f p (x + 1) 0) else .ask (p.getD (x - 1) 0) (p.getD x 0) fun d=>if d=true then .ret (p,x,neq) else kas_desc f p (x + 1) (neq + 1)) P
  cases hl:O.blt (kq key p x) (kq key p (x - 1)) with
  |true =>
   rw [AG rfl]
   have step1:∀ p':Array Nat,(∀ k,kq key p' k=kq key p k)->Nin key p' (x + 1):=by
    intro p' hk i j hij hj
    rw [hk,hk]
    by_cases hjx:j < x
    ·exact hs i j hij hjx
    ·have hj':j=x:=by omega
     subst hj'
     by_cases hi':i=j
     ·subst hi';exact Bd _
     ·exact CW (CM hl) (hs i (j - 1) (by omega) (by omega))
   by_cases hneq:neq > 0
   ·rw [AG hneq]
    exact YM hn h f _ _ _ (B.rev _ _) (by omega) (by omega) (step1 _ (WC hsz he)) (by omega) fun i h1 h2=>by congr 1;omega
   ·rw [AN hneq]
    exact YM hn h f _ _ _ B (by omega) (by omega) (step1 _ fun _=>rfl) (by omega) fun i h1 h2=>by congr 1;omega
  |false =>
   rw [AN (by simp)]
   refine ⟨B.lt (by omega),B.lt (by omega),?_⟩
   show kOk key n (if O.blt (kq key p (x - 1)) (kq key p x)=true then .ret (p,x,neq) else kas_desc f p (x + 1) (neq + 1)) P
   cases hg:O.blt (kq key p (x - 1)) (kq key p x) with
   |true=>rw [AG rfl];exact h x neq p B h1 (by omega) hs hq he
   |false =>
    rw [AN (by simp)]
    have heqx:kq key p x=kq key p (x - 1):=KeyOrd.kle_antisymm hg hl
    refine YM hn h f _ _ _ B (by omega) (by omega) (fun i j hij hj => ?_) (by omega) fun i h1 h2 => ?_
    ·by_cases hjx:j < x
     ·exact hs i j hij hjx
     ·have hj':j=x:=by omega
      subst hj'
      by_cases hi':i=j
      ·subst hi';exact Bd _
      ·rw [heqx];exact hs i (j - 1) (by omega) (by omega)
    ·rw [show x + 1 - 1=x by omega]
     by_cases hix:i=x
     ·subst hix;rfl
     ·rw [heqx];exact he i (by omega) (by omega)
theorem yr {p:Array Nat} (B:PB n p) {nrem m:Nat} (hn:nrem≤n) (hm:m + 1≤nrem) (hs:Nin key p (m + 1)) {P:Nat×Array Nat->Prop} (h:∀ m' p',PB n p'->1≤m'->m'≤nrem->Srt key p' m'->P (m',p')):kOk key n (kas_descPart m nrem p) P:=by
 unfold kas_descPart
 refine zh (YM hn (fun m' neq p' B' a1 a2 hs' hq he => ?_) _ _ _ _ B (by omega) (by omega) hs (by omega) fun i h1 h2=>by congr 1;omega)
 dsimp only
 have hsz:m'≤p'.size:=by rw [B'.size];omega
 by_cases hneq:neq > 0
 ·rw [AG hneq]
  refine qAU (B'.rev _ _) hn a1 a2 (fun i j hij hj => ?_) h
  rw [WC hsz he,WC hsz he]
  exact hs' i j hij hj
 ·rw [AN hneq]
  exact qAU B' hn a1 a2 hs' h
theorem qFy {p:Array Nat} (B:PB n p) (h1:1≤n) {P:Nat×Array Nat->Prop} (h:∀ m' p',PB n p'->1≤m'->m'≤n->Srt key p' m'->P (m',p')):kOk key n (kas_count n p) P:=by
 unfold kas_count
 refine zh (qBK B (AL n) (fun m hm1 hm2 hsn hor => ?_) _ _ (AL 1) (by omega) fun i j hij hj=>by have:i=j:=(by omega);subst this;exact Bd _)
 by_cases hnn:m=n
 ·rw [AG (by simpa using hnn)]
  exact h m p B hm1 hm2 hsn
 ·rw [AN (by simpa using hnn)]
  have hlt:O.klt (kq key p m) (kq key p (m - 1)):=hor.resolve_left hnn
  have hsz:m≤p.size:=by rw [B.size];omega
  by_cases hgt:m > 1
  ·rw [AG hgt]
   refine ⟨B.lt (by omega),B.lt (by omega),?_⟩
   show kOk key n (if O.blt (kq key p 0) (kq key p (m - 1))=true then .ret (m,p) else kas_descPart m n (kas_rev p 0 m)) P
   cases hrose:O.blt (kq key p 0) (kq key p (m - 1)) with
   |true=>rw [AG rfl];exact h m p B hm1 hm2 hsn
   |false =>
    rw [AN (by simp)]
    have hall:∀ k,0≤k->k < m->kq key p k=kq key p (m - 1):=by
     intro k _ hk
     have a1:=hsn 0 k (by omega) hk
     have a2:=hsn k (m - 1) (by omega) (by omega)
     exact KeyOrd.kle_antisymm a2 (CW hrose a1)
    refine yr (B.rev _ _) (AL n) (by omega) (fun i j hij hj => ?_) h
    rw [WC hsz hall,WC hsz hall]
    by_cases hjn:j < m
    ·rw [hall i (by omega) (by omega),hall j (by omega) hjn];exact Bd _
    ·have hj':j=m:=by omega
     subst hj'
     by_cases hi':i=j
     ·subst hi';exact Bd _
     ·rw [hall i (by omega) (by omega)];exact CM hlt
  ·rw [AN hgt]
   have hn1':m=1:=by omega
   subst hn1'
   refine yr B (AL n) (by omega) (fun i j hij hj => ?_) h
   by_cases hi':i=j
   ·subst hi';exact Bd _
   ·have hi0:i=0:=by omega
    have hj1:j=1:=by omega
    subst hi0;subst hj1
    exact CM hlt
theorem YW {p:Array Nat} (B:PB n p) {k:Nat} (hk:k < n) (hs:Srt key p k) {P:Nat->Prop} (h:∀ l,l≤k->(∀ i,i < l->O.kle (kq key p i) (kq key p k))->(∀ i,l≤i->i < k->O.klt (kq key p k) (kq key p i))->P l) :
  ∀ (f l r:Nat),l≤r->r≤k->r - l≤f->(∀ i,i < l->O.kle (kq key p i) (kq key p k))->(∀ i,r≤i->i < k->O.klt (kq key p k) (kq key p i))->kOk key n (kas_place p k f l r) P
 |0,l,r,h1,h2,h3,h4,h5=>by
  have:l=r:=by omega
  subst this
  exact h l h2 h4 h5
 |f + 1,l,r,h1,h2,h3,h4,h5=>by
  unfold kas_place
  by_cases hge:l ≥ r
  ·rw [AG hge]
   have:l=r:=by omega
   subst this
   exact h l h2 h4 h5
  ·rw [AN hge]
   refine ⟨B.lt hk,B.lt (by omega),?_⟩
   show kOk key n (if O.blt (kq key p k) (kq key p ((l + r) / 2))=true then kas_place p k f l ((l + r) / 2) else kas_place p k f ((l + r) / 2 + 1) r) P
   cases hless:O.blt (kq key p k) (kq key p ((l + r) / 2)) with
   |true =>
    rw [AG rfl]
    exact YW B hk hs h f _ _ (by omega) (by omega) (by omega) h4 fun i a b=>KeyOrd.klt_of_klt_of_kle hless (hs _ _ a b)
   |false =>
    rw [AN (by simp)]
    exact YW B hk hs h f _ _ (by omega) (by omega) (by omega) (fun i a=>CW (hs i ((l + r) / 2) (by omega) (by omega)) (show O.kle _ _ from hless)) h5
theorem QR {P:Array Nat->Prop} (h:∀ p,PB n p->Srt key p n->P p):∀ (f:Nat) (p:Array Nat) (k:Nat),PB n p->k + f=n->Srt key p k->kOk key n (kas_bin f p k) P
 |0,p,k,B,h1,hs=>h p B (by
  have:k=n:=by omega
  subst this;exact hs)
 |f + 1,p,k,B,h1,hs=>by
  unfold kas_bin
  refine zh (YW B (by omega) hs (fun l hlk hlo hhi => ?_) k 0 k (by omega) (AL _) (by omega) (fun i hi=>absurd hi (BR _)) fun i a b=>absurd b (by omega))
  refine QR h f _ (k + 1) ⟨(bubble_perm _ _ _).trans B.perm⟩ (by omega) fun i j hij hj => ?_
  have hks:k < p.size:=by rw [B.size];omega
  rw [jm hks (by omega),jm hks (by omega),show k - (k - l)=l by omega]
  repeat' split
  all_goals first
   |(exfalso;omega)
   |exact Bd _
   |exact hlo _ (by omega)
   |exact CM (hhi _ (by omega) (by omega))
   |exact hs _ _ (by omega) (by omega)
theorem qGO (h1:1≤n):kOk key n (kas_sort n) fun p=>PB n p∧Srt key p n:=by
 unfold kas_sort
 refine zh (qFy ⟨Array.Perm.refl _⟩ h1 fun m p B a b hs => ?_)
 dsimp only
 by_cases hlt:m < n
 ·rw [AG hlt,show max m 1=m by omega]
  exact QR (fun p B hs=>⟨B,hs⟩) _ _ _ B (by omega) hs
 ·rw [AN hlt]
  have:m=n:=by omega
  subst this
  exact ⟨B,hs⟩
end
section
variable {prog:Program} {w:World} {A:Around} {E:Value->Shared->Prop} {s:Shared} {O:KeyOrd}
theorem qDm {vs:List Value} (hsz:vs.toArray.size=vs.length) (h2:vs.toArray.size < 2):List.toArray ((List.range vs.length).toArray.toList.map fun i=>vs.getD i Value.none)=(vs.toArray.zip vs.toArray).map (·.2):=by
 match vs,hsz,h2 with
 |[],_,_=>simp
 |[v],_,_=>simp
 |v₁::v₂::rest,hsz,h2=>rw [hsz,AU,AU] at h2;omega
theorem qGa {a:Addr} {vs:List Value} {n:Nat} {P:PySem.Fin->Shared->Prop} {key:Nat->O.α} {κ:SortKind} (ho:s.heap.get? a=some (seqObj "list" vs.toArray n)) (h64:vs.length < 64)
  (hk:2≤vs.length -> ∀ (h6:Heap) (Q:SortKind->Shared->Prop),(∀ b o,b≠a->s.heap.get? b=some o->h6.get? b=some o)->Q κ { s with heap:=h6 }->wpAny (model prog w) A (keyKind' vs.toArray) Q E { s with heap:=h6 })
  (hc:∀ (h6:Heap) (i j:Nat) (C:Bool->Shared->Prop),(∀ b o,b≠a->s.heap.get? b=some o->h6.get? b=some o)->i < vs.length->j < vs.length->C (O.blt (key i) (key j)) { s with heap:=h6 }->wpAny (model prog w) A (keyLt' κ (vs.getD i Value.none) (vs.getD j Value.none)) C (fun _ _=>False) { s with heap:=h6 })
  (h:∀ p:Array Nat,PB vs.length p->Srt key p vs.length->P (.done (.ret .none)) { s with heap:=sortedHeap s.heap a vs (List.toArray (p.toList.map fun i=>vs.getD i Value.none)) }) :
  wpAny (model prog w) A (Builtin.«list.sort» ⟨[.ref a],[]⟩) P E s:=by
 rw [list_sort_plain]
 have ha:a < s.heap.objs.size:=AM ho
 refine AA (listItems_at ho rfl ?_)
 refine AA (listUpdate_at ho rfl ?_)
 obtain ⟨e1,ho1⟩:∃ e1,(s.heap.update a (Obj.mapSeq fun _ => #[])).get? a=some (seqObj "list" #[] e1):=⟨_,get?_update_seq ho (fun _ => #[])⟩
 refine AA (seqEpoch_at ho1 rfl ?_)
 refine AA (wpAny_newTuple ?_)
 refine AA (Cn ?_)
 refine Au ?_
 have ho6:(((s.heap.update a (Obj.mapSeq fun _ => #[])).push (seqObj "tuple" vs.toArray 0)).push (seqObj "list" #[] 0)).get? a=some (seqObj "list" #[] e1):=by
  rw [Heap.get?_push_ne _ _ _ (by rw [size_push',B8];exact AZ (BE ha)),Heap.get?_push_ne _ _ _ (by rw [B8];exact AZ ha)]
  exact ho1
 have keep:∀ b o,b≠a->s.heap.get? b=some o->(((s.heap.update a (Obj.mapSeq fun _ => #[])).push (seqObj "tuple" vs.toArray 0)).push (seqObj "list" #[] 0)).get? b=some o:=fun b o hb q =>
  AC _ (AC _ ((Ah _ _ (Ne.symm hb)).trans q))
 show wpAny (model prog w) A _ P E { s with heap:=((s.heap.update a (Obj.mapSeq fun _ => #[])).push (seqObj "tuple" vs.toArray 0)).push (seqObj "list" #[] 0) }
 dsimp only
 have hsz:vs.toArray.size=vs.length:=by simp
 by_cases h2:vs.toArray.size < 2
 ·rw [AG h2,AG h2]
  refine AA (AB ?_)
  rw [StateT.run_pure]
  refine AA (AB ?_)
  dsimp only
  refine AA (seqEpoch_at ho6 rfl ?_)
  refine AA (listUpdate_at ho6 rfl ?_ (hsz2:=by rw [Array.size_map];show (pairsOf vs).size≤_;rw [pairsOf_size,CZ];omega))
  simp only [bne_self_eq_false,BF,Bt]
  refine AB ?_
  have:=h (List.range vs.length).toArray ⟨Array.Perm.refl _⟩ fun i j hij hj=>by
   have:i=j:=by omega
   subst this;exact Bd _
  have e:List.toArray ((List.range vs.length).toArray.toList.map fun i=>vs.getD i Value.none)=(arrOf (SortSt.mk' general' (vs.toArray.zip vs.toArray) #[] 7 none)).map (·.2):=qDm hsz h2
  rw [e] at this
  exact this
 ·rw [AN h2,AN h2]
  have h2':2≤vs.length:=by omega
  refine AA (hk h2' _ _ keep ?_)
  have hw:(kas_sort vs.length).kasWp (kas_ask prog w A κ vs) (fun p s'=>s'={ s with heap:=((s.heap.update a (Obj.mapSeq fun _ => #[])).push (seqObj "tuple" vs.toArray 0)).push (seqObj "list" #[] 0) }∧PB vs.length p∧Srt key p vs.length) { s with heap:=((s.heap.update a (Obj.mapSeq fun _ => #[])).push (seqObj "tuple" vs.toArray 0)).push (seqObj "list" #[] 0) } :=
   qAw (O:=O) (key:=key) (n:=vs.length) (fun i j C hi hj hC=>hc _ i j C keep hi hj hC) (P:=fun p=>PB vs.length p∧Srt key p vs.length) (fun p hp=>⟨rfl,hp⟩) _ (qGO (by omega))
  refine AA (Bg (kat_run (Q:=fun st' s' => ∃ p:Array Nat,p.size=vs.length∧arrOf st'=p.map (kas_item (vs.toArray.zip vs.toArray))∧failedOf st'=none∧s'={ s with heap:=((s.heap.update a (Obj.mapSeq fun _ => #[])).push (seqObj "tuple" vs.toArray 0)).push (seqObj "list" #[] 0) }∧PB vs.length p∧Srt key p vs.length)
   rfl h2' h64 (fun p' st' s' a1 a2 a3 a4=>⟨p',a1,a2,a3,a4⟩) hw) ?_ fun _ _ e=>e)
  rintro ⟨⟨⟩,st'⟩ s' ⟨p,hp,har,hf,rfl,B,S⟩
  dsimp only
  have hout:=kat_snds rfl har
  refine AA (seqEpoch_at ho6 rfl ?_)
  refine AA (listUpdate_at ho6 rfl ?_ (hsz2:=by rw [hout,AS,AF,AX,hp,CZ];omega))
  rw [hf]
  simp only [bne_self_eq_false,BF,Bt]
  rw [hout]
  exact AB (h p B S)
end
def lxb:List Int->List Int->Bool
 |_,[]=>false
 |[],_::_=>true
 |a::l,b::m=>if a < b then true else if b < a then false else lxb l m
theorem YL:∀ l,lxb l l=false
 |[]=>rfl
 |a::l=>by rw [lxb,AN (Int.lt_irrefl a),AN (Int.lt_irrefl a)];exact YL l
theorem qBW:∀ a b c,lxb a b=true->lxb b c=true->lxb a c=true
 |_,_,[],_,h=>by
  cases ‹List Int› <;> simp [lxb] at h
 |_,[],_::_,h,_=>by simp [lxb] at h
 |[],_::_,_::_,_,_=>rfl
 |x::l,y::m,z::n,h1,h2=>by
  unfold lxb at h1 h2 ⊢
  by_cases hxy:x < y
  ·by_cases hyz:y < z
   ·rw [AG (by omega)]
   ·rw [AN hyz] at h2
    by_cases hzy:z < y
    ·rw [AG hzy] at h2;cases h2
    ·rw [AG (by omega)]
  ·rw [AN hxy] at h1
   by_cases hyx:y < x
   ·rw [AG hyx] at h1;cases h1
   ·rw [AN hyx] at h1
    by_cases hyz:y < z
    ·rw [AG (by omega)]
    ·rw [AN hyz] at h2
     by_cases hzy:z < y
     ·rw [AG hzy] at h2;cases h2
     ·rw [AN hzy] at h2
      rw [AN (by omega),AN (by omega)]
      exact qBW l m n h1 h2
theorem YS:∀ a b,lxb a b=false->lxb b a=false->a=b
 |[],[],_,_=>rfl
 |[],_::_,h,_=>by cases h
 |_::_,[],_,h=>by cases h
 |x::l,y::m,h1,h2=>by
  unfold lxb at h1 h2
  by_cases hxy:x < y
  ·rw [AG hxy] at h1;cases h1
  ·by_cases hyx:y < x
   ·rw [AG hyx] at h2;cases h2
   ·rw [AN hxy,AN hyx] at h1
    rw [AN hyx,AN hxy] at h2
    have:x=y:=by omega
    rw [this,YS l m h1 h2]
def lxO:KeyOrd where
 α:=List Int
 blt:=lxb
 irrefl:=YL
 trans:=qBW
 total:=YS
 negTrans:=fun a b c h=>by
  cases h1:lxb a b with
  |true=>exact .inl rfl
  |false =>
   right
   cases h2:lxb b a with
   |true=>exact qBW b a c h2 h
   |false=>rw [← YS a b h1 h2];exact h
section
variable {prog:Program} {w:World} {A:Around} {E:Value->Shared->Prop} {s:Shared}
theorem qGH (b:Bool) {x y:Int} {t u:Tok} {Q:Bool->Shared->Prop} (h:Q (decide (x < y)) s):wpAny (model prog w) A (oneLt' b (.int x t) (.int y u)) Q E s:=by
 cases b with
 |true=>exact oneLt_int h
 |false=>exact kat_one _ _ (wpAny_lt_int h)
theorem qIO {b fin:Bool} {Q:Bool->Shared->Prop} {ks:List Int} {vs:List Value} (hx:ItemsAre (intKind prog w) ks vs):∀ {ks':List Int} {us:List Value} (i:Nat),ItemsAre (intKind prog w) ks' us->decide (vs.length < us.length)=fin->Q (lxb ks ks') s->KatLex prog w A b fin Q (vs.zip us) i s:=by
 induction hx with
 |nil =>
  intro ks' us i hy hf h
  refine kat_nil ?_
  cases hy with
  |nil=>rw [← hf];exact h
  |cons _ _=>rw [← hf,Bn,AU,Ai (Nat.succ_pos _)];exact h
 | @cons k v ks vs h1 h2 ih =>
  intro ks' us i hy hf h
  cases hy with
  |nil=>refine kat_nil ?_;rw [← hf];exact h
  | @cons k' u ks' us g1 g2 =>
   rw [CG]
   refine kat_cons ((intKind prog w).eqBool h1 g1 ?_)
   obtain ⟨n1,t1,rfl⟩:=ZL (.cons h1 h2) v AI
   obtain ⟨n2,t2,rfl⟩:=ZL (.cons g1 g2) u AI
   have e1:n1=k:=(intKind prog w).inj _ _ _ (intKind_is prog w n1 t1) h1
   have e2:n2=k':=(intKind prog w).inj _ _ _ (intKind_is prog w n2 t2) g1
   subst e1;subst e2
   unfold lxb at h
   by_cases hq:n1=n2
   ·rw [Ai hq]
    rw [AN (by omega),AN (by omega)] at h
    exact kat_yes (ih (i + 1) g2 (by simpa using hf) h)
   ·rw [Ac hq]
    refine kat_no (qGH _ ?_)
    by_cases hl:n1 < n2
    ·rw [AG hl] at h;rw [Ai hl];exact h
    ·rw [AN hl,AG (by omega)] at h;rw [Ac hl];exact h
theorem qKF {b:Bool} {ks ks':List Int} {x y:Addr} {Q:Bool->Shared->Prop} (hx:TK prog w s.heap ks x) (hy:TK prog w s.heap ks' y) (h:Q (lxb ks ks') s):wpAny (model prog w) A (keyLt' (tuples' b) (.ref x) (.ref y)) Q E s:=by
 obtain ⟨ox,xs,n,h1,_,h3,h4⟩:=hx
 obtain ⟨oy,ys,m,g1,_,g3,g4⟩:=hy
 exact kat_lt h1 h3 g1 g3 (qIO h4 0 g4 (by simp) h)
inductive TsV (prog:Program) (w:World) (h:Heap):List Value->List (List Int)->Prop
 |nil:TsV prog w h [] []
 |cons {ks:List Int} {b:Addr} {vs:List Value} {kss:List (List Int)}:TK prog w h ks b->ks≠[]->TsV prog w h vs kss->TsV prog w h (.ref b::vs) (ks::kss)
theorem TsV.len {h:Heap} {vs:List Value} {kss:List (List Int)} (e:TsV prog w h vs kss):vs.length=kss.length:=by
 induction e with
 |nil=>rfl
 |cons _ _ _ ih=>rw [AU,AU,ih]
theorem TsV.keep {h h':Heap} {vs:List Value} {kss:List (List Int)} (e:TsV prog w h vs kss) (k:∀ b o,(∃ ks,TK prog w h ks b)->h.get? b=some o->h'.get? b=some o):TsV prog w h' vs kss:=by
 induction e with
 |nil=>exact .nil
 |cons a ne _ ih=>exact .cons (a.keep fun o=>k _ o ⟨_,a⟩) ne ih
theorem TsV.get {h:Heap} {vs:List Value} {kss:List (List Int)} (e:TsV prog w h vs kss):∀ {i:Nat},i < vs.length -> ∃ b,vs.getD i Value.none = .ref b∧TK prog w h (kss.getD i []) b:=by
 induction e with
 |nil=>intro i hi;exact absurd hi (BR _)
 | @cons ks b vs kss a _ _ ih =>
  intro i hi
  cases i with
  |zero=>exact ⟨b,rfl,a⟩
  |succ i=>simpa using ih (i:=i) (by simpa using hi)
theorem TsV.kat {h:Heap} {vs:List Value} {kss:List (List Int)} (e:TsV prog w h vs kss):∃ fs:List Value,KatTups h vs fs∧fs.length=vs.length ∧ ∀ v∈fs,∃ n t,v=Value.int n t:=by
 induction e with
 |nil=>exact ⟨[],KatTups.nil,rfl,fun v hv=>(AY hv).elim⟩
 | @cons ks b vs kss a ne _ ih =>
  obtain ⟨fs,h1,h2,h3⟩:=ih
  obtain ⟨o,its,n,g1,g2,g3,g4⟩:=a
  have hv:=ZL g4
  cases hq:its.toList with
  |nil =>
   rw [hq] at g4
   cases g4
   exact absurd rfl ne
  |cons f r =>
   have hf:its[0]? = some f:=by rw [← A3,hq];rfl
   refine ⟨f::fs,KatTups.cons g1 g2 g3 hf h1,by rw [AU,AU,h2],fun v hv' => ?_⟩
   rcases AJ.mp hv' with q |q
   ·rw [q];exact hv f (by rw [hq];exact AI)
   ·exact h3 v q
theorem qIR {vs:List Value} {kss:List (List Int)} {Q:SortKind->Shared->Prop} (e:TsV prog w s.heap vs kss) (h2:2≤vs.length) (h:Q (tuples' true) s):wpAny (model prog w) A (keyKind' vs.toArray) Q E s:=by
 obtain ⟨fs,h1,h3,h4⟩:=e.kat
 refine kat_kind (T := .type "int") h1 (by omega) (fun v hv => ?_) (by decide) ?_
 ·obtain ⟨n,t,rfl⟩:=h4 v hv
  exact .now
 ·rw [show (Value.type "int" != Value.type "tuple")=true by decide];exact h
def srt (kss:List (List Int)):List (List Int):=kss.mergeSort fun a b => !lxb b a
theorem wH (kss:List (List Int)):(srt kss).Perm kss:=List.mergeSort_perm _ _
theorem yQ (kss:List (List Int)):(srt kss).Pairwise fun a b=>lxb b a=false:=by
 have:=List.pairwise_mergeSort (le:=fun a b:List Int => !lxb b a) (fun a b c h1 h2=>by
  simp only [Bool.not_eq_eq_eq_not,Bool.not_true] at h1 h2 ⊢
  exact CW (O:=lxO) h1 h2) (fun a b=>by
  cases h:lxb b a with
  |false=>simp
  |true =>
   have:lxb a b=false:=CM (O:=lxO) (a:=b) (b:=a) h
   simp [this]) kss
 exact this.imp fun h=>by simpa using h
theorem qCw:∀ {l m:List (List Int)},l.Pairwise (fun a b=>lxb b a=false)->m.Pairwise (fun a b=>lxb b a=false)->l.Perm m->l=m
 |[],m,_,_,p=>(List.Perm.eq_nil p.symm).symm
 |x::l,[],_,_,p=>by have:=p.length_eq;simp at this
 |x::l,y::m,hl,hm,p=>by
  have hx:x∈y::m:=p.mem_iff.mp AI
  have hy:y∈x::l:=p.mem_iff.mpr AI
  have e:x=y:=by
   have h1:lxb y x=false:=by
    rcases AJ.mp hy with q |q
    ·rw [q];exact YL _
    ·exact (Bk.mp hl).1 y q
   have h2:lxb x y=false:=by
    rcases AJ.mp hx with q |q
    ·rw [q];exact YL _
    ·exact (Bk.mp hm).1 x q
   exact YS _ _ h2 h1
  subst e
  rw [qCw (Bk.mp hl).2 (Bk.mp hm).2 (List.Perm.cons_inv p)]
theorem qKX {h:Heap} {vs:List Value} {kss:List (List Int)} (e:TsV prog w h vs kss) {p:Array Nat} (B:PB vs.length p) (S:Srt (O:=lxO) (fun i=>kss.getD i []) p vs.length):p.toList.map (fun i=>kss.getD i [])=srt kss:=by
 have hsz:=B.size
 refine qCw ?_ (yQ kss) ?_
 ·rw [Bq,List.pairwise_iff_getElem]
  intro i j hi hj hij
  have:=S i j (by omega) (by rw [AX] at hj;omega)
  unfold kq at this
  rw [AR,AR,AT (by simpa using hi),AT (by simpa using hj)] at this
  exact this
 ·refine ((Array.perm_iff_toList_perm.mp B.perm).map _).trans (.trans ?_ (wH kss).symm)
  have:(List.range vs.length).map (fun i=>kss.getD i [])=kss:=by
   rw [e.len]
   refine List.ext_getElem (by simp) fun i h1 h2 => ?_
   simp [AK,AE h2]
  show ((List.range vs.length).map fun i=>kss.getD i []).Perm kss
  rw [this]
end
end ET
end
section
namespace ET
open PySem PySem.Spec PyProof.Rows L2
open EX
structure SetW (w:World) (h:Heap) (a:Addr) (es:Array (Int×Value)) (ep:Nat) (t:SetTable):Prop where
 ex:∃ o,h.get? a=some o∧o.ExactSet∧o.data=Data.set es ep t
 T:TbT w t es
 n:es.size≤300
def ItW (w:World) (h:Heap) (it a:Addr) (es:Array (Int×Value)) (ep:Nat) (t:SetTable) (i:Nat):Prop := ∃ (o:Obj) (slot:Nat),h.get? it=some o∧o.cls = .type "set_iterator" ∧ o.data = .fields #[.int slot 0,.int i 0,.ref a,.int es.size 0,.int ep 0]∧(byT w=false->SetTable.below t.place slot=i)
section
variable {prog:Program} {w:World} {A:Around} {E:Value->Shared->Prop} {s:Shared} {a it:Addr} {es:Array (Int×Value)} {ep i:Nat} {t:SetTable}
theorem SetW.fits (L:SetW w s.heap a es ep t):t.fits es.size=true:=JU L.T.g
theorem SetW.typeIs (L:SetW w s.heap a es ep t):s.TypeIs (.ref a) "set" := let ⟨o,h,c,_⟩:=L.ex;⟨o,h,c.1⟩
theorem ItW.typeIs (I:ItW w s.heap it a es ep t i):s.TypeIs (.ref it) "set_iterator" := let ⟨o,_,h,c,_⟩:=I;⟨o,h,c⟩
theorem qDk {Q:Value->Shared->Prop} (L:SetW w s.heap a es ep t)
  (hQ:Q (.ref s.heap.objs.size) { s with heap:=s.heap.push { cls := .type "set_iterator",data := .fields #[.int 0 0,.int 0 0,.ref a,.int es.size 0,.int ep 0] } }):wpAny (model prog w) A (pyIter (.ref a)) Q E s:=by
 obtain ⟨o,ho,hx,hd⟩:=L.ex
 refine wpAny_pyIter_slot L.typeIs F.slot_set_iter (A7 F.slot_set_iter L.typeIs Jd ?_ (F.args_set_iter_1 _))
 unfold Builtin.«frozenset.__iter__» Builtin.Frozenset.slot0 Builtin.Frozenset.sizeOf setEntries
 refine AA (An (a:=a) rfl ?_)
 refine AA (AA (AA (A5 ho hd L.fits (AB (AB ?_)))))
 unfold setDrawn setsByText
 refine AA (AA (A5 ho hd L.fits ?_))
 dsimp only
 refine AA (AA (B7 (AB (AB ?_))))
 rw [AN (by
  rw [Aj]
  intro q
  have q2:(!t.plain&&decide (es.size > 1))=true:=q.2
  rw [L.T.pl] at q2
  cases q2)]
 refine AA (AB ?_)
 unfold setEpoch newFields
 refine AA (AA (A5 ho hd L.fits (AB ?_)))
 exact AA (A1 (AB ⟨_,rfl,"set_iterator",_,⟨_,AV _ rfl,rfl⟩,slot_setit.lookup,by simpa [rawInt] using hQ⟩))
theorem jU {R:Option (Value×Nat)->Shared->Prop} {slot:Nat} (L:SetW w s.heap a es ep t) (hb:byT w=false->SetTable.below t.place slot=i)
  (h1:∀ e nx,(wf w a ep es)[i]? = some e->(byT w=false->SetTable.below t.place nx=i + 1)->R (some (e.2,nx)) s) (h2:(wf w a ep es)[i]? = none->R none s):wpAny (model prog w) A (setNext a ((slot:Int)).toNat ((i:Int)).toNat ((ep:Int)).toNat) R E s:=by
 obtain ⟨o,ho,hxs,hd⟩:=L.ex
 have hf:=L.fits
 unfold setNext
 refine AA (A5 ho hd hf ?_)
 unfold setsByText
 dsimp only
 refine AA (AA (B7 (AB ?_)))
 rw [BD,BD,BD]
 by_cases hby:byT w=true
 ·rw [AG (by exact hby),AN (by simp)]
  unfold setWalk setsByText
  refine AA (AA (A5 ho hd hf ?_))
  dsimp only
  refine AA (AA (B7 (AB ?_)))
  rw [AG (by exact hby)]
  refine AA (B7 (AB (AB ?_)))
  have eo:wf w a ep es=pickOrder (w.params.setOrder a ep) es:=by unfold wf;rw [AG hby]
  rw [eo] at h1 h2
  show R (((pickOrder (w.params.setOrder a ep) es)[i]?).map fun e=>(e.2,slot)) s
  cases hx:(pickOrder (w.params.setOrder a ep) es)[i]? with
  |none=>exact h2 hx
  |some e=>exact h1 e slot hx fun q=>by rw [q] at hby;cases hby
 ·have hby':byT w=false:=by cases h:byT w with |true=>exact absurd h hby |false=>rfl
  rw [AN (by exact hby),AN (by
   intro q
   have q2:(!t.plain&&decide (es.size > 1))=true:=q
   rw [L.T.pl] at q2
   cases q2)]
  have eo:wf w a ep es=es:=by unfold wf;rw [AN hby]
  rw [eo] at h1 h2
  have hled:t.led=true:=by rw [L.T.led,hby'];rfl
  refine AA (An (a:=()) ?_ (AB ?_))
  ·show (if (!t.led && !es.isEmpty)=true then unsupported "set:maker-not-led" else pure ())=pure ()
   rw [hled]
   rfl
  ·rw [hb hby']
   have hps:t.place.size=es.size:=L.T.g.sz
   cases hx:es[i]? with
   |none=>exact h2 hx
   |some e =>
    have hi:i < es.size:=(BU.mp hx).1
    have hp:t.place[i]? = some (t.place.getD i 0):=by
     rw [AR,AT (by omega)];rfl
    rw [hp]
    exact h1 e _ hx fun _=>qB1 L.T.g.ris (by omega)
theorem qDP {Q:Option Value->Shared->Prop} (L:SetW w s.heap a es ep t) (I:ItW w s.heap it a es ep t i) {e:Int×Value} (hx:(wf w a ep es)[i]? = some e)
  (hQ:∀ h',ItW w h' it a es ep t (i + 1)->Heap.SameBut it s.heap h'->Q (some e.2) { s with heap:=h' }):wpAny (model prog w) A (pyNext (.ref it)) Q E s:=by
 obtain ⟨o,ho,hxs,hd⟩:=L.ex
 obtain ⟨oi,slot,hoi,hci,hdi,hb⟩:=id I
 unfold pyNext
 refine AA (Bs (Ay (name:=Str.ofString "__next__") I.typeIs slot_setit (A7 slot_setit I.typeIs Z4 ?_ (Yb _))))
 unfold Builtin.«set_iterator.__next__»
 refine AA (An (a:=(.ref it,[])) rfl ?_)
 dsimp only
 refine AA (wpAny_fieldsOf hoi hdi ?_)
 dsimp only
 unfold setEntries
 refine AA (AA (A5 ho hd L.fits (AB ?_)))
 rw [AN (by simp)]
 refine AA (jU L hb (fun e' nx he hn => ?_) fun he => ?_)
 ·rw [hx] at he;cases he
  dsimp only
  refine AA (BV hoi hdi (by simp) ?_)
  have ho1:=A2 (Obj.mapFields fun x=>x.setIfInBounds 0 (rawInt (nx:Int))) hoi (Bj (BA hdi _))
  refine AA (BV ho1 (BA hdi _) (by simp) ?_)
  have ho2:=A2 (Obj.mapFields fun x=>x.setIfInBounds 1 (rawInt ((i:Int) + 1))) ho1 (Bj (BA (BA hdi _) _))
  refine AB ⟨_,rfl,AB (hQ _ ⟨_,nx,ho2,?_,?_,hn⟩ ⟨?_,fun b hb' => ?_⟩)⟩
  ·rw [CJ,CJ];exact hci
  ·rw [BA (BA hdi _)];simp [rawInt]
  ·rw [B8,B8]
  ·exact (Ah _ _ (Ne.symm hb')).trans (Ah _ _ (Ne.symm hb'))
 ·rw [hx] at he;cases he
theorem qFN {Q:Option Value->Shared->Prop} (hh:A.handled=none) (L:SetW w s.heap a es ep t) (I:ItW w s.heap it a es ep t i) (hx:(wf w a ep es)[i]? = none)
  (hQ:∀ h',(∀ b o,b≠it->s.heap.get? b=some o->h'.get? b=some o)->Q none { s with heap:=h' }):wpAny (model prog w) A (pyNext (.ref it)) Q E s:=by
 obtain ⟨o,ho,hxs,hd⟩:=L.ex
 obtain ⟨oi,slot,hoi,hci,hdi,hb⟩:=id I
 unfold pyNext
 refine AA (Bs (Ay (name:=Str.ofString "__next__") I.typeIs slot_setit (A7 slot_setit I.typeIs Z4 ?_ (Yb _))))
 unfold Builtin.«set_iterator.__next__»
 refine AA (An (a:=(.ref it,[])) rfl ?_)
 dsimp only
 refine AA (wpAny_fieldsOf hoi hdi ?_)
 dsimp only
 unfold setEntries
 refine AA (AA (A5 ho hd L.fits (AB ?_)))
 rw [AN (by simp)]
 refine AA (jU L hb (fun e' nx he hn=>by rw [hx] at he;cases he) fun he => ?_)
 dsimp only
 refine AA (BV hoi hdi (by simp) ?_)
 refine zr (A:=A.in1) (fun v hv=>by rw [show A.in1.handled=A.handled from rfl,hh] at hv;cases hv) fun h' e k ht => ?_
 refine AA (BG (T := "StopIteration") (b:=true) ht Ck ?_)
 exact AB (hQ _ fun b o' hb' q=>k b o' ((Ah _ _ (Ne.symm hb')).trans q))
end
section
variable {prog:Program} {w:World} {A:Around} {E:Value->Shared->Prop} {R:Result->Shared->Prop} {a it:Addr} {es:Array (Int×Value)} {ep:Nat} {t:SetTable}
theorem SetW.same {h h':Heap} (L:SetW w h a es ep t) (e:∀ o,h.get? a=some o->h'.get? a=some o):SetW w h' a es ep t:=by
 obtain ⟨⟨o,h1,h2⟩,T,n⟩:=L
 exact ⟨⟨o,e o h1,h2⟩,T,n⟩
theorem ItW.same {h h':Heap} {i:Nat} (L:ItW w h it a es ep t i) (e:∀ o,h.get? it=some o->h'.get? it=some o):ItW w h' it a es ep t i:=by
 obtain ⟨o,sl,h1,h2⟩:=L
 exact ⟨o,sl,e o h1,h2⟩
theorem qGF {D:Addr} (hh:A.handled=none) (hDa:a≠D) (hDi:it≠D) (hai:a≠it):∀ (k i:Nat) (s:Shared) (n:Nat),es.size - i=k->i≤es.size->SetW w s.heap a es ep t->ItW w s.heap it a es ep t i->s.heap.get? D=some (seqObj "list" (((wf w a ep es).toList.take i).map (·.2)).toArray n) ->
  (∀ (h':Heap) (n':Nat),(∀ b o,b≠D->b≠it->s.heap.get? b=some o->h'.get? b=some o)->h'.get? D=some (seqObj "list" ((wf w a ep es).toList.map (·.2)).toArray n')->R (.ok (.ret (.ref D))) { s with heap:=h' }) ->
  codeAny (model prog w) A (.builtin "list.extend.loop" ⟨[.ref D,.ref it,.ref D],[]⟩) R s:=by
 intro k
 induction k with
 |zero =>
  intro i s n hk hi L I hD h
  have hi':i=es.size:=by omega
  refine Bc jp ?_
  rw [Bo zI]
  unfold Builtin.«list.extend.loop»
  refine AA (qFN hh L I (by rw [Array.getElem?_eq_none];rw [zf];omega) fun h' hk' => ?_)
  dsimp only
  refine AB (h h' n (fun b o h1 h2=>hk' b o h2) ?_)
  rw [hk' D _ (Ne.symm hDi) hD,List.take_of_length_le (by rw [AX,zf];omega)]
 |succ k ih =>
  intro i s n hk hi L I hD h
  have hi':i < (wf w a ep es).size:=by rw [zf];omega
  refine Bc jp ?_
  rw [Bo zI]
  unfold Builtin.«list.extend.loop»
  refine AA (qDP L I (AT hi') fun h' I' sb => ?_)
  dsimp only
  unfold Builtin.List.listUpdate
  dsimp only
  have hD':h'.get? D=some (seqObj "list" (((wf w a ep es).toList.take i).map (·.2)).toArray n):=(sb.2 D (Ne.symm hDi)).trans hD
  have hlen:(((wf w a ep es).toList.take i).map (·.2)).length≤300:=by
   rw [AF,Bh,AX,zf]
   have:=L.n
   omega
  have hsz:(((wf w a ep es).toList.take i).map (·.2)).toArray.size≤300:=by rw [AS];exact hlen
  refine AA (wpAny_updateSeq hD' rfl ?_ (Aa hsz (by decide)) (by rw [Array.size_push];exact Aa (CQ hsz) (by decide)))
  have e1:((((wf w a ep es).toList.take i).map (·.2)).toArray.push (wf w a ep es)[i].2)=((((wf w a ep es).toList.take (i + 1)).map (·.2)).toArray):=by
   have hl:i < (wf w a ep es).toList.length:=by rw [AX];exact hi'
   rw [B6 hl,BX,List.push_toArray]
   rfl
  have hu:∃ n2,(h'.update D (Obj.mapSeq fun x=>x.push (wf w a ep es)[i].2)).get? D=some (seqObj "list" (((wf w a ep es).toList.take (i + 1)).map (·.2)).toArray n2):=by
   rw [A2 _ hD' rfl,← e1]
   exact ⟨_,rfl⟩
  obtain ⟨n2,hu⟩:=hu
  refine AB ⟨plainId_quiet zI _,?_⟩
  refine ih (i + 1) _ n2 (by omega) (by rw [zf] at hi';omega) (L.same fun o ho => ?_) (I'.same fun o ho => ?_) hu fun h2 n3 hb2 hD2=>h h2 n3 (fun b o h3 h4 ho=>hb2 b o h3 h4 ?_) hD2
  ·exact (Ah _ _ (Ne.symm hDa)).trans ((sb.2 a hai).trans ho)
  ·exact (Ah _ _ (Ne.symm hDi)).trans ho
  ·exact (Ah _ _ (Ne.symm h3)).trans ((sb.2 b h4).trans ho)
theorem qEa {s:Shared} {Q:List Value->Shared->Prop} (hh:A.handled=none) (L:SetW w s.heap a es ep t)
  (hQ:∀ h',(∀ b o,s.heap.get? b=some o->h'.get? b=some o)->s.heap.objs.size≤h'.objs.size->Q ((wf w a ep es).toList.map (·.2)) { s with heap:=h' }):wpAny (model prog w) A (collect (.ref a)) Q E s:=by
 have hlt:a < s.heap.objs.size:=by obtain ⟨o,ho,_⟩:=L.ex;exact AM ho
 unfold collect
 refine AA (wpAny_runValue (Bc F.entry_proto_collect ?_))
 rw [Bo F.plain_proto_collect]
 unfold Builtin.«proto.collect»
 dsimp only
 refine AA (Cn ?_)
 refine AB ⟨plainId_quiet F.plain_list_iadd _,Bc F.entry_list_iadd ?_⟩
 rw [Bo F.plain_list_iadd]
 unfold Builtin.«list.__iadd__»
 refine AA (An (a:=(.ref s.heap.objs.size,[.ref a])) rfl ?_)
 dsimp only
 unfold Builtin.List.listExtendWith
 have L1:SetW w (s.heap.push { cls := .type "list",data := .seq ([]:List Value).toArray }) a es ep t:=L.same fun o ho=>AC _ ho
 refine AA (Bf (T := "set") L1.typeIs ?_)
 have hne:(s.heap.objs.size==a)=false:=AH.mpr (CN hlt)
 rw [AN (by
  show ¬ ((s.heap.objs.size==a || _ || _)=true)
  rw [hne]
  decide)]
 refine AA (qDk L1 ?_)
 have L2:SetW w ((s.heap.push { cls := .type "list",data := .seq ([]:List Value).toArray }).push { cls := .type "set_iterator",data := .fields #[.int 0 0,.int 0 0,.ref a,.int es.size 0,.int ep 0] }) a es ep t:=L1.same fun o ho=>AC _ ho
 refine AA (Au (EX.hint_set L2.typeIs ?_))
 dsimp only
 rw [AG (by decide +kernel)]
 have hz:(s.heap.push { cls := .type "list",data := .seq ([]:List Value).toArray }).objs.size=s.heap.objs.size + 1:=A8 ..
 have hD0:((s.heap.push { cls := .type "list",data := .seq ([]:List Value).toArray }).push { cls := .type "set_iterator",data := .fields #[.int 0 0,.int 0 0,.ref a,.int es.size 0,.int ep 0] }).get? s.heap.objs.size=some (seqObj "list" #[] 0):=AC _ (AV _ rfl)
 refine AA (B3 (AA ?_))
 unfold Builtin.List.listTouch Builtin.List.listUpdate
 dsimp only
 refine AA (wpAny_updateSeq hD0 rfl ?_ (by decide) (by decide))
 have hD1:=A2 (Obj.mapSeq fun x=>x.push Value.none) hD0 rfl
 refine wpAny_updateSeq hD1 rfl ?_ (by decide) (by decide)
 have hD2:∃ n,((((s.heap.push { cls := .type "list",data := .seq ([]:List Value).toArray }).push { cls := .type "set_iterator",data := .fields #[.int 0 0,.int 0 0,.ref a,.int es.size 0,.int ep 0] }).update s.heap.objs.size (Obj.mapSeq fun x=>x.push Value.none)).update s.heap.objs.size (Obj.mapSeq fun x=>x.pop)).get? s.heap.objs.size=some (seqObj "list" #[] n):=by
  rw [A2 _ hD1 rfl];exact ⟨_,rfl⟩
 obtain ⟨n2,hD2⟩:=hD2
 have hkeep:∀ b o,b≠s.heap.objs.size->((s.heap.push { cls := .type "list",data := .seq ([]:List Value).toArray }).push { cls := .type "set_iterator",data := .fields #[.int 0 0,.int 0 0,.ref a,.int es.size 0,.int ep 0] }).get? b=some o->((((s.heap.push { cls := .type "list",data := .seq ([]:List Value).toArray }).push { cls := .type "set_iterator",data := .fields #[.int 0 0,.int 0 0,.ref a,.int es.size 0,.int ep 0] }).update s.heap.objs.size (Obj.mapSeq fun x=>x.push Value.none)).update s.heap.objs.size (Obj.mapSeq fun x=>x.pop)).get? b=some o:=fun b o hb ho=>(Ah _ _ (Ne.symm hb)).trans ((Ah _ _ (Ne.symm hb)).trans ho)
 have hi1:(s.heap.push { cls := .type "list",data := .seq ([]:List Value).toArray }).objs.size≠s.heap.objs.size:=by rw [hz];exact CN (Nat.lt_succ_self _)
 refine AB ⟨plainId_quiet zI _,?_⟩
 refine qGF (w:=w) (t:=t) (ep:=ep) (es:=es) (a:=a) hh (AZ hlt) hi1 (by rw [hz];exact AZ (BE hlt)) _ 0 _ n2 rfl (BJ _) (L2.same fun o ho=>hkeep a o (AZ hlt) ho) ⟨_,0,hkeep _ _ hi1 (AV _ rfl),rfl,rfl,fun _=>qBx L.T.g.ris⟩ hD2 fun h' n' hk hD => ?_
 dsimp only
 refine AA (wpAny_load' hD ?_)
 refine AB ?_
 have:=hQ h' (fun b o ho=>hk b o (AZ (AM ho)) (by rw [hz];exact AZ (BE (AM ho))) (hkeep b o (AZ (AM ho)) (AC _ (AC _ ho)))) (Ch (AM hD))
 simpa using this
end
open EX
def Z9 (acc:List (List Int)) (k:List Int):List (List Int):=if k∈acc then acc else acc++[k]
def ddT (kss:List (List Int)):List (List Int):=kss.foldl Z9 []
theorem qEP {kss:List (List Int)} {i:Nat} (h:i < kss.length):ddT (kss.take (i + 1))=Z9 (ddT (kss.take i)) (kss.getD i []):=by
 unfold ddT
 rw [B6 h,List.foldl_append,AK,AE h]
 rfl
theorem qDq {a b:List (List Int)} {k:List Int} (h:a.Perm b):(if k∈a then a else a++[k]).Perm (Z9 b k):=by
 unfold Z9
 by_cases q:k∈a
 ·rw [AG q,AG (h.mem_iff.mp q)];exact h
 ·rw [AN q,AN (fun z=>q (h.mem_iff.mpr z))];exact h.append_right _
theorem JG:∀ (kss acc:List (List Int)),(kss.foldl Z9 acc).length≤acc.length + kss.length
 |[],acc=>AL _
 |k::vs,acc=>by
  rw [Bl,AU]
  have h:=JG vs (Z9 acc k)
  have:(Z9 acc k).length≤acc.length + 1:=by
   unfold Z9
   split
   ·omega
   ·rw [AO];exact AL _
  omega
section
variable {prog:Program} {w:World} {A:Around} {E:Value->Shared->Prop} {R:Result->Shared->Prop}
theorem SetT.same {h h':Heap} {a:Addr} {es:Array (Int×Value)} {ep:Nat} {t:SetTable} {kss:List (List Int)} (S:SetT prog w h a es ep t kss) (e:∀ b o,(b=a ∨ ∃ ks,TK prog w h ks b)->h.get? b=some o->h'.get? b=some o):SetT prog w h' a es ep t kss:=by
 obtain ⟨⟨o,h1,h2⟩,el,nd,tb⟩:=S
 exact ⟨⟨o,e a o (.inl rfl) h1,h2⟩,el.keep fun b ks k=>k.keep fun o' ho'=>e b o' (.inr ⟨ks,k⟩) ho',nd,tb⟩
theorem yW {h:Heap} {b:Addr} {o:Obj} (ho:h.get? b=some o) (hc:o.cls ≠ .type "tuple"):∀ ks,¬ TK prog w h ks b:=fun ks ⟨o',_,_,h1,h2,_⟩=>by
 rw [ho] at h1;cases h1;exact hc h2
theorem SetT.not {h:Heap} {a:Addr} {es:Array (Int×Value)} {ep:Nat} {t:SetTable} {kss:List (List Int)} (S:SetT prog w h a es ep t kss) (ks:List Int):¬ TK prog w h ks a:=by
 obtain ⟨o,ho,hx,_⟩:=S.ex
 exact yW ho (by rw [hx.1];decide) ks
theorem qAI {I:Addr} {fp wr:List Addr} {n:Nat} {P:Nat->Value->Prop} {St:Nat->Heap->Prop} (W:Walks prog w A.in1 I fp wr n P St) (hwr:∀ i h,St i h -> ∀ b∈wr,∀ ks,¬ TK prog w h ks b) (hu:A.in1.units < cLine) {Sa:Addr} (hS:Sa ∉ fp) {its:List Value} {kss:List (List Int)} (hn:its.length=n) (h3:n≤299) (hv:∀ i v,P i v->its[i]? = some v) :
  ∀ (k i:Nat) (s:Shared) (es:Array (Int×Value)) (ep:Nat) (t:SetTable) (ks1:List (List Int)),n - i=k->i≤n->St i s.heap->TsV prog w s.heap its kss->SetT prog w s.heap Sa es ep t ks1->(∀ e∈es.toList,e.2∈its)->ks1.Perm (ddT (kss.take i)) ->
   (∀ (h':Heap) (tk:Nat) (es':Array (Int×Value)) (ep':Nat) (t':SetTable) (ks':List (List Int)),(∀ b o,b ∉ Sa::wr->s.heap.get? b=some o->h'.get? b=some o)->SetT prog w h' Sa es' ep' t' ks'->ks'.Perm (ddT kss)->(∀ e∈es'.toList,e.2∈its)->R (.ok (.ret .none)) { s with heap:=h',toks:=tk }) ->
   codeAny (model prog w) A (.builtin "set.update.loop" ⟨[.ref Sa,.ref I],[]⟩) R s:=by
 intro k
 induction k with
 |zero =>
  intro i s es ep t ks1 hk hi hSt V S hE hp h
  have:i=n:=by omega
  subst this
  refine Bc F.entry_set_update_loop ?_
  rw [Bo F.plain_set_update_loop]
  unfold Builtin.«set.update.loop»
  refine AA (W.done _ _ _ hSt fun h' tk hk' => ?_)
  dsimp only
  refine AB ?_
  refine h h' tk es ep t ks1 (fun b o hb'=>hk' b o fun q=>hb' (AD _ q)) (S.same fun b o hb=>hk' b o fun q=>hb.elim (fun z=>hS (W.sub _ (by rw [← z];exact q))) fun ⟨ks,z⟩=>hwr _ _ hSt b q ks z) ?_ ?_
  ·rw [← hn,V.len,CT] at hp
   exact hp
  ·exact hE
 |succ k ih =>
  intro i s es ep t ks1 hk hi hSt V S hE hp h
  have hi':i < n:=by omega
  refine Bc F.entry_set_update_loop ?_
  rw [Bo F.plain_set_update_loop]
  unfold Builtin.«set.update.loop»
  refine AA (W.item i _ _ _ hi' hSt fun v h' tk hP hSt' hk' => ?_)
  obtain ⟨b,hb,kb⟩:=V.get (i:=i) (by omega)
  have hvi:=hv i v hP
  have evb:v = .ref b:=by rw [AK,hvi] at hb;exact hb
  subst evb
  have low:∀ c o,(∃ ks,TK prog w s.heap ks c)->s.heap.get? c=some o->h'.get? c=some o:=fun c o ⟨ks,z⟩=>hk' c o fun q=>hwr _ _ hSt c q ks z
  have kb':TK prog w h' (kss.getD i []) b:=kb.keep fun o=>low b o ⟨_,kb⟩
  have S':SetT prog w h' Sa es ep t ks1:=S.same fun c o hc=>hc.elim (fun z=>hk' c o fun q=>hS (W.sub _ (by rw [← z];exact q))) fun z=>low c o z
  have V':TsV prog w h' its kss:=V.keep low
  dsimp only
  refine AA (Au ?_)
  unfold setAdd
  refine Au (AA (wpAny_pyHash_tuple (s:={ s with heap:=h',toks:=tk }) hu kb' ?_))
  have hl:ks1.length + 1≤300:=by
   have:=JG (kss.take i) []
   have e:(ddT (kss.take i)).length≤i:=by
    have q:=List.length_take_le i kss
    unfold ddT
    have z:([]:List (List Int)).length=0:=rfl
    omega
   rw [hp.length_eq];omega
  refine qJ4 (s:={ s with heap:=h',toks:=tk + ((kss.getD i []).length + 1) }) hu S' kb' hl fun h2 es2 ep2 t2 ks2 hs2 S2 hp2 he2 => ?_
  refine AB ⟨plainId_quiet F.plain_set_update_loop _,?_⟩
  refine ih (i + 1) _ es2 ep2 t2 ks2 (by omega) (by omega) (W.frame _ _ _ hSt' fun b hbf o ho=>by
   rw [hs2.2 b (fun z=>hS (by rw [← z];exact hbf))];exact ho) ?_ S2 (fun e he=>(he2 e he).elim (hE e) fun z=>by rw [z];exact Aw hvi) ?_ fun h3 tk3 es3 ep3 t3 ks3 hh S3 hp3 hE3 => ?_
  ·exact V'.keep fun c o ⟨ks,z⟩ ho=>(hs2.2 c (fun e=>S'.not ks (by rw [← e];exact z))).trans ho
  ·rw [qEP (by rw [← V.len];omega)]
   exact hp2.trans (qDq hp)
  ·exact h h3 tk3 es3 ep3 t3 ks3 (fun b o hbn ho=>hh b o hbn (by
    have:b≠Sa:=fun z=>hbn (by rw [z];exact AI)
    rw [hs2.2 b this]
    exact hk' b o (fun q=>hbn (AD _ q)) ho)) S3 hp3 hE3
theorem qCN {h:Heap} {led:Bool} (hl:led = !byT w):SetT prog w (h.push { cls := .type "set",data := .set #[] 0 (SetTable.fresh 0 0 led) }) h.objs.size #[] 0 (SetTable.fresh 0 0 led) [] :=
 ⟨⟨_,AV _ rfl,⟨rfl,rfl,rfl⟩,rfl⟩,.nil,List.nodup_nil,⟨⟨rfl,rfl,fun i k _ hk=>absurd hk (BR _),fun j hj=>(AY hj).elim,BJ _⟩,fun q hq=>(AY hq).elim,.inl ⟨rfl,BJ _⟩,hl,rfl⟩⟩
theorem qB2 {s:Shared} {l:Addr} {items:Array Value} {kss:List (List Int)} {Q:Value->Shared->Prop} (hh:A.handled=none) (hu:A.units + 8 < cLine) (hl:s.heap.IsList l items) (V:TsV prog w s.heap items.toList kss) (h3:kss.length≤299)
  (h:∀ (h':Heap) (tk:Nat) (es':Array (Int×Value)) (ep':Nat) (t':SetTable) (ks':List (List Int)),SetT prog w h' s.heap.objs.size es' ep' t' ks'->ks'.Perm (ddT kss)->(∀ e∈es'.toList,e.2∈items.toList)->(∀ b o,b < s.heap.objs.size->s.heap.get? b=some o->h'.get? b=some o)->Q (.ref s.heap.objs.size) { s with heap:=h',toks:=tk }) :
  wpAny (model prog w) A (call (.type "set") [.ref l]) Q E s:=by
 refine CD (codeAny_of_tree (An (a:=Fin.again (.builtin "type.__call__" ⟨[.type "set",.ref l],[]⟩)) rfl ⟨Code.quiet_builtin _ (by decide +kernel),?_⟩))
 refine Bc F.entry_type_call ?_
 rw [Around.under_plain (weight_type_call_type _ _ _) rfl]
 unfold Builtin.«type.__call__»
 dsimp only
 rw [AN (by rw [F.called_set.notType];decide),AN (by rw [F.called_set.canCreate];decide)]
 refine AA (An (F.typeCall_set_1 _) ?_)
 obtain ⟨c,tl,hm⟩:=F.called_set.mro
 refine AA (An hm ?_)
 rw [AN (by simp)]
 refine AA (An F.called_set.made ?_)
 dsimp only
 refine AA (AB (AA (Au (CD (qCI ?_)))))
 have hT:({ s with heap:=s.heap.push { cls := .type "set",data := .set #[] 0 (SetTable.fresh 0 0 (!byT w)) } }:Shared).TypeIs (.ref s.heap.objs.size) "set" := ⟨_,AV _ rfl,rfl⟩
 refine AA (BG hT sub_set_self ?_)
 rw [AN (by decide)]
 refine AA (Au ?_)
 unfold callSpecial?
 refine AA (wpAny_specialOf hT F.called_set.init.lookup ?_)
 dsimp only
 refine Au (AA (An (F.called_set.init.bind _) ?_))
 dsimp only
 refine AA (CD (CS F.called_set.init.plain F.entry_set_init (check_set_init_1 hT ?_)))
 unfold Builtin.«set.__init__»
 refine AA (An (a:=()) rfl ?_)
 show wpAny _ _ (do
  let n ← typeNameOfCut 200 (.ref s.heap.objs.size)
  checkCount n 0 1 1
  let a ← Builtin.Frozenset.addrOf (.ref s.heap.objs.size)
  let u ← setUsed a
  if u=true then do
   Builtin.Frozenset.clearAll a
   Builtin.Frozenset.updateFrom "set.__init__" a (.ref l)
   ret Value.none
  else do
   Builtin.Frozenset.updateFrom "set.__init__" a (.ref l)
   ret Value.none) _ _ _
 unfold typeNameOfCut shownTypeOf
 refine AA (AA (AA (Bf hT ?_)))
 rw [AN (by decide)]
 refine AB (An (a := "set") (by rfl) ?_)
 refine AA (An (a:=()) rfl ?_)
 refine AA (An (a:=s.heap.objs.size) rfl ?_)
 unfold setUsed
 have hg:(s.heap.push { cls := .type "set",data := .set #[] 0 (SetTable.fresh 0 0 (!byT w)) }).get? s.heap.objs.size=some { cls := .type "set",data := .set #[] 0 (SetTable.fresh 0 0 (!byT w)) }:=AV _ rfl
 refine AA (AA (A5 hg rfl rfl (AB ?_)))
 rw [AN (by intro q;exact Bool.noConfusion (show false=true from q))]
 refine AA ?_
 unfold Builtin.Frozenset.updateFrom Builtin.Frozenset.isAnySet
 have hl':(s.heap.push { cls := .type "set",data := .set #[] 0 (SetTable.fresh 0 0 (!byT w)) }).IsList l items:=hl.push _
 refine AA (AA (BG (T := "list") hl'.typeIs F.sub_list_set ?_))
 show wpAny _ _ (isInstance (.ref l) (.type "frozenset")) _ _ _
 refine BG (T := "list") hl'.typeIs F.sub_list_frozenset ?_
 rw [AN (by decide)]
 refine AA (Bf (T := "list") hl'.typeIs ?_)
 rw [AN (by decide)]
 refine AA (wpAny_pyIter_list hl' (AA (wpAny_runValue ?_)))
 have hlt:l < s.heap.objs.size:=by obtain ⟨o,ho,_⟩:=hl;exact AM ho
 have hS:=qCN (prog:=prog) (w:=w) (h:=s.heap) (led := !byT w) rfl
 have hsz:(s.heap.push { cls := .type "set",data := .set #[] 0 (SetTable.fresh 0 0 (!byT w)) }).objs.size=s.heap.objs.size + 1:=A8 ..
 have hlen:items.size=kss.length:=by rw [← V.len,AX]
 refine qAI (A:=A.in1.in1) (Walks.list (A:=A.in1.in1.in1) hh (s.heap.push { cls := .type "set",data := .set #[] 0 (SetTable.fresh 0 0 (!byT w)) }).objs.size l (by rw [hsz];exact AZ (BE hlt)) items) (fun i h' hst b hb ks=>by
  rw [Ak.mp hb]
  obtain ⟨o,ho,hc,_⟩:=hst.1
  exact yW ho (by rw [hc];decide) ks) (by show A.units + 3 < cLine;omega) (Sa:=s.heap.objs.size) (by
  rw [hsz];intro q
  rcases AJ.mp q with q |q
  ·exact absurd q (by show ¬ s.heap.objs.size=s.heap.objs.size + 1;omega)
  ·have:=Ak.mp q;exact absurd hlt (by rw [← this];exact BZ _)) (its:=items.toList) (kss:=kss) (by rw [AX]) (by omega) (fun i v hi=>by rw [A3];exact hi) _ 0 _ #[] 0 _ [] rfl (BJ _) ⟨⟨_,AV _ rfl,rfl,rfl⟩,hl'.push _⟩ (V.keep fun b o _ ho=>AC _ (AC _ ho)) (hS.same fun b o _ ho=>AC _ ho) (fun e he=>(AY he).elim) (by rw [List.take_zero];exact .refl _) fun h' tk es' ep' t' ks' hk S' hp hE' => ?_
 refine AB (AB ?_)
 refine AB ?_
 dsimp only
 rw [AN (by decide)]
 refine AB ?_
 refine h h' tk es' ep' t' ks' S' hp hE' fun b o hb' ho=>hk b o (fun q => ?_) (AC _ (AC _ ho))
 rw [hsz] at q
 rcases AJ.mp q with q |q
 ·exact absurd hb' (by rw [q];exact BZ _)
 ·have:=Ak.mp q;exact absurd hb' (by rw [this];exact Nat.not_lt_of_le (Nat.le_succ _))
theorem qBM {s:Shared} {l:Addr} {items:Array Value} {kss:List (List Int)} {Q:Value->Shared->Prop} (hh:A.handled=none) (hu:A.units + 8 < cLine) (hl:s.heap.IsTuple l items) (V:TsV prog w s.heap items.toList kss) (h3:kss.length≤299)
  (h:∀ (h':Heap) (tk:Nat) (es':Array (Int×Value)) (ep':Nat) (t':SetTable) (ks':List (List Int)),SetT prog w h' s.heap.objs.size es' ep' t' ks'->ks'.Perm (ddT kss)->(∀ e∈es'.toList,e.2∈items.toList)->(∀ b o,b < s.heap.objs.size->s.heap.get? b=some o->h'.get? b=some o)->Q (.ref s.heap.objs.size) { s with heap:=h',toks:=tk }) :
  wpAny (model prog w) A (call (.type "set") [.ref l]) Q E s:=by
 refine CD (codeAny_of_tree (An (a:=Fin.again (.builtin "type.__call__" ⟨[.type "set",.ref l],[]⟩)) rfl ⟨Code.quiet_builtin _ (by decide +kernel),?_⟩))
 refine Bc F.entry_type_call ?_
 rw [Around.under_plain (weight_type_call_type _ _ _) rfl]
 unfold Builtin.«type.__call__»
 dsimp only
 rw [AN (by rw [F.called_set.notType];decide),AN (by rw [F.called_set.canCreate];decide)]
 refine AA (An (F.typeCall_set_1 _) ?_)
 obtain ⟨c,tl,hm⟩:=F.called_set.mro
 refine AA (An hm ?_)
 rw [AN (by simp)]
 refine AA (An F.called_set.made ?_)
 dsimp only
 refine AA (AB (AA (Au (CD (qCI ?_)))))
 have hT:({ s with heap:=s.heap.push { cls := .type "set",data := .set #[] 0 (SetTable.fresh 0 0 (!byT w)) } }:Shared).TypeIs (.ref s.heap.objs.size) "set" := ⟨_,AV _ rfl,rfl⟩
 refine AA (BG hT sub_set_self ?_)
 rw [AN (by decide)]
 refine AA (Au ?_)
 unfold callSpecial?
 refine AA (wpAny_specialOf hT F.called_set.init.lookup ?_)
 dsimp only
 refine Au (AA (An (F.called_set.init.bind _) ?_))
 dsimp only
 refine AA (CD (CS F.called_set.init.plain F.entry_set_init (check_set_init_1 hT ?_)))
 unfold Builtin.«set.__init__»
 refine AA (An (a:=()) rfl ?_)
 show wpAny _ _ (do
  let n ← typeNameOfCut 200 (.ref s.heap.objs.size)
  checkCount n 0 1 1
  let a ← Builtin.Frozenset.addrOf (.ref s.heap.objs.size)
  let u ← setUsed a
  if u=true then do
   Builtin.Frozenset.clearAll a
   Builtin.Frozenset.updateFrom "set.__init__" a (.ref l)
   ret Value.none
  else do
   Builtin.Frozenset.updateFrom "set.__init__" a (.ref l)
   ret Value.none) _ _ _
 unfold typeNameOfCut shownTypeOf
 refine AA (AA (AA (Bf hT ?_)))
 rw [AN (by decide)]
 refine AB (An (a := "set") (by rfl) ?_)
 refine AA (An (a:=()) rfl ?_)
 refine AA (An (a:=s.heap.objs.size) rfl ?_)
 unfold setUsed
 have hg:(s.heap.push { cls := .type "set",data := .set #[] 0 (SetTable.fresh 0 0 (!byT w)) }).get? s.heap.objs.size=some { cls := .type "set",data := .set #[] 0 (SetTable.fresh 0 0 (!byT w)) }:=AV _ rfl
 refine AA (AA (A5 hg rfl rfl (AB ?_)))
 rw [AN (by intro q;exact Bool.noConfusion (show false=true from q))]
 refine AA ?_
 unfold Builtin.Frozenset.updateFrom Builtin.Frozenset.isAnySet
 have hl':(s.heap.push { cls := .type "set",data := .set #[] 0 (SetTable.fresh 0 0 (!byT w)) }).IsTuple l items:=hl.push _
 refine AA (AA (BG (T := "tuple") hl'.typeIs F.sub_tuple_set ?_))
 show wpAny _ _ (isInstance (.ref l) (.type "frozenset")) _ _ _
 refine BG (T := "tuple") hl'.typeIs F.sub_tuple_frozenset ?_
 rw [AN (by decide)]
 refine AA (Bf (T := "tuple") hl'.typeIs ?_)
 rw [AN (by decide)]
 refine AA (Cj hl' (AA (wpAny_runValue ?_)))
 have hlt:l < s.heap.objs.size:=by obtain ⟨o,ho,_⟩:=hl;exact AM ho
 have hS:=qCN (prog:=prog) (w:=w) (h:=s.heap) (led := !byT w) rfl
 have hsz:(s.heap.push { cls := .type "set",data := .set #[] 0 (SetTable.fresh 0 0 (!byT w)) }).objs.size=s.heap.objs.size + 1:=A8 ..
 have hlen:items.size=kss.length:=by rw [← V.len,AX]
 refine qAI (A:=A.in1.in1) (Walks.tuple (A:=A.in1.in1.in1) hh (s.heap.push { cls := .type "set",data := .set #[] 0 (SetTable.fresh 0 0 (!byT w)) }).objs.size l (by rw [hsz];exact AZ (BE hlt)) items) (fun i h' hst b hb ks=>by
  rw [Ak.mp hb]
  obtain ⟨o,ho,hc,_⟩:=hst.1
  exact yW ho (by rw [hc];decide) ks) (by show A.units + 3 < cLine;omega) (Sa:=s.heap.objs.size) (by
  rw [hsz];intro q
  rcases AJ.mp q with q |q
  ·exact absurd q (by show ¬ s.heap.objs.size=s.heap.objs.size + 1;omega)
  ·have:=Ak.mp q;exact absurd hlt (by rw [← this];exact BZ _)) (its:=items.toList) (kss:=kss) (by rw [AX]) (by omega) (fun i v hi=>by rw [A3];exact hi) _ 0 _ #[] 0 _ [] rfl (BJ _) ⟨⟨_,AV _ rfl,rfl,rfl⟩,hl'.push _⟩ (V.keep fun b o _ ho=>AC _ (AC _ ho)) (hS.same fun b o _ ho=>AC _ ho) (fun e he=>(AY he).elim) (by rw [List.take_zero];exact .refl _) fun h' tk es' ep' t' ks' hk S' hp hE' => ?_
 refine AB (AB ?_)
 refine AB ?_
 dsimp only
 rw [AN (by decide)]
 refine AB ?_
 refine h h' tk es' ep' t' ks' S' hp hE' fun b o hb' ho=>hk b o (fun q => ?_) (AC _ (AC _ ho))
 rw [hsz] at q
 rcases AJ.mp q with q |q
 ·exact absurd hb' (by rw [q];exact BZ _)
 ·have:=Ak.mp q;exact absurd hb' (by rw [this];exact Nat.not_lt_of_le (Nat.le_succ _))
end
end ET
end
section
namespace ET
open PySem PySem.Spec PyProof.Rows L2 PySem.W
open EX
section
variable {prog:Program} {w:World} {A:Around} {E:Value->Shared->Prop} {s:Shared}
theorem TsV.pick {h:Heap} {vs:List Value} {kss:List (List Int)} (e:TsV prog w h vs kss) (hne:∀ ks∈kss,ks≠[]):∀ (l:List Nat),(∀ i∈l,i < vs.length)->TsV prog w h (l.map fun i=>vs.getD i Value.none) (l.map fun i=>kss.getD i [])
 |[],_ => .nil
 |i::l,hl=>by
  have hi:=hl i AI
  obtain ⟨b,h1,h2⟩:=e.get hi
  rw [Ap,Ap,h1]
  refine .cons h2 ?_ (e.pick hne l fun j hj=>hl j (AD _ hj))
  have hk:i < kss.length:=by rw [← e.len];exact hi
  refine hne _ ?_
  rw [AK,AE hk]
  exact B9 hk
theorem TsV.ne {h:Heap} {vs:List Value} {kss:List (List Int)} (e:TsV prog w h vs kss):∀ ks∈kss,ks≠[]:=by
 induction e with
 |nil=>intro ks hk;cases hk
 |cons _ ne _ ih =>
  intro ks hk
  rcases AJ.mp hk with q |q
  ·rw [q];exact ne
  ·exact ih ks q
theorem PB.mem {n:Nat} {p:Array Nat} (B:PB n p):∀ i∈p.toList,i < n:=fun i hi=>by
 have:=(Array.perm_iff_toList_perm.mp B.perm).mem_iff.mp hi
 simpa using this
theorem qI8 {a:Addr} {vs:List Value} {kss:List (List Int)} {n:Nat} {P:PySem.Fin->Shared->Prop} (hu:A.units < cLine) (ho:s.heap.get? a=some (seqObj "list" vs.toArray n)) (V:TsV prog w s.heap vs kss) (h64:vs.length < 64)
  (h:∀ out:List Value,(∀ v∈out,v∈vs)->out.length=vs.length->TsV prog w s.heap out (srt kss)->P (.done (.ret .none)) { s with heap:=sortedHeap s.heap a vs out.toArray }) :
  wpAny (model prog w) A (Builtin.«list.sort» ⟨[.ref a],[]⟩) P E s:=by
 have hna:∀ b,(∃ ks,TK prog w s.heap ks b)->b≠a:=fun b ⟨ks,k⟩ z=>yW ho (show Value.type "list" ≠ Value.type "tuple" by decide) ks (by rw [← z];exact k)
 refine qGa (O:=lxO) (key:=fun i=>kss.getD i []) (κ:=tuples' true) ho h64 (fun h2 h6 Q k q => ?_) (fun h6 i j C k hi hj q => ?_) fun p B S => ?_
 ·exact qIR (s:={ s with heap:=h6 }) (V.keep fun b o z ho=>k b o (hna b z) ho) h2 q
 ·obtain ⟨b,e1,k1⟩:=V.get hi
  obtain ⟨c,e2,k2⟩:=V.get hj
  rw [e1,e2]
  exact qKF (s:={ s with heap:=h6 }) (k1.keep fun o=>k b o (hna b ⟨_,k1⟩)) (k2.keep fun o=>k c o (hna c ⟨_,k2⟩)) q
 ·have:=V.pick V.ne p.toList B.mem
  rw [qKX V B S] at this
  refine h _ (fun v hv => ?_) (by rw [AF,AX,B.size]) this
  obtain ⟨i,hi,rfl⟩:=Al.mp hv
  have hi:=B.mem i hi
  rw [AK,AE hi]
  exact B9 hi
theorem qAO {a:Addr} {es:Array (Int×Value)} {ep:Nat} {t:SetTable} {kss:List (List Int)} {its:List Value} {Q:Value->Shared->Prop} (hh:A.handled=none) (hu:A.units + 8 < cLine) (S:SetT prog w s.heap a es ep t kss) (hn:kss.length < 64) (hne:∀ ks∈kss,ks≠[]) (hE:∀ e∈es.toList,e.2∈its)
  (h:∀ (h':Heap) (D:Addr) (out:List Value) (e:Nat),s.heap.objs.size≤D->h'.get? D=some (seqObj "list" out.toArray e)->TsV prog w h' out (srt kss)->out.length=kss.length->(∀ v∈out,v∈its)->(∀ b o,s.heap.get? b=some o->h'.get? b=some o)->Q (.ref D) { s with heap:=h' }) :
  wpAny (model prog w) A (call (.builtin "sorted") [.ref a]) Q E s:=by
 have hsz:es.size=kss.length:=by rw [← S.el.len,AX]
 have L:SetW w s.heap a es ep t:=⟨S.ex,S.tb,by omega⟩
 refine Calls.call_function_entry kind_sorted plain_sorted entry_sorted (args_sorted1 _) ?_
 unfold Builtin.sorted
 refine AA (An (a:=()) rfl ?_)
 refine AA (qEa (A:=A.in1) hh L fun h1 hk1 hs1 => ?_)
 have hperm:=qAt (w:=w) (a:=a) (ep:=ep) (es:=es)
 have hlen:((wf w a ep es).toList.map (·.2)).length=kss.length:=by rw [AF,AX,zf,hsz]
 obtain ⟨kss2,q2,E2⟩:=S.el.perm hperm.symm
 have V1:TsV prog w h1 ((wf w a ep es).toList.map (·.2)) kss2:=by
  have hne2:∀ ks∈kss2,ks≠[]:=fun ks hk=>hne ks (q2.mem_iff.mpr hk)
  have:∀ {l:List (Int×Value)} {k:List (List Int)},EsT prog w s.heap l k->(∀ ks∈k,ks≠[])->TsV prog w h1 (l.map (·.2)) k:=by
   intro l k e
   induction e with
   |nil=>intro _;exact .nil
   |cons a _ ih =>
    intro hn
    exact .cons (a.keep fun o=>hk1 _ o) (hn _ AI) (ih fun ks hk=>hn ks (AD _ hk))
  exact this E2 hne2
 refine AA (Cn ?_ (Aa (Nat.le_of_eq hlen) (by rw [CZ];omega)))
 have hD:(h1.push { cls := .type "list",data := .seq ((wf w a ep es).toList.map (·.2)).toArray }).get? h1.objs.size=some (seqObj "list" ((wf w a ep es).toList.map (·.2)).toArray 0):=AV _ rfl
 refine AA (Au (A7 slot_list_sort ⟨_,hD,rfl⟩ entry_list_sort ?_ (args_list_sort _)))
 refine qI8 (s:={ s with heap:=h1.push { cls := .type "list",data := .seq ((wf w a ep es).toList.map (·.2)).toArray } }) (by show A.units + 2 < cLine;omega) hD (V1.keep fun b o _ ho=>AC _ ho) (by omega) fun out hin hol V2=>⟨_,rfl,?_⟩
 refine AB ⟨_,rfl,?_⟩
 obtain ⟨e,he⟩:=sortedHeap_at (vs:=(wf w a ep es).toList.map (·.2)) (out:=out.toArray) hD
 have hkeep:∀ b o,b≠h1.objs.size->(h1.push { cls := .type "list",data := .seq ((wf w a ep es).toList.map (·.2)).toArray }).get? b=some o->b < h1.objs.size->(sortedHeap (h1.push { cls := .type "list",data := .seq ((wf w a ep es).toList.map (·.2)).toArray }) h1.objs.size ((wf w a ep es).toList.map (·.2)) out.toArray).get? b=some o:=fun b o hb ho hlt=>by
  rw [sortedHeap_old hb (by rw [A8];exact BE hlt)]
  exact ho
 have es':srt kss2=srt kss:=qCw (yQ _) (yQ _) (((wH kss2).trans q2.symm).trans (wH kss).symm)
 refine h _ _ out e hs1 he ?_ (by omega) (fun v hv => ?_) fun b o' hb => ?_
 ·rw [← es']
  refine V2.keep fun b o ⟨ks,k⟩ ho=>hkeep b o (fun z=>yW hD (show Value.type "list" ≠ Value.type "tuple" by decide) ks (by rw [← z];exact k)) ho ?_
  have hlt:=AM ho
  have hnb:b≠h1.objs.size:=fun z=>yW hD (show Value.type "list" ≠ Value.type "tuple" by decide) ks (by rw [← z];exact k)
  rw [A8] at hlt
  have hlt:b < h1.objs.size + 1:=hlt
  exact Nat.lt_of_le_of_ne (CL hlt) hnb
 ·obtain ⟨e',he',rfl⟩:=Al.mp (hin v hv)
  exact hE e' (hperm.mem_iff.mp he')
 ·have hb1:=hk1 b o' hb
  exact hkeep b o' (AZ (AM hb1)) (AC _ hb1) (AM hb1)
end
inductive TsL (K:W.Frag) (H:Hp):List V->List (List Int)->Prop
 |nil:TsL K H [] []
 |cons {a:Addr} {ks:List Int} {xs:List V} {kss:List (List Int)}:SqT K H a (ks.map V.int)->ks≠[]->TsL K H xs kss->TsL K H (.ref a::xs) (ks::kss)
section
variable {X:Cx} {pins:List (Addr×Obj)} {σ:L2.St} {H:Hp} {s:Shared}
theorem qBA {prog:Program} {w:World}:∀ {ks:List Int} {its:List Value},Vals (ks.map V.int) its->ItemsAre (intKind prog w) ks its
 |[],its,h=>by
  cases its with
  |nil=>exact .nil
  |cons u us=>cases h
 |k::ks,its,h=>by
  rw [Ap] at h
  cases h with
  |cons r t =>
   obtain ⟨tk,rfl⟩:=(show ∃ t,_=Value.int k t from r)
   exact .cons (intKind_is prog w k tk) (qBA t)
theorem qHm (I:L2.Inv X pins σ H s) {a:Addr} {ks:List Int} (h:SqT X.K H a (ks.map V.int)):TK X.prog X.w s.heap ks a:=by
 obtain ⟨its,rv,⟨o,h1,h2,n,h3⟩,hz⟩:=I.tuple h
 exact ⟨o,its.toArray,n,h1,h2,h3,qBA rv⟩
theorem qBf (I:L2.Inv X pins σ H s) {xs:List V} {kss:List (List Int)} (h:TsL X.K H xs kss):∀ {its:List Value},Vals xs its->TsV X.prog X.w s.heap its kss:=by
 induction h with
 |nil=>intro its hv;cases hv;exact .nil
 | @cons a ks xs kss h1 ne _ ih =>
  intro its hv
  cases hv with
  |cons r t =>
   obtain rfl:=(show _=Value.ref a from r)
   exact .cons (qHm I h1) ne (ih t)
theorem TsL.mem {xs:List V} {kss:List (List Int)} (h:TsL X.K H xs kss):∀ x∈xs,∃ a ks,x = .ref a∧SqT X.K H a (ks.map V.int)∧ks≠[]:=by
 induction h with
 |nil=>intro x hx;cases hx
 |cons h1 ne _ ih =>
  intro x hx
  rcases AJ.mp hx with q |q
  ·exact ⟨_,_,q,h1,ne⟩
  ·exact ih x q
theorem qDR {xs:List V} {its:List Value} (h:Vals xs its):∀ b,Value.ref b∈its->(∀ x∈xs,∃ a,x=V.ref a)->V.ref b∈xs:=by
 induction h with
 |nil=>intro b hb;cases hb
 | @cons x u xs us r t ih =>
  intro b hb hx
  obtain ⟨a,rfl⟩:=hx _ AI
  obtain rfl:=(show u=Value.ref a from r)
  rcases AJ.mp hb with q |q
  ·cases q;exact AI
  ·exact AD _ (ih b q fun y hy=>hx y (AD _ hy))
theorem TsL.zip {xs:List V} {kss:List (List Int)} (h:TsL X.K H xs kss):∀ a,V.ref a∈xs -> ∃ ks,(V.ref a,ks)∈xs.zip kss∧SqT X.K H a (ks.map V.int):=by
 induction h with
 |nil=>intro a hx;cases hx
 | @cons b ks xs kss h1 ne _ ih =>
  intro a hx
  rw [CG]
  rcases AJ.mp hx with q |q
  ·cases q;exact ⟨ks,AI,h1⟩
  ·obtain ⟨ks,i1,i2⟩:=ih a q
   exact ⟨ks,AD _ i1,i2⟩
theorem qI7 (I:L2.Inv X pins σ H s) {xs:List V} {kss0:List (List Int)} (T:TsL X.K H xs kss0) {its:List Value} (rv:Vals xs its) {h':Heap} (hk:∀ b o,s.heap.get? b=some o->h'.get? b=some o) :
  ∀ {out:List Value} {kss:List (List Int)},TsV X.prog X.w h' out kss->(∀ v∈out,v∈its) -> ∃ L:List (V×List Int),L.map (·.2)=kss∧Vals (L.map (·.1)) out ∧ ∀ q∈L,q∈xs.zip kss0:=by
 intro out kss V
 induction V with
 |nil=>intro _;exact ⟨[],rfl,.nil,fun y hy=>(AY hy).elim⟩
 | @cons ks b vs kss k ne _ ih =>
  intro hin
  obtain ⟨L,h1,h2,h3⟩:=ih fun v hv=>hin v (AD _ hv)
  have hm:=qDR rv b (hin _ AI) fun x hx=>by obtain ⟨a,_,e,_⟩:=T.mem x hx;exact ⟨a,e⟩
  obtain ⟨ks2,hz,hs⟩:=T.zip b hm
  have k2:TK X.prog X.w h' ks2 b:=(qHm I hs).keep fun o=>hk b o
  have:=k.inj k2
  subst this
  exact ⟨(.ref b,ks)::L,by rw [Ap,h1],.cons rfl h2,fun y hy=>(AJ.mp hy).elim (fun z=>by rw [z];exact hz) (h3 y)⟩
end
section
variable {X:Cx} {e:Expr} {te:TE} {p p2 pos pos2:Pos}
theorem qC2:∀ {kss acc:List (List Int)},∀ x∈kss.foldl Z9 acc,x∈acc∨x∈kss
 |[],acc,x,h => .inl h
 |k::kss,acc,x,h=>by
  rw [Bl] at h
  rcases qC2 x h with q |q
  ·unfold Z9 at q
   split at q
   ·exact .inl q
   ·rcases Ar.mp q with q |q
    ·exact .inl q
    ·exact .inr (by rw [Ak.mp q];exact AI)
  ·exact .inr (AD _ q)
def qJK (K:W.Frag) (te:TE):TE:=fun σ H Q=>te σ H fun x H1 => ∃ a xs kss,x = .ref a∧(SqL K H1 a xs∨SqT K H1 a xs)∧TsL K H1 xs kss∧kss.length≤299∧(ddT kss).length < 64 ∧ ∀ p (L:List (V×List Int)),H1 p=none->(∀ q∈L,q∈xs.zip kss)->L.map (·.2)=srt (ddT kss)->Q (.ref p) (upd H1 p (.lst (L.map (·.1))))
theorem qFJ {A:Around} {E:Value->Shared->Prop} {pins:List (Addr×Obj)} {σ:L2.St} {H:Hp} {s:Shared} {Q:Value->Shared->Prop} {a:Addr} {xs:List V} {kss:List (List Int)} (I:L2.Inv X pins σ H s) (hh:A.handled=none) (hu:A.units + 8 < cLine) (hq:SqL X.K H a xs∨SqT X.K H a xs) (T:TsL X.K H xs kss) (h3:kss.length≤299)
  (h:∀ (its:List Value) (h':Heap) (tk:Nat) (es':Array (Int×Value)) (ep':Nat) (t':SetTable) (ks':List (List Int)),Vals xs its->SetT X.prog X.w h' s.heap.objs.size es' ep' t' ks'->ks'.Perm (ddT kss)->(∀ e∈es'.toList,e.2∈its)->(∀ b o,b < s.heap.objs.size->s.heap.get? b=some o->h'.get? b=some o)->Q (.ref s.heap.objs.size) { s with heap:=h',toks:=tk }) :
  wpAny (model X.prog X.w) A (call (.type "set") [.ref a]) Q E s:=by
 rcases hq with hq |hq
 ·obtain ⟨its,rv,ht,hz⟩:=I.list hq
  exact qB2 hh hu ht.isList (by simpa using qBf I T rv) h3 fun h' tk es' ep' t' ks' S hp hE hk=>h its h' tk es' ep' t' ks' rv S hp (by simpa using hE) hk
 ·obtain ⟨its,rv,ht,hz⟩:=I.tuple hq
  exact qBM hh hu ht (by simpa using qBf I T rv) h3 fun h' tk es' ep' t' ks' S hp hE hk=>h its h' tk es' ep' t' ks' rv S hp (by simpa using hE) hk
theorem qEh (hc:X.calm=true) (hu:X.A.units + 64 < cLine) (hg:Gl X "sorted") (hm:X.mg "sorted" = none) (hg2:Gl X "set") (hm2:X.mg "set" = none) (he:PE X e te)
  (h1:starEach [.Call (.Name "set" p2) [e] [] pos2] X.env=(false,eval (.Call (.Name "set" p2) [e] [] pos2) X.env)::starEach [] X.env:=by rfl) (h2:starEach [e] X.env=(false,eval e X.env)::starEach [] X.env:=by rfl) :
  PE X (.Call (.Name "sorted" p) [.Call (.Name "set" p2) [e] [] pos2] [] pos) (qJK X.K te):=by
 intro pins s σ H Q I h
 refine By (Zt I hg hm PyProof.Rows.boot_sorted ?_ (by decide) (by decide))
 refine PyProof.Rows.callWith_builtin1 ?_ h1 rfl
 rw [h1]
 show wpAny _ _ (spliced ((false,eval (.Call (.Name "set" p2) [e] [] pos2) X.env)::[])) _ _ s
 refine Calls.spliced_cons ?_
 refine By (Zt I hg2 hm2 PyProof.Rows.Boot.«set» ?_ (by decide) (by decide))
 refine Bw ?_ h2 rfl
 rw [h2]
 show wpAny _ _ (spliced ((false,eval e X.env)::[])) _ _ s
 refine Calls.spliced_cons (thn (he pins s σ H _ I h) fun u s1 ⟨x,H1,I1,r1,q1⟩=>Calls.spliced_nil ?_)
 obtain ⟨a,xs,kss,rfl,hq,T,h3,h64,q⟩:=q1
 cases r1
 have hh:X.A.handled=none:=I.ok.hd hc
 refine qFJ I1 hh (by omega) hq T h3 fun its h' tk es' ep' t' ks' rv S hp hE hk=>Calls.spliced_nil ?_
 have hne:∀ ks∈ks',ks≠[]:=fun ks hks=>by
  rcases qC2 ks (hp.mem_iff.mp hks) with z |z
  ·cases z
  ·exact (qBf I1 T rv).ne ks z
 refine qAO (s:={ s1 with heap:=h',toks:=tk }) hh (by omega) S (by rw [hp.length_eq];exact h64) hne hE fun h3 D out e' hD hg3 V hol hin hk3 => ?_
 have es:srt ks'=srt (ddT kss):=qCw (yQ _) (yQ _) (((wH ks').trans hp).trans (wH _).symm)
 rw [es] at V
 have hSz:s1.heap.objs.size≤h'.objs.size:=by obtain ⟨o,ho,_⟩:=S.ex;exact Ch (AM ho)
 have hDz:s1.heap.objs.size≤D:=Aa hSz hD
 obtain ⟨L,lk,rv2,hin2⟩:=qI7 I1 T rv (h':=h3) (fun b ob hb=>hk3 b ob (hk b ob (AM hb) hb)) V hin
 have hlen:(L.map (·.1)).length≤sizeLine:=by rw [rv2.length,hol,hp.length_eq,CZ];omega
 refine ⟨.ref D,_,I1.laid (t':=tk) (h':=h3) (o := .lst (L.map (·.1))) (fun b ob hb=>hk3 b ob (hk b ob (AM hb) hb)) hDz ⟨hlen,out,e',rv2,by simpa using hg3⟩,rfl,q _ L (I1.hok.fresh hDz) hin2 lk⟩
end
open EX
end ET
namespace EV
open PySem PySem.Spec PyProof.Rows L2 EX ET
def qAv:PV->Option (List Int)
 | .tup (p::l)=>wu qDU (p::l)
 |_=>none
def JD (ks:List Int):PV := .tup (ks.map PV.int)
section
variable {K:W.Frag} {H:Hp} {b:Bz}
theorem qHV {p:PV} {v:V} {ks:List Int} (r:RV K H b p v) (h:qAv p=some ks):∃ a,v = .ref a∧SqT K H a (ks.map V.int)∧ks≠[]∧RV K H b (JD ks) v:=by
 unfold qAv at h
 split at h
 ·rename_i p l
  have r':=r
  unfold RV at r
  obtain ⟨a,xs,rfl,h2,h3⟩:=r
  have e:=YK h3 h
  subst e
  refine ⟨a,rfl,h2.sq,?_,?_⟩
  ·intro z
   subst z
   have:=h3.length
   simp at this
  ·unfold JD RV
   exact ⟨a,ks.map V.int,rfl,h2,ZJ ks⟩
 ·cases h
theorem qEs:∀ {l:List PV} {xs:List V} {kss:List (List Int)},RVs K H b l xs->wu qAv l=some kss->TsL K H xs kss ∧ ∀ q∈xs.zip kss,RV K H b (JD q.2) q.1
 |[],xs,kss,r,h=>by
  unfold RVs at r;subst r
  cases h
  exact ⟨.nil,fun q hq=>(AY hq).elim⟩
 |p::l,xs,kss,r,h=>by
  unfold RVs at r
  obtain ⟨x,t,rfl,h2,h3⟩:=r
  unfold wu at h
  cases e1:qAv p with
  |none=>rw [e1] at h;cases h
  |some ks =>
   rw [e1] at h
   dsimp only at h
   cases e2:wu qAv l with
   |none=>rw [e2] at h;cases h
   |some kss' =>
    rw [e2] at h
    cases h
    obtain ⟨a,rfl,h4,h5,h6⟩:=qHV h2 e1
    obtain ⟨i1,i2⟩:=qEs h3 e2
    refine ⟨.cons h4 h5 i1,fun q hq => ?_⟩
    rw [CG] at hq
    rcases AJ.mp hq with z |z
    ·rw [z];exact h6
    ·exact i2 q z
theorem jY {xs:List V} {kss:List (List Int)} (hr:∀ q∈xs.zip kss,RV K H b (JD q.2) q.1):∀ {L:List (V×List Int)},(∀ q∈L,q∈xs.zip kss)->RVs K H b ((L.map (·.2)).map JD) (L.map (·.1))
 |[],_=>RVs.nil
 |q::L,h=>by
  rw [Ap,Ap,Ap]
  exact RVs.cons (hr q (h q AI)) (jY hr fun y hy=>h y (AD _ hy))
end
section
variable {X:Cx} {E:XK} {e:Expr} {f:FE} {p p2 pos pos2:Pos}
def Yn:PV->qC->Rs PV:=fun q st=>match Wo st q with
 |some l=>match wu qAv l with
  |some kss=>if kss.length≤299∧(ddT kss).length < 64 then .ok (.lst ((srt (ddT kss)).map JD)) st else .no
  |none => .no
 |none => .no
def JZ (f:FE):FE:=fun r st=>(f r st).bind Yn
theorem qE3 (hc:X.calm=true) (hu:X.A.units + 64 < cLine) (hm:X.mg "sorted" = none) (hm2:X.mg "set" = none) (h:VE X E e f) (hg:Gl X "sorted" := by rfl) (hg2:Gl X "set" := by rfl)
  (h1:starEach [.Call (.Name "set" p2) [e] [] pos2] X.env=(false,eval (.Call (.Name "set" p2) [e] [] pos2) X.env)::starEach [] X.env:=by rfl) (h2:starEach [e] X.env=(false,eval e X.env)::starEach [] X.env:=by rfl) :
  VE X E (.Call (.Name "sorted" p) [.Call (.Name "set" p2) [e] [] pos2] [] pos) (JZ f) :=
 PE.imp (qEh hc hu hg hm hg2 hm2 h h1 h2) fun s H Q ⟨b,r,st,S,R,P⟩=>⟨b,r,st,S,R,PostE.bind P fun q s1 u H1 b1 e1 S1 r1 P1=>by
  unfold Yn at P1
  split at P1
  ·rename_i l el
   split at P1
   ·rename_i kss ek
    split at P1
    ·rename_i hn
     obtain ⟨x,xs,rfl,h2,h3⟩:=Z2 S1 r1 el
     obtain ⟨T,hr⟩:=qEs h3 ek
     exact ⟨x,xs,kss,rfl,h2,T,hn.1,hn.2,fun p L hp hin hL=>PostN.lay (PostN.of (r := .ok ((srt (ddT kss)).map JD) s1) P1) S1 (by rw [← hL];exact jY hr hin) hp⟩
    ·exact P1.elim
   ·exact P1.elim
  ·exact P1.elim⟩
end
end EV
end
section
namespace EV
open PySem PySem.Spec PyProof.Rows L2 EX ET
section
variable {X:Cx} {E:XK} {e a c d o i:Expr} {es:List Expr} {f fa fb fc fo fi:FE} {fl:FL} {pos:Pos} {F G:FS}
def qH0 (K:W.Frag):V->V->Hp->VK->Prop:=fun x y H Q => ∃ p xs k v,x = .ref p∧y = .int k∧SqL K H p xs∧0≤k∧xs[k.toNat]? = some v∧Q v H
theorem qER:qKj X (qH0 X.K):=by
 intro pins s σ H o i ov iv Q I ro ri h
 obtain ⟨p,xs,k,v,rfl,rfl,hq,h0,hv,q⟩:=h
 cases ro
 obtain ⟨t,rfl⟩:=ri
 obtain ⟨its,r,pl,hz⟩:=I.list hq
 obtain ⟨w,ew,rw'⟩:=r.get hv
 have hn:=Zu
 have hk:=(AQ.mp hv).1
 exact wpAny_getItem_list pl.isList h0 (by omega) (by simpa using ew) ⟨v,H,I,rw',q⟩
def qDF (st:qC) (o i:PV):Option Int:=match o,i with
 | .ref n,.int k=>match st[n]? with
  |some (.l xs)=>if 0≤k then match xs[k.toNat]? with
    |some (.int x)=>some x
    |_=>none
   else none
  |_=>none
 |_,_=>none
theorem qG2 {K:W.Frag} {H:Hp} {b:Bz} {st:qC} {o i:PV} {ov iv:V} {x:Int} {Q:VK} (S:SR K H b st) (ro:RV K H b o ov) (ri:RV K H b i iv) (e:qDF st o i=some x) (q:Q (.int x) H):qH0 K ov iv H Q:=by
 unfold qDF at e
 split at e
 ·rename_i n k
  split at e
  ·rename_i xs e1
   split at e
   ·rename_i h0
    split at e
    ·rename_i y e2
     cases e
     unfold RV at ro ri
     obtain ⟨a,rfl,ha⟩:=ro
     obtain ⟨a',o',h1,h2,vs,rfl,h4⟩:=S.at_ n _ e1
     rw [ha] at h1;cases h1
     obtain ⟨y,hy,ry⟩:=h4.get e2
     unfold RV at ry
     subst ry
     exact ⟨a,vs,k,_,rfl,ri,SqL.of h2,h0,hy,q⟩
    ·cases e
   ·cases e
  ·cases e
 ·cases e
def Je (fo fi f:FE):FS:=fun r st=>(fo r st).bindS fun o s1=>(fi r s1).bindS fun i s2=>match qDF s2 o i with
 |some x=>(f r s2).bindS fun p s3=>match p with
  | .int y=>match Wj s3 o i (.int (x + y)) with
   |some s4 => .nx r s4
   |none => .no
  |_ => .no
 |none => .no
theorem qHL {tpos:Pos} (ho:VE X E o fo) (hi:VE X E i fi) (h:VE X E e f)
  (ha:∀ ov iv new,augStore i ov iv new=(do holding [new,ov,iv] (setItem ov iv new);release [new,ov,iv] [];pure .next):=by intros;rfl):VS X E (.AugAssign (.Subscript o i tpos) .Add e pos) (Je fo fi f) :=
 PS.imp (qF9 ho hi qER h qJH Z3 ha) fun D s H ⟨b,r,st,S,R,P⟩=>⟨b,r,st,S,R,PostE.bindS P fun o s1 u H1 b1 e1 S1 r1 P1 =>
  ⟨b1,r,s1,S1,R.ext e1,PostE.bindS P1 fun i s2 iu H2 b2 e2 S2 r2 P2=>by
   split at P2
   ·rename_i x ex
    refine qG2 S2 (RV.ext e2 o r1) r2 ex ⟨b2,r,s2,S2,(R.ext e1).ext e2,PostE.bindS P2 fun p s3 pu H3 b3 e3 S3 r3 P3 => ?_⟩
    split at P3
    ·rename_i y
     unfold RV at r3
     subst r3
     split at P3
     ·rename_i s4 e4
      exact ⟨x,y,rfl,rfl,yB S3 (RV.ext e3 o (RV.ext e2 o r1)) (RV.ext e3 i r2) wC e4 fun H' b' e' S'=>P3 s H' b' e' S' ((((R.ext e1).ext e2).ext e3).ext e')⟩
     ·exact P3.elim
    ·exact P3.elim
   ·exact P2.elim⟩⟩
def Yi (fo f:FE):FE:=fun r st=>(fo r st).bind fun o s=>match o with
 | .ref n=>if lk s (.ref n)=true then (f r s).bind fun p s2=>match p,s2[n]? with
   | .int k,some (.l xs)=>if 0≤k∧k < 1048576 then match xs[k.toNat]? with
     |some y => .ok y (s2.set n (.l (xs.eraseIdx k.toNat)))
     |none => .no
    else .no
   |_,_ => .no
  else .no
 |_ => .no
theorem qEC {apos cpos:Pos} (ho:VE X E o fo) (h:VE X E e f)
  (hbase:attributeBase o "pop" X.env (eval o X.env)=eval o X.env:=by rfl)
  (hfew:((backTo cpos (starEach [e] X.env)).all (fun x => !x.1)&&(backToKw cpos (keywordEach [] X.env)).all (fun x=>x.1.isSome)&&decide ([e].length + ([]:List Keyword).length + (if ([]:List Keyword).isEmpty then 0 else 1) < 30))=true:=by rfl)
  (hline:(apos.endLine==cpos.line)=true:=by rfl) (h1:starEach [e] X.env=(false,eval e X.env)::starEach [] X.env:=by rfl) (hplain:(backTo cpos (starEach [] X.env)).any (·.1)=false:=by rfl) :
  VE X E (.Call (.Attribute o "pop" apos) [e] [] cpos) (Yi fo f) :=
 PE.imp (qD4 PySem.F.plainAttrs_list PySem.F.slot_list_pop PySem.F.type_list_pop qFd ho (yG h Yz h1) hbase hfew hline h1 hplain) fun s H Q ⟨b,r,st,S,R,P⟩=>⟨b,r,st,S,R,PostE.bind P fun o s1 u H1 b1 e1 S1 r1 P1=>by
  cases o with
  |ref n =>
   have P1:PostE X.K E H1 b1 (if lk s1 (.ref n)=true then ((f r s1).bind fun p s2=>match p,s2[n]? with
    | .int k,some (.l xs)=>if 0≤k∧k < 1048576 then match xs[k.toNat]? with
      |some y => .ok y (s2.set n (.l (xs.eraseIdx k.toNat)))
      |none => .no
     else .no
    |_,_ => .no) else .no) Q:=P1
   by_cases hlk:lk s1 (.ref n)=true
   rotate_left
   ·rw [AN hlk] at P1;exact P1.elim
   rw [AG hlk] at P1
   have r1':=r1
   unfold RV at r1
   obtain ⟨x,rfl,hx⟩:=r1
   refine ⟨?_,b1,r,s1,S1,R.ext e1,PostE.bind P1 fun p s2 pu H2 b2 e2 S2 r2 P2 => ?_⟩
   ·have hl:n < s1.length:=by rw [← S1.len];exact (AQ.mp hx).1
    obtain ⟨a',o',h3,h4,h5⟩:=S1.at_ n _ (AE hl)
    rw [hx] at h3;cases h3
    cases hq:s1[n] with
    |l xs=>rw [hq] at h5;obtain ⟨vs,e,_⟩:=h5;subst e;exact .inl ⟨rfl,vs,SqL.of h4⟩
    |z xs=>unfold lk at hlk;dsimp only at hlk;rw [AE hl,hq] at hlk;cases hlk
    |d xs=>unfold lk at hlk;dsimp only at hlk;rw [AE hl,hq] at hlk;cases hlk
   ·split at P2
    ·rename_i k xs ex
     split at P2
     ·rename_i h0
      split at P2
      ·rename_i y ey
       unfold RV at r2
       subst r2
       have hx2:=e2.ix hx
       obtain ⟨x',o',h3,h2,vs,rfl,h4⟩:=S2.at_ n _ ex
       rw [hx2] at h3;cases h3
       obtain ⟨z,hz,rz⟩:=h4.get ey
       have hm:x∈b2.b:=Aw hx2
       have ew:Ext H2 b2 (upd H2 x (.lst (vs.eraseIdx k.toNat))) b2:=Ext.wr hm S2.zb (qF4 h2)
       have hlt:=(AQ.mp hz).1
       exact ⟨x,vs,k,k.toNat,z,rfl,rfl,h2,by omega,by omega,by rw [seqIndex_of h0.1 (by omega)],hz,P2 z _ b2 ew (S2.wr (x := .l (xs.eraseIdx k.toNat)) hx2 ⟨_,rfl,(RVs.ext ew xs h4).erase _⟩) (RV.ext ew y rz)⟩
      ·exact P2.elim
     ·exact P2.elim
    ·exact P2.elim
  |_=>exact P1.elim⟩
end
section
variable {X:Cx} {E:XK} {e o i o2 i2 t1 t2:Expr} {f fo fi fo2 fi2:FE} {pos:Pos} {te:TE} {g1 g2:TG}
def qKR (te:TE) (g1 g2:TG):TS:=fun D σ H=>te σ H fun x H1=>g1 x σ H1 fun σ2 H2=>g2 x σ2 H2 D.nx
theorem qGm (he:PE X e te) (h1:PG X t1 g1) (h2:PG X t2 g2) (hw:swappedStores [t1,t2] e X.env=pure none:=by rfl) (ha:(assignEach [t1,t2] X.env).map (·.2)=[assign t1 X.env,assign t2 X.env]:=by rfl):PS X (.Assign [t1,t2] e pos) (qKR te g1 g2):=by
 intro pins s σ H D I h
 refine wpAny_Assign_two (thn (he pins s σ H _ I h) fun v s1 ⟨x,H1,I1,r1,q1⟩ => ?_) ha hw
 refine thn (h1 pins s1 σ H1 x v _ I1 r1 q1) fun _ s2 ⟨σ2,H2,I2,q2⟩ => ?_
 exact thn (h2 pins s2 σ2 H2 x v _ I2 r1 q2) fun _ s3 q=>q
def ZU (fo fi fo2 fi2 f:FE):FS:=fun r st=>(f r st).bindS fun p s1=>(fo r s1).bindS fun o s2=>(fi r s2).bindS fun i s3=>match Wj s3 o i p with
 |some s4=>(fo2 r s4).bindS fun o2 s5=>(fi2 r s5).bindS fun i2 s6=>match Wj s6 o2 i2 p with
  |some s7 => .nx r s7
  |none => .no
 |none => .no
theorem Ju {tpos tpos2:Pos} (ho:VE X E o fo) (hi:VE X E i fi) (ho2:VE X E o2 fo2) (hi2:VE X E i2 fi2) (h:VE X E e f)
  (hw:swappedStores [.Subscript o i tpos,.Subscript o2 i2 tpos2] e X.env=pure none:=by rfl) (h1:(assignEach [.Subscript o i tpos,.Subscript o2 i2 tpos2] X.env).map (·.2)=[assign (.Subscript o i tpos) X.env,assign (.Subscript o2 i2 tpos2) X.env]:=by rfl)
  (ha:∀ v,assign (.Subscript o i tpos) X.env v=(do
   let ov ← holding [v] (eval o X.env)
   let iv ← holding [v,ov] (eval i X.env)
   standAt tpos
   holding [v,ov,iv] (setItem ov iv v)
   release [v,ov,iv] []):=by intro _;rfl)
  (ha2:∀ v,assign (.Subscript o2 i2 tpos2) X.env v=(do
   let ov ← holding [v] (eval o2 X.env)
   let iv ← holding [v,ov] (eval i2 X.env)
   standAt tpos2
   holding [v,ov,iv] (setItem ov iv v)
   release [v,ov,iv] []):=by intro _;rfl):VS X E (.Assign [.Subscript o i tpos,.Subscript o2 i2 tpos2] e pos) (ZU fo fi fo2 fi2 f) :=
 PS.imp (qGm h (qBi ho hi Z3 ha) (qBi ho2 hi2 Z3 ha2) hw h1) fun D s H ⟨b,r,st,S,R,P⟩=>⟨b,r,st,S,R,PostE.bindS P fun p s1 u H1 b1 e1 S1 r1 P1 =>
  ⟨b1,r,s1,S1,R.ext e1,PostE.bindS P1 fun o s2 ou H2 b2 e2 S2 r2 P2=>⟨b2,r,s2,S2,(R.ext e1).ext e2,PostE.bindS P2 fun i s3 iu H3 b3 e3 S3 r3 P3=>by
   split at P3
   ·rename_i s4 e4
    refine yB S3 (RV.ext e3 o r2) r3 (RV.ext e3 p (RV.ext e2 p r1)) e4 fun H4 b4 e4' S4=>⟨b4,r,s4,S4,(((R.ext e1).ext e2).ext e3).ext e4',PostE.bindS (PostS.ext P3 e4') fun o2 s5 ou2 H5 b5 e5 S5 r5 P5=>⟨b5,r,s5,S5,((((R.ext e1).ext e2).ext e3).ext e4').ext e5,PostE.bindS P5 fun i2 s6 iu2 H6 b6 e6 S6 r6 P6 => ?_⟩⟩
    split at P6
    ·rename_i s7 e7
     exact yB S6 (RV.ext e6 o2 r5) r6 (RV.ext e6 p (RV.ext e5 p (RV.ext e4' p (RV.ext e3 p (RV.ext e2 p r1))))) e7 fun H' b' e' S'=>P6 s H' b' e' S' (((((((R.ext e1).ext e2).ext e3).ext e4').ext e5).ext e6).ext e')
    ·exact P6.elim
   ·exact P3.elim⟩⟩⟩
end
end EV
end
noncomputable section
namespace K53
open PySem PySem.Spec PyProof.Rows L2 EX EV
structure Ad where
 (Z0 Z1 Z2 Z3 Z4 Z5 Z6 Z7 Z8 Z9 Z10 Z11:Addr)
 (is_whole is_whole_within are_wholes is_length need_length rests first_apart are_weights weight_of weights_for law_cell law_box law_take law_whole law_odd law_kind law_same law_no_length law_cover law_put law_floor law_rests law_apart law_are_weights law_weight law_weights law_bent law_asked law:Addr)
def kitTab:List ((String×String)×Bool):=[(("NoneType","int"),false),(("NoneType","bool"),false),(("NoneType","tuple"),false),(("NoneType","list"),false),(("int","int"),true),(("int","bool"),false),(("int","tuple"),false),(("int","list"),false),(("bool","int"),true),(("bool","bool"),true),(("bool","tuple"),false),(("bool","list"),false),(("str","int"),false),(("str","bool"),false),(("str","tuple"),false),(("str","list"),false),(("tuple","int"),false),(("tuple","bool"),false),(("tuple","tuple"),true),(("tuple","list"),false),(("list","int"),false),(("list","bool"),false),(("list","tuple"),false),(("list","list"),true),(("dict","int"),false),(("dict","bool"),false),(("dict","tuple"),false),(("dict","list"),false)]
def qJr (s T:String):Option Bool:=kitTab.lookup (s,T)
def Ad.kinds (a:Ad):List Addr:=[a.Z1,a.Z2,a.Z3,a.Z4,a.Z5,a.Z6,a.Z7,a.Z8,a.Z9,a.Z10,a.Z11]
def Dist (a:Ad):Prop:=a.kinds.Nodup
instance (a:Ad):Decidable (Dist a):=by unfold Dist;infer_instance
theorem Dist.nd {a:Ad} (h:Dist a):a.kinds.Nodup:=h
def Qt (a:Ad):List Addr:=[a.Z1,a.Z5]
def kit (a:Ad):Value->Value->Option Bool
 | .type s,.type T=>qJr s T
 | .ref x,.ref d=>if x∈Qt a∧d∈a.kinds then some (x==d) else none
 | .ref x,.type T=>if x∈Qt a∧T = "ValueError" then some true else none
 |_,_=>none
def top (i:Nat):Stmt:=PySem.Challenge.pw_barfloors_k53_weights.main.body.getD i (.Pass ⟨0,0,0,0⟩)
abbrev WR:Stmt:=top 16
abbrev Qh:Stmt:=top 17
abbrev wb:Stmt:=top 18
abbrev w6:Stmt:=top 19
abbrev Q7:Stmt:=top 20
abbrev ZT:Stmt:=top 22
abbrev wL:Stmt:=top 23
abbrev wM:Stmt:=top 25
abbrev wp:Stmt:=top 26
abbrev wK:Stmt:=top 27
abbrev Wa:Stmt:=top 29
abbrev Wy:Stmt:=top 30
abbrev WW:Stmt:=top 31
abbrev wz:Stmt:=top 32
abbrev Wz:Stmt:=top 33
abbrev Wd:Stmt:=top 34
abbrev WX:Stmt:=top 35
abbrev Qz:Stmt:=top 36
abbrev wt:Stmt:=top 37
abbrev Wv:Stmt:=top 38
abbrev WA:Stmt:=top 39
abbrev w9:Stmt:=top 40
abbrev wo:Stmt:=top 41
abbrev Qj:Stmt:=top 42
abbrev wX:Stmt:=top 43
abbrev wN:Stmt:=top 44
abbrev WZ:Stmt:=top 45
abbrev wU:Stmt:=top 46
abbrev z9:Stmt:=top 47
def qBN (a:Ad):FS:=(qf (YB (qH (Qg (kit a)) (qA (qB 0) (qA (vC (.ty "int")) qD))) (qIn (qH (Qg (kit a)) (qA (qB 0) (qA (vC (.ty "bool")) qD))))))
def zx (a:Ad):List PV->qC->Rs PV:=QG 1 1 (qBN a)
def zN (a:Ad):FS:=(qf (YB (qH (zx a) (qA (qB 0) qD)) (yY gLe gLe (qB 1) (qB 0) (qB 2))))
def WG (a:Ad):List PV->qC->Rs PV:=QG 3 3 (zN a)
def JC (a:Ad):FS:=(qf (YB (qH (Qg (kit a)) (qA (qB 0) (qA (vC (.ty "tuple")) qD))) (YB (yY gLe gLe (qB 1) (qH WH (qA (qB 0) qD)) (qB 2)) (qH ZW (qA (vFz (qc [] 1 (QA (qB 0)) (qy 0) [] [] (qH (zx a) (qA (qB 0) qD)))) qD)))))
def Wt (a:Ad):List PV->qC->Rs PV:=QG 3 3 (JC a)
def ZI (a:Ad):FS:=(qf (qH (WG a) (qA (qB 0) (qA (vC (.int 2)) (qA (vC (.int 5)) qD)))))
def ZF (a:Ad):List PV->qC->Rs PV:=QG 1 1 (ZI a)
def zT (a:Ad):FS:=(Q2 (ww (Qr (qH (ZF a) (qA (qB 0) qD)))) (yL a.Z1 (qA (vJ [(vC (.str "a length is a whole number from ")),(qBZ (vC (.int 2))),(vC (.str " to ")),(qBZ (vC (.int 5)))] Str.empty) qD)) Qq)
def Q8 (a:Ad):List PV->qC->Rs PV:=QG 1 1 (zT a)
def qBg:FS:=(Je (qM gIx (qB 2) (qM Ws (qB 3) (qB 1))) (qM Ws (qB 4) (qB 1)) (vC (.int 1)))
def qHE (a:Ad):FS:=(qV (zR (qH (Q8 a) (qA (qB 1) qD))) (qV (WQ 2 (qc [1] 1 (QM (qA (qB 1) qD)) (qy 1) [] [] (vMk (Yq (Qe (qA (vC (.int 0)) qD)) (qB 0))))) (qV (WN (QA (qB 0)) (yj 2 (wV (QY 3) (wV (QY 4) yz))) qBg) (qf (qB 2)))))
def YN (a:Ad):List PV->qC->Rs PV:=QG 2 5 (qHE a)
def qJt:FS:=(qV (qv 5 (qM Qf (qM gIx (qM gIx (qB 2) (qB 3)) (vC (.int 0))) (qM gIx (qM gIx (qB 2) (vC (.int 0))) (qB 4)))) (Q2 (vTB (qM gNe (qM Qf (qM gIx (qM gIx (qB 2) (qB 3)) (qB 4)) (qM gIx (qM gIx (qB 2) (vC (.int 0))) (vC (.int 0)))) (qB 5))) (qf (wY (qA (qB 3) (qA (qB 4) qD)))) Qq))
def qH2:FS:=(WN (QM (qA (qB 1) qD)) (QY 4) qJt)
def jC (a:Ad):FS:=(qV (qv 2 (qH (YN a) (qA (qB 0) (qA (qB 1) qD)))) (qV (WN (QM (qA (qB 1) qD)) (QY 3) qH2) (qf (vC .non))))
def Wf (a:Ad):List PV->qC->Rs PV:=QG 2 6 (jC a)
def jL (a:Ad):FS:=(qV (zR (qH (Q8 a) (qA (qB 0) qD))) (qV (Q2 (ZV (ww (Qr (qH (Qg (kit a)) (qA (qB 1) (qA (vC (.ty "tuple")) qD))))) (vTB (qM gNe (qH WH (qA (qB 1) qD)) (qB 0)))) (qf (vC (.bl false))) Qq) (qV (Q2 (ww (Qr (qH ZW (qA (vFz (qc [0] 1 (QA (qB 1)) (qy 1) [] [] (qH (Wt a) (qA (qB 1) (qA (qB 0) (qA (qB 0) qD)))))) qD)))) (qf (vC (.bl false))) Qq) (qV (Q2 (ww (Qr (qH ZW (qA (vFz (qc [] 1 (QA (qB 1)) (qy 0) [] [] (qM gEq (qH yD (qA (qB 0) qD)) (vC (.int 0))))) qD)))) (qf (vC (.bl false))) Qq) (qf (qH ZW (qA (vFz (qc [1] 1 (QM (qA (qB 0) qD)) (qy 1) [] [] (qM gEq (qH zC (qA (vFz (qc [1] 1 (QA (qB 0)) (qy 1) [] [] (qM gIx (qB 1) (qB 0)))) qD)) (vC (.int 0))))) qD)))))))
def Q6 (a:Ad):List PV->qC->Rs PV:=QG 2 2 (jL a)
def wtE:FE:=(qH zC (qA (vFz (qc [2,1] 2 (QA (qB 0)) (yj 2 (wV (qy 2) (wV (qy 3) yz))) [] [] (qM gIx (qM gIx (qB 0) (qM Ws (qB 2) (qB 1))) (qM Ws (qB 3) (qB 1))))) qD))
def qAh (a:Ad):FS:=(qV (Q2 (ww (Qr (qH (Q6 a) (qA (qB 1) (qA (qB 2) qD))))) (yL a.Z5 (qA (vJ [(vC (.str "weights are ")),(qBZ (qB 1)),(vC (.str " tuples of ")),(qBZ (qB 1)),(vC (.str " whole numbers, each line of them coming to 0"))] Str.empty) qD)) Qq) (qf wtE))
def wW (a:Ad):List PV->qC->Rs PV:=QG 3 3 (qAh a)
def jN (a:Ad):FS:=(qV (qv 2 (qH (Wf a) (qA (qB 0) (qA (qB 1) qD)))) (qV (Q2 (vTB (qM (Jf false) (qB 2) (vC .non))) (qf (vC .non)) Qq) (qV (j6 (qB 2) (yj 2 (wV (QY 3) (wV (QY 4) yz)))) (qV (WQ 5 (qc [1] 1 (QM (qA (qB 1) qD)) (qy 1) [] [] (vMk (Yq (Qe (qA (vC (.int 0)) qD)) (qB 0))))) (qV (ZU (qM gIx (qB 5) (vC (.int 0))) (vC (.int 0)) (qM gIx (qB 5) (qB 3)) (qB 4) (vC (.int 1))) (qV (ZU (qM gIx (qB 5) (vC (.int 0))) (qB 4) (qM gIx (qB 5) (qB 3)) (vC (.int 0)) (qBB (vC (.int 1)))) (qf (qH wm (qA (vFz (qc [] 1 (QA (qB 5)) (qy 0) [] [] (qH wm (qA (qB 0) qD)))) qD)))))))))
def wO (a:Ad):List PV->qC->Rs PV:=QG 2 6 (jN a)
def Zx (a:Ad):FS:=(qV (Q2 (vTB (qM gLt (qB 1) (qH WH (qA (qB 0) qD)))) (qf (qM gIx (qB 0) (qB 1))) Qq) (qf (qM Qf (qM ZE (vC (.int 6151)) (qB 1)) (vC (.int 29)))))
def zu (a:Ad):List PV->qC->Rs PV:=QG 2 2 (Zx a)
def YF:FS:=(qV (qv 4 (qM Ws (qM Qf (qM Qf (qM Qf (qM ZE (qB 4) (vC (.int 48271))) (qM ZE (qM ZE (vC (.int 7)) (qB 5)) (qB 5))) (qM ZE (vC (.int 11)) (qB 1))) (vC (.int 1))) (vC (.int 2147483647)))) (qv 3 (qM Qf (qM ZE (qB 3) (vC (.int 2147483647))) (qB 4))))
def yg (a:Ad):FS:=(qV (qv 2 (qH (zu a) (qA (qB 0) (qA (qB 1) qD)))) (qV (Q2 (vTB (qM gEq (qM Ws (qB 2) (vC (.int 2))) (vC (.int 0)))) (Yy (Qe (qA (qM qHa (qB 2) (vC (.int 2))) qD))) Qq) (qV (qv 3 (vC (.int 0))) (qV (qv 4 (qM Ws (qB 2) (vC (.int 2147483647)))) (qV (WN (QM (qA (vC (.int 24)) qD)) (QY 5) YF) (Yy (Qe (qA (qB 3) qD))))))))
def yf (a:Ad):List PV->qC->Rs PV:=QG 2 6 (yg a)
def Yl (a:Ad):FS:=(qV (qv 2 (qM Ws (qM gIx (qB 0) (vC (.int 0))) (qB 1))) (qV (qEO (qB 0) (vC (.int 0)) (qM qCz (qM gIx (qB 0) (vC (.int 0))) (qB 1))) (qf (qB 2))))
def qT (a:Ad):List PV->qC->Rs PV:=QG 2 3 (Yl a)
def qAE (a:Ad):FS:=(qf (YB (qH (Qg (kit a)) (qA (qB 0) (qA (vC (.ty "int")) qD))) (qIn (qH (Qg (kit a)) (qA (qB 0) (qA (vC (.ty "bool")) qD))))))
def zJ (a:Ad):List PV->qC->Rs PV:=QG 1 1 (qAE a)
def qDL (a:Ad):FS:=(qV (qv 1 (vFz (Qe (qA (vC .non) (qA (vC (.bl true)) (qA (vC (.int 7)) (qA (vC (.str "")) (qA (vC (.str "0")) (qA (wY qD) (qA (vFz (Qe qD)) (qA (vC .dct) (qA (wY (qA (vC (.int 1)) (qA (vC (.int 2)) qD))) (qA (wY (qA (vC (.int 0)) qD)) (qA (wY (qA (vC (.int 1)) (qA (vC (.int 0)) (qA (vC (.int 0)) qD)))) (qA (qBB (vC (.int 1))) (qA (wY (qA (vC (.int 0)) (qA (vC (.int 0)) qD))) (qA (vFz (Qe (qA (wY (qA (vC (.int 0)) (qA (vC (.int 0)) qD))) qD))) (qA (vC (.bl false)) (qA (wY (qA (wY (qA (vC (.int 0)) (qA (vC (.int 0)) qD))) (qA (wY (qA (vC (.int 0)) (qA (vC (.int 1)) qD))) qD))) qD))))))))))))))))))) (qf (qM gIx (qB 1) (qH (qT a) (qA (qB 0) (qA (vC (.int 16)) qD))))))
def yk (a:Ad):List PV->qC->Rs PV:=QG 1 2 (qDL a)
def Zf (a:Ad):FS:=(qV (qv 1 (vFz (Qe (qA (qH (Qg (kit a)) (qA (qB 0) (qA (vC (.fn a.Z1)) qD))) (qA (qH (Qg (kit a)) (qA (qB 0) (qA (vC (.fn a.Z2)) qD))) (qA (qH (Qg (kit a)) (qA (qB 0) (qA (vC (.fn a.Z3)) qD))) (qA (qH (Qg (kit a)) (qA (qB 0) (qA (vC (.fn a.Z4)) qD))) qD))))))) (qV (qv 1 (vFz (zD (qB 1) (vFz (Qe (qA (qH (Qg (kit a)) (qA (qB 0) (qA (vC (.fn a.Z5)) qD))) (qA (qH (Qg (kit a)) (qA (qB 0) (qA (vC (.fn a.Z6)) qD))) (qA (qH (Qg (kit a)) (qA (qB 0) (qA (vC (.fn a.Z7)) qD))) (qA (qH (Qg (kit a)) (qA (qB 0) (qA (vC (.fn a.Z8)) qD))) qD))))))))) (qV (qv 1 (vFz (zD (qB 1) (vFz (Qe (qA (qH (Qg (kit a)) (qA (qB 0) (qA (vC (.fn a.Z9)) qD))) (qA (qH (Qg (kit a)) (qA (qB 0) (qA (vC (.fn a.Z10)) qD))) (qA (qH (Qg (kit a)) (qA (qB 0) (qA (vC (.fn a.Z11)) qD))) qD)))))))) (qV (Q2 (ZV (ww (Qr (qH (Qg (kit a)) (qA (qB 0) (qA (vC (.ty "ValueError")) qD))))) (vTB (qM gNe (qH zC (qA (vFz (qc [] 1 (QA (qB 1)) (qy 0) [] [] (qH qEg (qA (qB 0) qD)))) qD)) (vC (.int 1))))) (qf (vC (.str "! none of the classes"))) Qq) (qV (qv 2 (vFz (Qe (qA (vC (.str "length")) (qA (vC (.str "number")) (qA (vC (.str "bars")) (qA (vC (.str "box")) (qA (vC (.str "weights")) (qA (vC (.str "sorts")) (qA (vC (.str "turn")) (qA (vC (.str "place")) (qA (vC (.str "text")) (qA (vC (.str "row")) (qA (vC (.str "many")) qD)))))))))))))) (qf (qM qI6 (vC (.str "! ")) (qM gIx (qB 2) (qKD (qB 1) (vC (.bl true)))))))))))
def WT (a:Ad):List PV->qC->Rs PV:=QG 1 3 (Zf a)
def Qv (a:Ad) (rec:List PV->qC->Rs PV):FS:=(qV (Q2 (Qr (qH (Qg (kit a)) (qA (qB 1) (qA (wY (qA (vC (.ty "tuple")) (qA (vC (.ty "list")) qD))) qD)))) (qV (Q2 (ZV (vTB (qM gNe (qH (Qg (kit a)) (qA (qB 0) (qA (vC (.ty "tuple")) qD))) (qH (Qg (kit a)) (qA (qB 1) (qA (vC (.ty "tuple")) qD))))) (vTB (qM gNe (qH (Qg (kit a)) (qA (qB 0) (qA (vC (.ty "list")) qD))) (qH (Qg (kit a)) (qA (qB 1) (qA (vC (.ty "list")) qD)))))) (qf (vC (.bl false))) Qq) (qf (YB (qM gEq (qH WH (qA (qB 0) qD)) (qH WH (qA (qB 1) qD))) (qH ZW (qA (vFz (qc [] 2 (qCH (qA (qB 0) (qA (qB 1) qD))) (yj 2 (wV (qy 0) (wV (qy 1) yz))) [] [] (qH rec (qA (qB 0) (qA (qB 1) qD))))) qD))))) Qq) (qf (YB (qM gEq (qB 0) (qB 1)) (qM gEq (qH (Qg (kit a)) (qA (qB 0) (qA (vC (.ty "bool")) qD))) (qH (Qg (kit a)) (qA (qB 1) (qA (vC (.ty "bool")) qD)))))))
def qu:Nat->Ad->List PV->qC->Rs PV
 |0,_=>fun _ _ => .no
 |n + 1,a=>QG 2 2 (Qv a (qu n a))
def ZA (a:Ad):FS:=(qf (qM gIx (vFz (Qe (qA (vC (.int 1)) (qA (vC (.int 6)) (qA (vC (.int 0)) (qA (qBB (vC (.int 2))) (qA (vC (.bl true)) (qA (vC .non) (qA (vC (.str "3")) (qA (wY (qA (vC (.int 2)) qD)) (qA (vFz (Qe (qA (vC (.int 3)) qD))) (qA (qM qEk (vC (.int 10)) (vC (.int 39))) qD)))))))))))) (qH (qT a) (qA (qB 0) (qA (vC (.int 10)) qD)))))
def wk (a:Ad):List PV->qC->Rs PV:=QG 1 1 (ZA a)
def yp (a:Ad):FS:=(qV (j6 (qB 0) (yj 3 (wV (QY 2) (wV (QY 3) (wV (QY 4) yz))))) (qV (Q2 (vTB (qM gEq (qB 4) (vC (.int 0)))) (qf (vFz (qc [2,3] 1 (QM (qA (qB 1) qD)) (qy 2) [] [] (wY (qA (qB 0) (qA (qM Qf (qB 1) (qB 2)) qD)))))) Qq) (qf (vFz (qc [3,2] 1 (QM (qA (qB 1) qD)) (qy 2) [] [] (wY (qA (qM Qf (qB 1) (qB 2)) (qA (qB 0) qD))))))))
def ZP (a:Ad):List PV->qC->Rs PV:=QG 2 5 (yp a)
def yE (a:Ad):FS:=(qV (qv 4 (qH (qT a) (qA (qB 0) (qA (vC (.int 2)) qD)))) (qV (jy 5 6 (qA (qH (qT a) (qA (qB 0) (qA (qM zU (vC (.int 9)) (qM gIx (vFz (Qe (qA (vC (.int 1)) (qA (qB 1) qD)))) (qB 4))) qD))) (qA (qH (qT a) (qA (qB 0) (qA (qM zU (vC (.int 9)) (qM gIx (vFz (Qe (qA (qB 1) (qA (vC (.int 1)) qD)))) (qB 4))) qD))) qD))) (qV (qv 7 (qH (ZP a) (qA (wY (qA (qB 5) (qA (qB 6) (qA (qB 4) qD)))) (qA (qB 1) qD)))) (Q2 (Zc (vTB (qM gEq (vFz (qc [2] 1 (QA (qB 7)) (qy 1) [(vTB (qM (gIn false) (qB 1) (qB 0)))] [] (qB 1))) (vFz (Qe qD)))) (vTB (qM gLe (qM Qf (qH WH (qA (qB 2) qD)) (qB 1)) (vC (.int 40))))) (WQ 2 (zD (qB 2) (qB 7))) Qq))))
def jw (a:Ad):FS:=(qV (WQ 2 (Qe qD)) (qV (WN (QM (qA (qM Qf (vC (.int 1)) (qH (qT a) (qA (qB 0) (qA (vC (.int 8)) qD)))) qD)) (QY 3) (yE a)) (qf (qB 2))))
def ya (a:Ad):List PV->qC->Rs PV:=QG 2 8 (jw a)
def qGY (a:Ad):FT:=(ZV (vTB (qM gEq (qB 1) (vC (.int 1)))) (vTB (qM gNe (qH (qT a) (qA (qB 2) (qA (qM gIx (vFz (Qe (qA (vC (.int 4)) (qA (vC (.int 1)) (qA (vC (.int 9)) qD))))) (qB 1)) qD))) (vC (.int 1)))))
def zM (a:Ad):FS:=(qV (qv 2 (qH (qT a) (qA (qB 0) (qA (vC (.int 6)) qD)))) (qV (jy 3 4 (qA (qM Qf (vC (.int 1)) (qH (qT a) (qA (qB 0) (qA (vC (.int 8)) qD)))) (qA (qM Qf (vC (.int 1)) (qH (qT a) (qA (qB 0) (qA (vC (.int 8)) qD)))) qD))) (qV (Q2 (vTB (qM gGt (qB 2) (vC (.int 2)))) (qV (qv 5 (qH (ya a) (qA (qB 0) (qA (qB 1) qD)))) (qV (Q2 (vTB (qM gEq (qB 2) (vC (.int 5)))) (qV (zR (Yi (qB 5) (qH (qT a) (qA (qB 0) (qA (qH WH (qA (qB 5) qD)) qD))))) (qv 5 (vFz (zD (qB 5) (vFz (qc [0] 1 (QM (qA (qH (qT a) (qA (qB 0) (qA (vC (.int 2)) qD))) qD)) (qy 1) [] [] (wY (qA (qH (qT a) (qA (qB 0) (qA (vC (.int 8)) qD))) (qA (qH (qT a) (qA (qB 0) (qA (vC (.int 8)) qD))) qD))))))))) Qq) (qf (qH wm (qA (JZ (qB 5)) qD))))) Qq) (qV (qv 5 (vFz (Qe qD))) (qV (WN (QM (qA (qB 3) qD)) (QY 6) (qv 5 (vFz (zD (qB 5) (vFz (qc [6,2,0] 1 (QM (qA (qB 4) qD)) (qy 3) [(qGY a)] [] (wY (qA (qB 0) (qA (qB 3) qD))))))))) (qf (qH wm (qA (vIf (vTB (qM gLt (qB 2) (vC (.int 2)))) (qBm (qB 5) Q9 (wA (vC (.int 40)))) (qBm (qB 5) Q9 (wA (qH (qT a) (qA (qB 0) (qA (vC (.int 8)) qD)))))) qD))))))))
def zG (a:Ad):List PV->qC->Rs PV:=QG 2 7 (zM a)
def qHN:FE:=(qH WH (qA (vFz (qc [3,5,1] 1 (QA (qB 0)) (qy 3) [(Zc (vTB (qM gEq (qM Ws (qM gIx (qB 3) (vC (.int 0))) (qB 2)) (qB 0))) (vTB (qM gEq (qM Ws (qM gIx (qB 3) (vC (.int 1))) (qB 2)) (qB 1))))] [] (qB 3))) qD))
def qBa:FS:=(W3 (qB 4) qHN)
def JP:FS:=(qV (WQ 4 (Qe qD)) (qV (WN (QM (qA (qB 1) qD)) (QY 5) qBa) (W3 (qB 2) (qB 4))))
def qAs (a:Ad):FS:=(qV (WQ 2 (Qe qD)) (qV (WN (QM (qA (qB 1) qD)) (QY 3) JP) (qf (qB 2))))
def Wh (a:Ad):List PV->qC->Rs PV:=QG 2 6 (qAs a)
def qKZ:FS:=(qV (qv 3 (qM Qf (qM gIx (qM gIx (qB 0) (qB 1)) (qB 2)) (qM gIx (qM gIx (qB 0) (vC (.int 0))) (vC (.int 0))))) (Q2 (vTB (qM gNe (qB 3) (qM Qf (qM gIx (qM gIx (qB 0) (qB 1)) (vC (.int 0))) (qM gIx (qM gIx (qB 0) (vC (.int 0))) (qB 2))))) (qf (wY (qA (qB 1) (qA (qB 2) qD)))) Qq))
def qHq:FS:=(WN (QM (qA (qH WH (qA (qB 0) qD)) qD)) (QY 2) qKZ)
def qA1 (a:Ad):FS:=(qV (WN (QM (qA (qH WH (qA (qB 0) qD)) qD)) (QY 1) qHq) (qf (vC .non)))
def w4 (a:Ad):List PV->qC->Rs PV:=QG 1 4 (qA1 a)
def Jc (a:Ad):FS:=(Q2 (ZV (ww (Qr (qH (Qg (kit a)) (qA (qB 2) (qA (vC (.ty "tuple")) qD))))) (ZV (vTB (qM gNe (qH WH (qA (qB 2) qD)) (qB 0))) (ww (Qr (qH ZW (qA (vFz (qc [] 1 (QA (qB 2)) (qy 0) [] [] (qH (zJ a) (qA (qB 0) qD)))) qD)))))) (qf (vC (.bl false))) Qq)
def yK (a:Ad):FS:=(qV (Q2 (ZV (ww (Qr (qH (Qg (kit a)) (qA (qB 1) (qA (vC (.ty "tuple")) qD))))) (vTB (qM gNe (qH WH (qA (qB 1) qD)) (qB 0)))) (qf (vC (.bl false))) Qq) (qV (WN (QA (qB 1)) (QY 2) (Jc a)) (qV (Q2 (vTB (qM gNe (vFz (qc [] 1 (QA (qB 1)) (qy 0) [(vTB (qM gNe (qH yD (qA (qB 0) qD)) (vC (.int 0))))] [] (qB 0))) (vFz (Qe qD)))) (qf (vC (.bl false))) Qq) (qf (qM gEq (vFz (qc [1] 1 (QM (qA (qB 0) qD)) (qy 1) [(vTB (qM gNe (qH zC (qA (vFz (qc [1] 1 (QA (qB 0)) (qy 1) [] [] (qM gIx (qB 1) (qB 0)))) qD)) (vC (.int 0))))] [] (qB 1))) (vFz (Qe qD)))))))
def Q0 (a:Ad):List PV->qC->Rs PV:=QG 2 3 (yK a)
def JB (a:Ad):FS:=(qf (qH zC (qA (vFz (qc [2,1] 2 (QA (qB 0)) (yj 2 (wV (qy 2) (wV (qy 3) yz))) [] [] (qM gIx (qM gIx (qB 0) (qM Ws (qB 2) (qB 1))) (qM Ws (qB 3) (qB 1))))) qD)))
def WK (a:Ad):List PV->qC->Rs PV:=QG 3 3 (JB a)
def qD1 (a:Ad):FS:=(qV (qv 5 (vFz (qc [2,0] 1 (QM (qA (qM zU (qB 1) (vC (.int 1))) qD)) (qy 2) [] [] (qM zU (qH (qT a) (qA (qB 1) (qA (qM Qf (qM ZE (vC (.int 2)) (qB 0)) (vC (.int 1))) qD))) (qB 0))))) (W3 (qB 3) (vFz (zD (qB 5) (vFz (Qe (qA (qM zU (vC (.int 0)) (qH zC (qA (qB 5) qD))) qD)))))))
def ZY (a:Ad):FS:=(qV (qv 2 (qM gIx (vFz (Qe (qA (vC (.int 3)) (qA (vC (.int 20)) (qA (qM qEk (vC (.int 10)) (vC (.int 12))) qD))))) (qH (qT a) (qA (qB 0) (qA (vC (.int 3)) qD))))) (qV (WQ 3 (Qe qD)) (qV (WN (QM (qA (qM zU (qB 1) (vC (.int 1))) qD)) (QY 4) (qD1 a)) (qV (W3 (qB 3) (vFz (qc [3] 1 (QM (qA (qB 1) qD)) (qy 1) [] [] (qM zU (vC (.int 0)) (qH zC (qA (vFz (qc [1] 1 (QA (qB 0)) (qy 1) [] [] (qM gIx (qB 1) (qB 0)))) qD)))))) (qf (qH wm (qA (vFz (qc [] 1 (QA (qB 3)) (qy 0) [] [] (qH wm (qA (qB 0) qD)))) qD)))))))
def zS (a:Ad):List PV->qC->Rs PV:=QG 2 6 (ZY a)
def YX (a:Ad):FS:=(qV (j6 (wY (qA (qH (qT a) (qA (qB 0) (qA (qH WH (qA (qB 1) qD)) qD))) (qA (qH (qT a) (qA (qB 0) (qA (qH WH (qA (qB 1) qD)) qD))) qD))) (yj 2 (wV (QY 2) (wV (QY 3) yz)))) (qV (qv 4 (qM gIx (qB 1) (qB 2))) (qV (qv 5 (qM gIx (vFz (Qe (qA (qM Qf (qM gIx (qB 4) (qB 3)) (vC (.int 1))) (qA (vC (.bl true)) (qA (vC .non) (qA (vC (.str "0")) (qA (wY (qA (vC (.int 0)) qD)) (qA (vC (.bl false)) (qA (qM qEk (vC (.int 10)) (vC (.int 39))) (qA (vC (.int 0)) (qA (qM gIx (qB 4) (vC (.int 0))) qD))))))))))) (qH (qT a) (qA (qB 0) (qA (vC (.int 9)) qD))))) (qV (qv 6 (vFz (Qe (qA (qM zP (qM zP (yd (qB 4) Q9 (wA (qB 3))) (wY (qA (qB 5) qD))) (yd (qB 4) (wA (qM Qf (qB 3) (vC (.int 1)))) Q9)) (qA (qM zP (qB 4) (wY (qA (vC (.int 0)) qD))) (qA (yd (qB 4) (wA (vC (.int 1))) Q9) (qA (vFz (jk (qB 4))) (qA (Jw (qB 4) Q9 Q9 (wA (qBB (vC (.int 1))))) (qA (qB 5) qD))))))))) (qV (qv 7 (vFz (qc [1,2] 1 (QA (qB 6)) (qy 2) [] [] (qM zP (qM zP (yd (qB 0) Q9 (wA (qB 1))) (wY (qA (qB 2) qD))) (yd (qB 0) (wA (qM Qf (qB 1) (vC (.int 1)))) Q9))))) (qV (qv 7 (vFz (zD (qB 7) (vFz (Qe (qA (qM zP (yd (qB 1) Q9 (wA (qB 2))) (yd (qB 1) (wA (qM Qf (qB 2) (vC (.int 1)))) Q9)) (qA (qM zP (qB 1) (yd (qB 1) Q9 (wA (vC (.int 1))))) (qA (Jw (qB 1) Q9 Q9 (wA (qBB (vC (.int 1))))) qD)))))))) (qV (qv 7 (vFz (zD (qB 7) (vFz (Qe (qA (vFz (jk (qB 1))) (qA (qM zP (qB 1) (wY (qA (wY qD) qD))) qD))))))) (qf (qM gIx (vFz (zD (qB 7) (vFz (Qe (qA (qH (yk a) (qA (qB 0) qD)) qD))))) (qH (qT a) (qA (qB 0) (qA (vC (.int 12)) qD))))))))))))
def W7 (a:Ad):List PV->qC->Rs PV:=QG 2 8 (YX a)
def yo (a:Ad):FS:=(Yd 4 5 (Qt a) (qV (Q2 (vTB (qM gEq (qB 0) (vC (.int 0)))) (qf (qH (Q6 a) (qA (qB 2) (qA (qB 3) qD)))) Qq) (qV (Q2 (vTB (qM gEq (qB 0) (vC (.int 1)))) (qf (qH (wW a) (qA (qB 1) (qA (qB 2) (qA (qB 3) qD))))) Qq) (qf (qH (wO a) (qA (qB 1) (qA (qB 2) qD)))))) (qf (qH (WT a) (qA (qB 4) qD))))
def QH (a:Ad):List PV->qC->Rs PV:=QG 4 5 (yo a)
def qBU (a:Ad):FS:=(qV (qv 7 (qH (Q0 a) (qA (qB 3) (qA (qB 6) qD)))) (qV (qv 8 (vIf (Qr (qB 7)) (qH (WK a) (qA (qB 4) (qA (qB 3) (qA (qB 6) qD)))) (vC (.str "! weights")))) (qV (Q2 (ww (Qr (qH (qu 3 a) (qA (qH (QH a) (qA (vC (.int 0)) (qA (qB 4) (qA (qB 3) (qA (qB 6) qD))))) (qA (qB 7) qD))))) (qf (vC (.bl false))) Qq) (Q2 (ww (Qr (qH (qu 3 a) (qA (qH (QH a) (qA (vC (.int 1)) (qA (qB 4) (qA (qB 3) (qA (qB 6) qD))))) (qA (qB 8) qD))))) (qf (vC (.bl false))) Qq))))
def Z7 (a:Ad):FS:=(qV (qv 2 (qH (yf a) (qA (qB 0) (qA (qB 1) qD)))) (qV (qv 3 (qM Qf (vC (.int 2)) (qH (qT a) (qA (qB 2) (qA (vC (.int 4)) qD))))) (qV (qv 4 (qH (zG a) (qA (qB 2) (qA (qB 3) qD)))) (qV (qv 5 (qH (zS a) (qA (qB 2) (qA (qB 3) qD)))) (qV (WN (QA (vFz (zD (vFz (Qe (qA (qB 5) qD))) (vFz (qc [2,5] 1 (QM (qA (vC (.int 4)) qD)) (qy 2) [] [] (qH (W7 a) (qA (qB 0) (qA (qB 1) qD)))))))) (QY 6) (qBU a)) (qV (qv 9 (qH (QH a) (qA (vC (.int 2)) (qA (qB 4) (qA (qB 3) (qA (vC .non) qD)))))) (qV (Q2 (vTB (qM (Jf false) (qH (w4 a) (qA (qH (Wh a) (qA (qB 4) (qA (qB 3) qD))) qD)) (vC .non))) (Q2 (vTB (qM (Jf true) (qB 9) (vC .non))) (qf (vC (.bl false))) Qq) (Q2 (ZV (ww (Qr (qH (Q0 a) (qA (qB 3) (qA (qB 9) qD))))) (vTB (qM gEq (qH (WK a) (qA (qB 4) (qA (qB 3) (qA (qB 9) qD)))) (vC (.int 0))))) (qf (vC (.bl false))) Qq)) (qV (Q2 (ww (Qr (qH (qu 3 a) (qA (qH (QH a) (qA (vC (.int 2)) (qA (qB 4) (qA (qB 3) (qA (vC .non) qD))))) (qA (qB 9) qD))))) (qf (vC (.bl false))) Qq) (qV (qv 10 (qH (wk a) (qA (qB 2) qD))) (Q2 (vTB (qM gNe (vFz (qc [4,10] 1 (QM (qA (vC (.int 3)) qD)) (qy 2) [] [] (qH (QH a) (qA (qB 2) (qA (qB 0) (qA (qB 1) (qA (vC .non) qD))))))) (vFz (Yq (Qe (qA (vC (.str "! length")) qD)) (vC (.int 3)))))) (qf (vC (.bl false))) Qq))))))))))
def qH1 (a:Ad):FS:=(qV (WN (QM (qA (qH qDy (qA (vC (.int 1)) (qA (qH qFC (qA (qH WH (qA (qB 0) qD)) (qA (vC (.int 5)) qD))) qD))) qD)) (QY 1) (Z7 a)) (qf (vC (.bl true))))
def qAM (a:Ad):List PV->qC->Rs PV:=QG 1 11 (qH1 a)
structure Env (K:W.Frag) (mg:Str->Option Value) (a:Ad):Prop where
 kit:KitOk K (kit a)
 n_ValueError:mg "ValueError" = none
 n_all:mg "all" = none
 n_bool:mg "bool" = none
 n_int:mg "int" = none
 n_isinstance:mg "isinstance" = none
 n_len:mg "len" = none
 n_list:mg "list" = none
 n_max:mg "max" = none
 n_min:mg "min" = none
 n_range:mg "range" = none
 n_set:mg "set" = none
 n_sorted:mg "sorted" = none
 n_sum:mg "sum" = none
 n_tuple:mg "tuple" = none
 n_zip:mg "zip" = none
 c_LEAST_LENGTH:∃ t,mg "LEAST_LENGTH" = some (.int 2 t)
 c_MOST_LENGTH:∃ t,mg "MOST_LENGTH" = some (.int 5 t)
 k_Z0:mg "BarError" = some (.ref a.Z0)
 k_Z1:mg "NoLength" = some (.ref a.Z1)
 k_Z2:mg "NoNumber" = some (.ref a.Z2)
 k_Z3:mg "NoBars" = some (.ref a.Z3)
 k_Z4:mg "NoBox" = some (.ref a.Z4)
 k_Z5:mg "NoWeights" = some (.ref a.Z5)
 k_Z6:mg "NoSorts" = some (.ref a.Z6)
 k_Z7:mg "NoTurn" = some (.ref a.Z7)
 k_Z8:mg "NoPlace" = some (.ref a.Z8)
 k_Z9:mg "NoText" = some (.ref a.Z9)
 k_Z10:mg "NoRow" = some (.ref a.Z10)
 k_Z11:mg "TooMany" = some (.ref a.Z11)
 x_Z1:W.excIn K a.Z1 bmV "ValueError.__new__" = true
 e_Z1:W.mroIn K a.Z1 (.ref a.Z0)=some true
 x_Z5:W.excIn K a.Z5 bmV "ValueError.__new__" = true
 e_Z5:W.mroIn K a.Z5 (.ref a.Z0)=some true
 o_Z0:∃ dd cd sl,K.lookup a.Z0=some ⟨.type "type",dd,.cls cd,sl⟩
 b_Z0:W.mroIn K a.Z0 (.type "BaseException")=some true
 m_is_whole:mg "is_whole" = some (.ref a.is_whole)
 f_is_whole:∃ fd,Fun K "is_whole" "is_whole" WR a.is_whole fd
 m_is_whole_within:mg "is_whole_within" = some (.ref a.is_whole_within)
 f_is_whole_within:∃ fd,Fun K "is_whole_within" "is_whole_within" Qh a.is_whole_within fd
 m_are_wholes:mg "are_wholes" = some (.ref a.are_wholes)
 f_are_wholes:∃ fd,Fun K "are_wholes" "are_wholes" wb a.are_wholes fd
 m_is_length:mg "is_length" = some (.ref a.is_length)
 f_is_length:∃ fd,Fun K "is_length" "is_length" w6 a.is_length fd
 m_need_length:mg "need_length" = some (.ref a.need_length)
 f_need_length:∃ fd,Fun K "need_length" "need_length" Q7 a.need_length fd
 m_rests:mg "rests" = some (.ref a.rests)
 f_rests:∃ fd,Fun K "rests" "rests" ZT a.rests fd
 m_first_apart:mg "first_apart" = some (.ref a.first_apart)
 f_first_apart:∃ fd,Fun K "first_apart" "first_apart" wL a.first_apart fd
 m_are_weights:mg "are_weights" = some (.ref a.are_weights)
 f_are_weights:∃ fd,Fun K "are_weights" "are_weights" wM a.are_weights fd
 m_weight_of:mg "weight_of" = some (.ref a.weight_of)
 f_weight_of:∃ fd,Fun K "weight_of" "weight_of" wp a.weight_of fd
 m_weights_for:mg "weights_for" = some (.ref a.weights_for)
 f_weights_for:∃ fd,Fun K "weights_for" "weights_for" wK a.weights_for fd
 m_law_cell:mg "_law_cell" = some (.ref a.law_cell)
 f_law_cell:∃ fd,Fun K "_law_cell" "_law_cell" Wa a.law_cell fd
 m_law_box:mg "_law_box" = some (.ref a.law_box)
 f_law_box:∃ fd,Fun K "_law_box" "_law_box" Wy a.law_box fd
 m_law_take:mg "_law_take" = some (.ref a.law_take)
 f_law_take:∃ fd,Fun K "_law_take" "_law_take" WW a.law_take fd
 m_law_whole:mg "_law_whole" = some (.ref a.law_whole)
 f_law_whole:∃ fd,Fun K "_law_whole" "_law_whole" wz a.law_whole fd
 m_law_odd:mg "_law_odd" = some (.ref a.law_odd)
 f_law_odd:∃ fd,Fun K "_law_odd" "_law_odd" Wz a.law_odd fd
 m_law_kind:mg "_law_kind" = some (.ref a.law_kind)
 f_law_kind:∃ fd,Fun K "_law_kind" "_law_kind" Wd a.law_kind fd
 m_law_same:mg "_law_same" = some (.ref a.law_same)
 f_law_same:∃ fd,Fun K "_law_same" "_law_same" WX a.law_same fd
 m_law_no_length:mg "_law_no_length" = some (.ref a.law_no_length)
 f_law_no_length:∃ fd,Fun K "_law_no_length" "_law_no_length" Qz a.law_no_length fd
 m_law_cover:mg "_law_cover" = some (.ref a.law_cover)
 f_law_cover:∃ fd,Fun K "_law_cover" "_law_cover" wt a.law_cover fd
 m_law_put:mg "_law_put" = some (.ref a.law_put)
 f_law_put:∃ fd,Fun K "_law_put" "_law_put" Wv a.law_put fd
 m_law_floor:mg "_law_floor" = some (.ref a.law_floor)
 f_law_floor:∃ fd,Fun K "_law_floor" "_law_floor" WA a.law_floor fd
 m_law_rests:mg "_law_rests" = some (.ref a.law_rests)
 f_law_rests:∃ fd,Fun K "_law_rests" "_law_rests" w9 a.law_rests fd
 m_law_apart:mg "_law_apart" = some (.ref a.law_apart)
 f_law_apart:∃ fd,Fun K "_law_apart" "_law_apart" wo a.law_apart fd
 m_law_are_weights:mg "_law_are_weights" = some (.ref a.law_are_weights)
 f_law_are_weights:∃ fd,Fun K "_law_are_weights" "_law_are_weights" Qj a.law_are_weights fd
 m_law_weight:mg "_law_weight" = some (.ref a.law_weight)
 f_law_weight:∃ fd,Fun K "_law_weight" "_law_weight" wX a.law_weight fd
 m_law_weights:mg "_law_weights" = some (.ref a.law_weights)
 f_law_weights:∃ fd,Fun K "_law_weights" "_law_weights" wN a.law_weights fd
 m_law_bent:mg "_law_bent" = some (.ref a.law_bent)
 f_law_bent:∃ fd,Fun K "_law_bent" "_law_bent" WZ a.law_bent fd
 m_law_asked:mg "_law_asked" = some (.ref a.law_asked)
 f_law_asked:∃ fd,Fun K "_law_asked" "_law_asked" wU a.law_asked fd
 m_law:mg "law" = some (.ref a.law)
 f_law:∃ fd,Fun K "law" "law" z9 a.law fd
theorem cxc {CX:CXT} {P:Program} {w:World} {K:W.Frag} {mg:Str->Option Value} {base:Heap} {N:List Str} {x:Str} {sc:Scope} {fa:Addr} {cdv:Value} {A:Around} {outer:List PySem.Env} {s:Shared} {H:Hp} {E:XK} (h:A.handled=none):(wj CX P w K mg base N x sc fa cdv A outer s H E).calm=true:=by show A.handled.isNone=true;rw [h];rfl
theorem scm {N P:List Str} {sc:Scope} (h1:sc.kind = .function:=by rfl) (h2:sc.isCoroutine=false:=by rfl) (h3:sc.isGenerator=false:=by rfl) (h4:N.Nodup:=by decide +kernel) (h5:N.take P.length=P:=by rfl) (h6:∀ x∈P,sc.names.lookup x=some .local∨sc.names.lookup x=some .cell:=by decide +kernel) (h7:∀ y∈sc.names,y.2 ≠ .free:=by decide +kernel):FnScope N P sc:=⟨h1,h2,h3,h4,h5,h6,h7⟩
theorem mkB {P:Program} {w:World} {K:W.Frag} {mg:Str->Option Value} {base:Heap} {x:Str} {st:Stmt} {fa:Addr} {N ps:List Str} {k:Nat} {B:FS} (F:∃ fd,Fun K x x st fa fd) (S:FnScope N ps (qJ st)) (m:mg x=some (.ref fa)) (body:∀ (cdv:Value) (A:Around) (outer:List PySem.Env) (s:Shared) (H:Hp) (E:XK),Room k (A.deeper (envOfC x (qJ st) s.heap.objs.size fa cdv))->(0 < k->A.handled=none)->(0 < k->(wj (CXF P w) P w K mg base N x (qJ st) fa cdv A outer s H E).calm=true)->VSs (wj (CXF P w) P w K mg base N x (qJ st) fa cdv A outer s H E) E (qZ st) B) (hb:∀ (kV doc pm:Value) (an:Option Addr) (cdv ct:Value) (us:List Value),us.length=ps.length->bindArgs (W.fnOf x x (qd st) (qZ st) (qJ st) Value.none kV doc pm an cdv ct) { pos:=us }=pure (ps.zip us)):DefG P w K mg base (k + 1) x fa ps.length (QG ps.length N.length B):=by
 obtain ⟨fd,F⟩:=F
 exact qCd (B:=B) F S (F.binds (ps:=ps) hb) m (fun l st h=>ZS h) (fun cdv A outer s H E hr hcm=>body cdv A outer s H E hr hcm fun h=>cxc (hcm h)) (fun l s0 hl hn=>zY hl)
theorem qDr {P:Program} {w:World} {K:W.Frag} {mg:Str->Option Value} {base:Heap} {x:Str} {st:Stmt} {fa:Addr} {N ps:List Str} {k:Nat} {B:FS} (F:∃ fd,Fun K x x st fa fd) (S:FnScope N ps (qJ st)) (m:mg x=some (.ref fa)) (body:∀ (cdv:Value) (A:Around) (outer:List PySem.Env) (s:Shared) (H:Hp) (E:XK),Room k (A.deeper (envOfC x (qJ st) s.heap.objs.size fa cdv))->(0 < k->A.handled=none)->(0 < k->(wj (CXF P w) P w K mg base N x (qJ st) fa cdv A outer s H E).calm=true)->VSs (wj (CXF P w) P w K mg base N x (qJ st) fa cdv A outer s H E) E (qZ st) B) (hl:ps.length=1:=by rfl) (hb:∀ (kV doc pm:Value) (an:Option Addr) (cdv ct u0:Value),bindArgs (W.fnOf x x (qd st) (qZ st) (qJ st) Value.none kV doc pm an cdv ct) { pos:=[u0] }=pure (ps.zip [u0]):=by intros;rfl):DefG P w K mg base (k + 1) x fa ps.length (QG ps.length N.length B) :=
 mkB F S m body fun kV doc pm an cdv ct us hu=>match us,hu.trans hl with |[u0],_=>hb kV doc pm an cdv ct u0
theorem Zq {P:Program} {w:World} {K:W.Frag} {mg:Str->Option Value} {base:Heap} {x:Str} {st:Stmt} {fa:Addr} {N ps:List Str} {k:Nat} {B:FS} (F:∃ fd,Fun K x x st fa fd) (S:FnScope N ps (qJ st)) (m:mg x=some (.ref fa)) (body:∀ (cdv:Value) (A:Around) (outer:List PySem.Env) (s:Shared) (H:Hp) (E:XK),Room k (A.deeper (envOfC x (qJ st) s.heap.objs.size fa cdv))->(0 < k->A.handled=none)->(0 < k->(wj (CXF P w) P w K mg base N x (qJ st) fa cdv A outer s H E).calm=true)->VSs (wj (CXF P w) P w K mg base N x (qJ st) fa cdv A outer s H E) E (qZ st) B) (hl:ps.length=2:=by rfl) (hb:∀ (kV doc pm:Value) (an:Option Addr) (cdv ct u0 u1:Value),bindArgs (W.fnOf x x (qd st) (qZ st) (qJ st) Value.none kV doc pm an cdv ct) { pos:=[u0,u1] }=pure (ps.zip [u0,u1]):=by intros;rfl):DefG P w K mg base (k + 1) x fa ps.length (QG ps.length N.length B) :=
 mkB F S m body fun kV doc pm an cdv ct us hu=>match us,hu.trans hl with |[u0,u1],_=>hb kV doc pm an cdv ct u0 u1
theorem qGD {P:Program} {w:World} {K:W.Frag} {mg:Str->Option Value} {base:Heap} {x:Str} {st:Stmt} {fa:Addr} {N ps:List Str} {k:Nat} {B:FS} (F:∃ fd,Fun K x x st fa fd) (S:FnScope N ps (qJ st)) (m:mg x=some (.ref fa)) (body:∀ (cdv:Value) (A:Around) (outer:List PySem.Env) (s:Shared) (H:Hp) (E:XK),Room k (A.deeper (envOfC x (qJ st) s.heap.objs.size fa cdv))->(0 < k->A.handled=none)->(0 < k->(wj (CXF P w) P w K mg base N x (qJ st) fa cdv A outer s H E).calm=true)->VSs (wj (CXF P w) P w K mg base N x (qJ st) fa cdv A outer s H E) E (qZ st) B) (hl:ps.length=3:=by rfl) (hb:∀ (kV doc pm:Value) (an:Option Addr) (cdv ct u0 u1 u2:Value),bindArgs (W.fnOf x x (qd st) (qZ st) (qJ st) Value.none kV doc pm an cdv ct) { pos:=[u0,u1,u2] }=pure (ps.zip [u0,u1,u2]):=by intros;rfl):DefG P w K mg base (k + 1) x fa ps.length (QG ps.length N.length B) :=
 mkB F S m body fun kV doc pm an cdv ct us hu=>match us,hu.trans hl with |[u0,u1,u2],_=>hb kV doc pm an cdv ct u0 u1 u2
section
variable {P:Program} {w:World} {K:W.Frag} {mg:Str->Option Value} {base:Heap} {a:Ad}
theorem qAq:FnScope ["thing"] ["thing"] (qJ WR):=scm
theorem Yo (V:Env K mg a):DefG P w K mg base 2 "is_whole" a.is_whole 1 (zx a):=by
 refine qDr V.f_is_whole qAq V.m_is_whole fun cdv A outer s H E hr hcm hcc => ?_
 have hu:=hr.units
 exact (qP (qa (Zv (Qb V.kit V.n_isinstance (@qO _ _ _ _ _ _ _ (qG 0) (@qO _ _ _ _ _ _ _ (Wi rfl V.n_int Boot.«int») qF))) (ym (qF1 (Qb V.kit V.n_isinstance (@qO _ _ _ _ _ _ _ (qG 0) (@qO _ _ _ _ _ _ _ (Wi rfl V.n_bool Boot.«bool») qF))))))))
theorem Zh:FnScope ["thing","least","most"] ["thing","least","most"] (qJ Qh):=scm
theorem yF (V:Env K mg a):DefG P w K mg base 3 "is_whole_within" a.is_whole_within 3 (WG a):=by
 refine qGD V.f_is_whole_within Zh V.m_is_whole_within fun cdv A outer s H E hr hcm hcc => ?_
 have hu:=hr.units
 exact (qP (qa (Zv (qS ((Yo V).call (hr.mono (by omega)) qj) (@qO _ _ _ _ _ _ _ (qG 0) qF)) (ym (qA0 Jy Jy qBC qBC (qG 1) (qG 0) (qG 2))))))
theorem jM:FnScope ["thing","least","most"] ["thing","least","most"] (qJ wb):=scm
theorem JQ (V:Env K mg a):DefG P w K mg base 3 "are_wholes" a.are_wholes 3 (Wt a):=by
 refine qGD V.f_are_wholes jM V.m_are_wholes fun cdv A outer s H E hr hcm hcc => ?_
 have hu:=hr.units
 exact (qP (qa (Zv (Qb V.kit V.n_isinstance (@qO _ _ _ _ _ _ _ (qG 0) (@qO _ _ _ _ _ _ _ (Wi rfl V.n_tuple Boot.«tuple») qF))) (Zv (qA0 Jy Jy qBC qBC (qG 1) (wF (@qO _ _ _ _ _ _ _ (qG 0) qF) V.n_len) (qG 2)) (ym (yT (@Zw _ _ _ _ _ _ _ _ _ (qg (QN (capN:=([])) (locN:=(["number"])) (caps:=([])) (by exact QW rfl (by decide +kernel) rfl rfl trivial) (wE (qG 0)) (fun s' H' fp pn=>⟨(qS ((Yo V).call (hr.mono (by omega)) (qm _)) (@qO _ _ _ _ _ _ _ (qG 0) qF)),⟨(QL 0 (show (["number"]:List Str).Nodup by decide +kernel)),(qY 0),TsOk.nil,rfl⟩,GsOk.nil⟩))) qF) V.n_all))))))
theorem JE:FnScope ["thing"] ["thing"] (qJ w6):=scm
theorem Jt (V:Env K mg a):DefG P w K mg base 4 "is_length" a.is_length 1 (ZF a):=by
 obtain ⟨fd,F⟩:=V.f_is_length
 obtain ⟨_,c_LEAST_LENGTH⟩:=V.c_LEAST_LENGTH
 obtain ⟨_,c_MOST_LENGTH⟩:=V.c_MOST_LENGTH
 refine qCd (B:=ZI a) F JE (F.binds (ps:=["thing"]) fun _ _ _ _ _ _ us hl=>match us,hl with |[_],_=>rfl) V.m_is_length (fun l st h=>ZS h) (fun cdv A outer s H E hr hcm => ?_) (fun l s0 hl hn=>zY hl)
 have hu:=hr.units
 exact (qP (qa (qS ((yF V).call (hr.mono (by omega)) qj) (@qO _ _ _ _ _ _ _ (qG 0) (@qO _ _ _ _ _ _ _ (YI rfl c_LEAST_LENGTH) (@qO _ _ _ _ _ _ _ (YI rfl c_MOST_LENGTH) qF))))))
theorem YV:FnScope ["thing"] ["thing"] (qJ Q7):=scm
theorem ZZ (V:Env K mg a):DefG P w K mg base 5 "need_length" a.need_length 1 (Q8 a):=by
 obtain ⟨fd,F⟩:=V.f_need_length
 obtain ⟨_,c_LEAST_LENGTH⟩:=V.c_LEAST_LENGTH
 obtain ⟨_,c_MOST_LENGTH⟩:=V.c_MOST_LENGTH
 refine qCd (B:=zT a) F YV (F.binds (ps:=["thing"]) fun _ _ _ _ _ _ us hl=>match us,hl with |[_],_=>rfl) V.m_need_length (fun l st h=>ZS h) (fun cdv A outer s H E hr hcm => ?_) (fun l s0 hl hn=>zY hl)
 have hu:=hr.units
 have hc:(wj (CXF P w) P w K mg base ["thing"] "need_length" (qJ Q7) a.need_length cdv A outer s H E).calm=true:=by show A.handled.isNone=true;rw [hcm (by omega)];rfl
 exact (qP (Q1 (Wc (wn (qS ((Jt V).call (hr.mono (by omega)) qj) (@qO _ _ _ _ _ _ _ (qG 0) qF)))) (qP (qAC qHk hc rfl V.k_Z1 V.x_Z1 (@qKJ _ _ _ _ _ _ _ (qCc (Wp Qp (Wp (JA (YI rfl c_LEAST_LENGTH)) (Wp Qp (Wp (JA (YI rfl c_MOST_LENGTH)) qEA))))) qF))) QB))
theorem sc_rests:FnScope ["floor","length","told","row","column"] ["floor","length"] (qJ ZT):=scm
theorem qHY (V:Env K mg a):DefG P w K mg base 6 "rests" a.rests 2 (YN a):=by
 refine Zq V.f_rests sc_rests V.m_rests fun cdv A outer s H E hr hcm hcc => ?_
 have hu:=hr.units
 have hc:=hcc (by omega)
 exact (qL (Jl (qS ((ZZ V).call (hr.mono (by omega)) qj) (@qO _ _ _ _ _ _ _ (qG 1) qF))) (qL (qAL (capN:=(["length"])) (locN:=(["row_rest"])) (caps:=([1])) 2 sc_rests.nd (by exact QW rfl (by decide +kernel) rfl rfl ⟨⟨rfl,rfl⟩,trivial⟩) (qq rfl V.n_range (@qO _ _ _ _ _ _ _ (qG 1) qF)) (fun s' H' fp pn=>⟨(qHf (qBH (QD (@qr _ _ _ _ _ _ _ _ qK qF)) (qG 0))),⟨(QL 1 (show (["length","row_rest"]:List Str).Nodup by decide +kernel)),(qY 1),TsOk.nil,rfl⟩,GsOk.nil⟩)) (qL (WD (wE (qG 0)) (Zm hc (Qs (QV 3 sc_rests.nd) (Qs (QV 4 sc_rests.nd) zl))) (qP (qHL (QC (qG 2) (Wn (qG 3) (qG 1))) (Wn (qG 4) (qG 1)) qK))) (qP (qa (qG 2))))))
theorem sc_first_apart:FnScope ["floor","length","table","row_rest","column_rest","both_heads"] ["floor","length"] (qJ wL):=scm
theorem jH (V:Env K mg a):DefG P w K mg base 7 "first_apart" a.first_apart 2 (Wf a):=by
 refine Zq V.f_first_apart sc_first_apart V.m_first_apart fun cdv A outer s H E hr hcm hcc => ?_
 have hu:=hr.units
 exact (qL (q9 2 sc_first_apart.nd (qS ((qHY V).call (hr.mono (by omega)) qj) (@qO _ _ _ _ _ _ _ (qG 0) (@qO _ _ _ _ _ _ _ (qG 1) qF)))) (qL (WD (qq rfl V.n_range (@qO _ _ _ _ _ _ _ (qG 1) qF)) (QV 3 sc_first_apart.nd) (qP (WD (qq rfl V.n_range (@qO _ _ _ _ _ _ _ (qG 1) qF)) (QV 4 sc_first_apart.nd) (qL (q9 5 sc_first_apart.nd (Qc (QC (QC (qG 2) (qG 3)) qK) (QC (QC (qG 2) qK) (qG 4)))) (qP (Q1 (QP (Wb hu) ze (Qc (QC (QC (qG 2) (qG 3)) (qG 4)) (QC (QC (qG 2) qK) qK)) (qG 5)) (qP (qa (Qn (@qO _ _ _ _ _ _ _ (qG 3) (@qO _ _ _ _ _ _ _ (qG 4) qF))))) QB)))))) (qP (qa Wm))))
theorem Yw:FnScope ["length","thing"] ["length","thing"] (qJ wM):=scm
theorem Zd (V:Env K mg a):DefG P w K mg base 6 "are_weights" a.are_weights 2 (Q6 a):=by
 refine Zq V.f_are_weights Yw V.m_are_weights fun cdv A outer s H E hr hcm hcc => ?_
 have hu:=hr.units
 exact (qL (Jl (qS ((ZZ V).call (hr.mono (by omega)) qj) (@qO _ _ _ _ _ _ _ (qG 0) qF))) (qL (Q1 (Jq (yn (Wc (wn (Qb V.kit V.n_isinstance (@qO _ _ _ _ _ _ _ (qG 1) (@qO _ _ _ _ _ _ _ (Wi rfl V.n_tuple Boot.«tuple») qF))))) (Zk (QP (Wb hu) ze (wF (@qO _ _ _ _ _ _ _ (qG 1) qF) V.n_len) (qG 0))))) (qP (qa wx)) QB) (qL (Q1 (Wc (wn (yT (@Zw _ _ _ _ _ _ _ _ _ (qg (QN (capN:=(["length"])) (locN:=(["line"])) (caps:=([0])) (by exact QW rfl (by decide +kernel) rfl rfl ⟨⟨rfl,rfl⟩,trivial⟩) (wE (qG 1)) (fun s' H' fp pn=>⟨(qS ((JQ V).call (hr.mono (by omega)) (qm _)) (@qO _ _ _ _ _ _ _ (qG 1) (@qO _ _ _ _ _ _ _ (qG 0) (@qO _ _ _ _ _ _ _ (qG 0) qF)))),⟨(QL 1 (show (["length","line"]:List Str).Nodup by decide +kernel)),(qY 1),TsOk.nil,rfl⟩,GsOk.nil⟩))) qF) V.n_all))) (qP (qa wx)) QB) (qL (Q1 (Wc (wn (yT (@Zw _ _ _ _ _ _ _ _ _ (qg (QN (capN:=([])) (locN:=(["line"])) (caps:=([])) (by exact QW rfl (by decide +kernel) rfl rfl trivial) (wE (qG 1)) (fun s' H' fp pn=>⟨(jf hu (qCR (@qO _ _ _ _ _ _ _ (qG 0) qF) V.n_sum) qK),⟨(QL 0 (show (["line"]:List Str).Nodup by decide +kernel)),(qY 0),TsOk.nil,rfl⟩,GsOk.nil⟩))) qF) V.n_all))) (qP (qa wx)) QB) (qP (qa (yT (@Zw _ _ _ _ _ _ _ _ _ (qg (QN (capN:=(["thing"])) (locN:=(["at"])) (caps:=([1])) (by exact QW rfl (by decide +kernel) rfl rfl ⟨⟨rfl,rfl⟩,trivial⟩) (qq rfl V.n_range (@qO _ _ _ _ _ _ _ (qG 0) qF)) (fun s' H' fp pn=>⟨(jf hu (Zp (@Zw _ _ _ _ _ _ _ _ _ (qg (QN (capN:=(["at"])) (locN:=(["line"])) (caps:=([1])) (by exact QW rfl (by decide +kernel) rfl rfl ⟨⟨rfl,rfl⟩,trivial⟩) (wE (qG 0)) (fun s' H' fp pn=>⟨(QC (qG 1) (qG 0)),⟨(QL 1 (show (["at","line"]:List Str).Nodup by decide +kernel)),(qY 1),TsOk.nil,rfl⟩,GsOk.nil⟩))) qF) V.n_sum) qK),⟨(QL 1 (show (["thing","at"]:List Str).Nodup by decide +kernel)),(qY 1),TsOk.nil,rfl⟩,GsOk.nil⟩))) qF) V.n_all)))))))
theorem Jb:FnScope ["floor","length","weights"] ["floor","length","weights"] (qJ wp):=scm
theorem qAd (V:Env K mg a):DefG P w K mg base 7 "weight_of" a.weight_of 3 (wW a):=by
 refine qGD V.f_weight_of Jb V.m_weight_of fun cdv A outer s H E hr hcm hcc => ?_
 have hu:=hr.units
 have hc:=hcc (by omega)
 exact (qL (Q1 (Wc (wn (qS ((Zd V).call (hr.mono (by omega)) qj) (@qO _ _ _ _ _ _ _ (qG 1) (@qO _ _ _ _ _ _ _ (qG 2) qF))))) (qP (qAC qHk hc rfl V.k_Z5 V.x_Z5 (@qKJ _ _ _ _ _ _ _ (qCc (Wp Qp (Wp (JA (qG 1)) (Wp Qp (Wp (JA (qG 1)) (Wp Qp qEA)))))) qF))) QB) (qP (qa (Zp (@Zw _ _ _ _ _ _ _ _ _ (qg (QN (capN:=(["weights","length"])) (locN:=(["row","column"])) (caps:=([2,1])) (by exact QW rfl (by decide +kernel) rfl rfl ⟨⟨rfl,rfl⟩,⟨⟨rfl,rfl⟩,trivial⟩⟩) (wE (qG 0)) (fun s' H' fp pn=>⟨(QC (QC (qG 0) (Wn (qG 2) (qG 1))) (Wn (qG 3) (qG 1))),⟨(Zm hc (Qs (QL 2 (show (["weights","length","row","column"]:List Str).Nodup by decide +kernel)) (Qs (QL 3 (show (["weights","length","row","column"]:List Str).Nodup by decide +kernel)) zl))),(yP (WV (qY 2) (WV (qY 3) yi))),TsOk.nil,rfl⟩,GsOk.nil⟩))) qF) V.n_sum))))
theorem sc_weights_for:FnScope ["floor","length","apart","row_rest","column_rest","lines"] ["floor","length"] (qJ wK):=scm
theorem jF (V:Env K mg a):DefG P w K mg base 8 "weights_for" a.weights_for 2 (wO a):=by
 refine Zq V.f_weights_for sc_weights_for V.m_weights_for fun cdv A outer s H E hr hcm hcc => ?_
 have hu:=hr.units
 have hc:=hcc (by omega)
 exact (qL (q9 2 sc_weights_for.nd (qS ((jH V).call (hr.mono (by omega)) qj) (@qO _ _ _ _ _ _ _ (qG 0) (@qO _ _ _ _ _ _ _ (qG 1) qF)))) (qL (Q1 (QP qEj qH6 (qG 2) Wm) (qP (qa Wm)) QB) (qL (qBv (qG 2) (Zm hc (Qs (QV 3 sc_weights_for.nd) (Qs (QV 4 sc_weights_for.nd) zl)))) (qL (qAL (capN:=(["length"])) (locN:=(["line"])) (caps:=([1])) 5 sc_weights_for.nd (by exact QW rfl (by decide +kernel) rfl rfl ⟨⟨rfl,rfl⟩,trivial⟩) (qq rfl V.n_range (@qO _ _ _ _ _ _ _ (qG 1) qF)) (fun s' H' fp pn=>⟨(qHf (qBH (QD (@qr _ _ _ _ _ _ _ _ qK qF)) (qG 0))),⟨(QL 1 (show (["length","line"]:List Str).Nodup by decide +kernel)),(qY 1),TsOk.nil,rfl⟩,GsOk.nil⟩)) (qL (Ju (QC (qG 5) qK) qK (QC (qG 5) (qG 3)) (qG 4) qK) (qL (Ju (QC (qG 5) qK) (qG 4) (QC (qG 5) (qG 3)) qK (Yj qK)) (qP (qa (Wx (@Zw _ _ _ _ _ _ _ _ _ (qg (QN (capN:=([])) (locN:=(["line"])) (caps:=([])) (by exact QW rfl (by decide +kernel) rfl rfl trivial) (wE (qG 5)) (fun s' H' fp pn=>⟨(Wx (@qO _ _ _ _ _ _ _ (qG 0) qF) V.n_tuple),⟨(QL 0 (show (["line"]:List Str).Nodup by decide +kernel)),(qY 0),TsOk.nil,rfl⟩,GsOk.nil⟩))) qF) V.n_tuple)))))))))
theorem qAR:FnScope ["_law_script","_law_k"] ["_law_script","_law_k"] (qJ Wa):=scm
theorem qBr (V:Env K mg a):DefG P w K mg base 2 "_law_cell" a.law_cell 2 (zu a):=by
 refine Zq V.f_law_cell qAR V.m_law_cell fun cdv A outer s H E hr hcm hcc => ?_
 have hu:=hr.units
 exact (qL (Q1 (QP qHx qH4 (qG 1) (wF (@qO _ _ _ _ _ _ _ (qG 0) qF) V.n_len)) (qP (qa (QC (qG 0) (qG 1)))) QB) (qP (qa (Qc (Zn qK (qG 1)) qK))))
theorem sc_law_box:FnScope ["_law_script","_law_k","_law_cell_here","_law_number","_law_mixed","_law_j"] ["_law_script","_law_k"] (qJ Wy):=scm
theorem qDb (V:Env K mg a):DefG P w K mg base 3 "_law_box" a.law_box 2 (yf a):=by
 refine Zq V.f_law_box sc_law_box V.m_law_box fun cdv A outer s H E hr hcm hcc => ?_
 have hu:=hr.units
 exact (qL (q9 2 sc_law_box.nd (qS ((qBr V).call (hr.mono (by omega)) qj) (@qO _ _ _ _ _ _ _ (qG 0) (@qO _ _ _ _ _ _ _ (qG 1) qF)))) (qL (Q1 (QP (zB hu) ZO (Wn (qG 2) qK) qK) (qP (qCG (QD (@zX _ _ _ _ _ _ _ _ _ (qJL (qG 2) qK) qF)))) QB) (qL (q9 3 sc_law_box.nd qK) (qL (q9 4 sc_law_box.nd (Wn (qG 2) qK)) (qL (WD (qq rfl V.n_range (@qr _ _ _ _ _ _ _ _ qK qF)) (QV 5 sc_law_box.nd) (qL (q9 4 sc_law_box.nd (Wn (Qc (Qc (Qc (Zn (qG 4) qK) (Zn (Zn qK (qG 5)) (qG 5))) (Zn qK (qG 1))) qK) qK)) (qP (q9 3 sc_law_box.nd (Qc (Zn (qG 3) qK) (qG 4)))))) (qP (qCG (QD (@qO _ _ _ _ _ _ _ (qG 3) qF)))))))))
theorem sc_law_take:FnScope ["_law_box_here","_law_many","_law_digit"] ["_law_box_here","_law_many"] (qJ WW):=scm
theorem qh (V:Env K mg a):DefG P w K mg base 2 "_law_take" a.law_take 2 (qT a):=by
 refine Zq V.f_law_take sc_law_take V.m_law_take fun cdv A outer s H E hr hcm hcc => ?_
 have hu:=hr.units
 exact (qL (q9 2 sc_law_take.nd (Wn (QC (qG 0) qK) (qG 1))) (qL (qJb (qG 0) qK (qHT (QC (qG 0) qK) (qG 1))) (qP (qa (qG 2)))))
theorem JX:FnScope ["_law_thing"] ["_law_thing"] (qJ wz):=scm
theorem qAy (V:Env K mg a):DefG P w K mg base 2 "_law_whole" a.law_whole 1 (zJ a):=by
 refine qDr V.f_law_whole JX V.m_law_whole fun cdv A outer s H E hr hcm hcc => ?_
 have hu:=hr.units
 exact (qP (qa (Zv (Qb V.kit V.n_isinstance (@qO _ _ _ _ _ _ _ (qG 0) (@qO _ _ _ _ _ _ _ (Wi rfl V.n_int Boot.«int») qF))) (ym (qF1 (Qb V.kit V.n_isinstance (@qO _ _ _ _ _ _ _ (qG 0) (@qO _ _ _ _ _ _ _ (Wi rfl V.n_bool Boot.«bool») qF))))))))
theorem sc_law_odd:FnScope ["_law_box_here","_law_some"] ["_law_box_here"] (qJ Wz):=scm
theorem qDT (V:Env K mg a):DefG P w K mg base 3 "_law_odd" a.law_odd 1 (yk a):=by
 refine qDr V.f_law_odd sc_law_odd V.m_law_odd fun cdv A outer s H E hr hcm hcc => ?_
 have hu:=hr.units
 exact (@qL _ _ _ _ _ _ (@q9 _ _ _ _ _ 1 _ _ sc_law_odd.nd (@qg _ _ _ _ (@QD _ _ _ _ _ (@qr _ _ _ _ _ _ _ _ Wm (@qr _ _ _ _ _ _ _ _ wx (@qr _ _ _ _ _ _ _ _ qK (@qr _ _ _ _ _ _ _ _ Qp (@qr _ _ _ _ _ _ _ _ Qp (@yC _ _ _ _ _ _ _ _ (@Qn _ _ _ _ _ _ qF) (@qJG _ _ _ _ _ _ _ (@qg _ _ _ _ (@QD _ _ _ _ _ qF)) (@qLH _ _ _ _ _ _ _ _ qIP (@yC _ _ _ _ _ _ _ _ (@Qn _ _ _ _ _ _ (@qr _ _ _ _ _ _ _ _ qK (@qr _ _ _ _ _ _ _ _ qK qF))) (@yC _ _ _ _ _ _ _ _ (@Qn _ _ _ _ _ _ (@qr _ _ _ _ _ _ _ _ qK qF)) (@yC _ _ _ _ _ _ _ _ (@Qn _ _ _ _ _ _ (@qr _ _ _ _ _ _ _ _ qK (@qr _ _ _ _ _ _ _ _ qK (@qr _ _ _ _ _ _ _ _ qK qF)))) (@qKb _ _ _ _ _ _ _ _ (@Yj _ _ _ _ _ qK) (@yC _ _ _ _ _ _ _ _ (@Qn _ _ _ _ _ _ (@qr _ _ _ _ _ _ _ _ qK (@qr _ _ _ _ _ _ _ _ qK qF))) (@qJG _ _ _ _ _ _ _ (@qg _ _ _ _ (@QD _ _ _ _ _ (@yC _ _ _ _ _ _ _ _ (@Qn _ _ _ _ _ _ (@qr _ _ _ _ _ _ _ _ qK (@qr _ _ _ _ _ _ _ _ qK qF))) qF))) (@qr _ _ _ _ _ _ _ _ wx (@yC _ _ _ _ _ _ _ _ (@Qn _ _ _ _ _ _ (@yC _ _ _ _ _ _ _ _ (@Qn _ _ _ _ _ _ (@qr _ _ _ _ _ _ _ _ qK (@qr _ _ _ _ _ _ _ _ qK qF))) (@yC _ _ _ _ _ _ _ _ (@Qn _ _ _ _ _ _ (@qr _ _ _ _ _ _ _ _ qK (@qr _ _ _ _ _ _ _ _ qK qF))) qF))) qF)))))))))))))))))) (by rfl) (by first |exact Or.inl rfl |exact Or.inr rfl) (by rfl) (by first |exact .inl rfl |exact .inr rfl |assumption)) (@qP _ _ _ _ (@qa _ _ _ _ _ (@QC _ _ _ _ _ _ _ (qG 1) (@qS _ _ _ _ _ _ _ _ _ ((qh V).call (hr.mono (by omega)) qj) (@qO _ _ _ _ _ _ _ (qG 0) (@qr _ _ _ _ _ _ _ _ qK qF)) (by rfl) (by rfl)) (by exact fun _ _=>rfl)))))
theorem sc_law_kind:FnScope ["_law_e","_law_kinds","_law_words"] ["_law_e"] (qJ Wd):=scm
theorem qBS (V:Env K mg a):DefG P w K mg base 1 "_law_kind" a.law_kind 1 (WT a):=by
 refine qDr V.f_law_kind sc_law_kind V.m_law_kind fun cdv A outer s H E hr hcm hcc => ?_
 have hu:=hr.units
 exact (@qL _ _ _ _ _ _ (@q9 _ _ _ _ _ 1 _ _ sc_law_kind.nd (@qg _ _ _ _ (@QD _ _ _ _ _ (@wc _ _ _ _ _ _ _ _ _ (Qb V.kit V.n_isinstance (@qO _ _ _ _ _ _ _ (qG 0) (@qO _ _ _ _ _ _ _ (@ZD _ _ _ _ _ rfl V.k_Z1 (by decide)) qF))) (@wc _ _ _ _ _ _ _ _ _ (Qb V.kit V.n_isinstance (@qO _ _ _ _ _ _ _ (qG 0) (@qO _ _ _ _ _ _ _ (@ZD _ _ _ _ _ rfl V.k_Z2 (by decide)) qF))) (@wc _ _ _ _ _ _ _ _ _ (Qb V.kit V.n_isinstance (@qO _ _ _ _ _ _ _ (qG 0) (@qO _ _ _ _ _ _ _ (@ZD _ _ _ _ _ rfl V.k_Z3 (by decide)) qF))) (@wc _ _ _ _ _ _ _ _ _ (Qb V.kit V.n_isinstance (@qO _ _ _ _ _ _ _ (qG 0) (@qO _ _ _ _ _ _ _ (@ZD _ _ _ _ _ rfl V.k_Z4 (by decide)) qF))) qF)))))) (by rfl) (by first |exact Or.inl rfl |exact Or.inr rfl) (by rfl) (by first |exact .inl rfl |exact .inr rfl |assumption)) (@qL _ _ _ _ _ _ (@q9 _ _ _ _ _ 1 _ _ sc_law_kind.nd (@qg _ _ _ _ (@zQ _ _ _ _ _ _ _ (qG 1) (@qg _ _ _ _ (@QD _ _ _ _ _ (@wc _ _ _ _ _ _ _ _ _ (Qb V.kit V.n_isinstance (@qO _ _ _ _ _ _ _ (qG 0) (@qO _ _ _ _ _ _ _ (@ZD _ _ _ _ _ rfl V.k_Z5 (by decide)) qF))) (@wc _ _ _ _ _ _ _ _ _ (Qb V.kit V.n_isinstance (@qO _ _ _ _ _ _ _ (qG 0) (@qO _ _ _ _ _ _ _ (@ZD _ _ _ _ _ rfl V.k_Z6 (by decide)) qF))) (@wc _ _ _ _ _ _ _ _ _ (Qb V.kit V.n_isinstance (@qO _ _ _ _ _ _ _ (qG 0) (@qO _ _ _ _ _ _ _ (@ZD _ _ _ _ _ rfl V.k_Z7 (by decide)) qF))) (@wc _ _ _ _ _ _ _ _ _ (Qb V.kit V.n_isinstance (@qO _ _ _ _ _ _ _ (qG 0) (@qO _ _ _ _ _ _ _ (@ZD _ _ _ _ _ rfl V.k_Z8 (by decide)) qF))) qF)))))))) (by rfl) (by first |exact Or.inl rfl |exact Or.inr rfl) (by rfl) (by first |exact .inl rfl |exact .inr rfl |assumption)) (@qL _ _ _ _ _ _ (@q9 _ _ _ _ _ 1 _ _ sc_law_kind.nd (@qg _ _ _ _ (@zQ _ _ _ _ _ _ _ (qG 1) (@qg _ _ _ _ (@QD _ _ _ _ _ (@wc _ _ _ _ _ _ _ _ _ (Qb V.kit V.n_isinstance (@qO _ _ _ _ _ _ _ (qG 0) (@qO _ _ _ _ _ _ _ (@ZD _ _ _ _ _ rfl V.k_Z9 (by decide)) qF))) (@wc _ _ _ _ _ _ _ _ _ (Qb V.kit V.n_isinstance (@qO _ _ _ _ _ _ _ (qG 0) (@qO _ _ _ _ _ _ _ (@ZD _ _ _ _ _ rfl V.k_Z10 (by decide)) qF))) (@wc _ _ _ _ _ _ _ _ _ (Qb V.kit V.n_isinstance (@qO _ _ _ _ _ _ _ (qG 0) (@qO _ _ _ _ _ _ _ (@ZD _ _ _ _ _ rfl V.k_Z11 (by decide)) qF))) qF))))))) (by rfl) (by first |exact Or.inl rfl |exact Or.inr rfl) (by rfl) (by first |exact .inl rfl |exact .inr rfl |assumption)) (@qL _ _ _ _ _ _ (@Q1 _ _ _ _ _ _ _ _ _ (@Jq _ _ _ _ (@yn _ _ _ _ _ _ _ _ (@Wc _ _ _ _ _ (@wn _ _ _ _ (Qb V.kit V.n_isinstance (@qO _ _ _ _ _ _ _ (qG 0) (@qO _ _ _ _ _ _ _ (@Wi _ _ _ _ _ rfl V.n_ValueError Boot.«ValueError» (by decide) (by decide)) qF))) (by intro _;rfl))) (@Zk _ _ _ _ _ (@QP _ _ _ _ _ _ _ _ _ _ (Wb hu) ze (@Zp _ _ _ _ _ _ _ (@Zw _ _ _ _ _ _ _ _ _ (@qg _ _ _ _ (@QN _ _ _ _ _ _ _ ([]) (["_law_kind_here"]) ([]) _ _ _ _ _ (by exact QW rfl (by decide +kernel) rfl rfl trivial) (@wE _ _ _ _ _ (qG 1)) (fun s' H' fp pn=>⟨(@qGJ _ _ _ _ _ _ _ (@qO _ _ _ _ _ _ _ (qG 0) qF) V.n_int (by rfl) (by rfl) (by rfl)),⟨(@QL _ _ 0 _ (show (["_law_kind_here"]:List Str).Nodup by decide +kernel) (by rfl) (by first |exact Or.inl rfl |exact Or.inr rfl) (by first |exact .inl rfl |exact .inr rfl |assumption)),(qY 0),TsOk.nil,rfl⟩,GsOk.nil⟩) (by intro _;rfl))) qF) V.n_sum (by rfl) (by rfl) (by rfl)) qK (by first |exact qBt _ |with_unfolding_all rfl))))) (@qP _ _ _ _ (@qa _ _ _ _ _ Qp)) QB) (@qL _ _ _ _ _ _ (@q9 _ _ _ _ _ 2 _ _ sc_law_kind.nd (@qg _ _ _ _ (@QD _ _ _ _ _ (@qr _ _ _ _ _ _ _ _ Qp (@qr _ _ _ _ _ _ _ _ Qp (@qr _ _ _ _ _ _ _ _ Qp (@qr _ _ _ _ _ _ _ _ Qp (@qr _ _ _ _ _ _ _ _ Qp (@qr _ _ _ _ _ _ _ _ Qp (@qr _ _ _ _ _ _ _ _ Qp (@qr _ _ _ _ _ _ _ _ Qp (@qr _ _ _ _ _ _ _ _ Qp (@qr _ _ _ _ _ _ _ _ Qp (@qr _ _ _ _ _ _ _ _ Qp qF))))))))))))) (by rfl) (by first |exact Or.inl rfl |exact Or.inr rfl) (by rfl) (by first |exact .inl rfl |exact .inr rfl |assumption)) (@qP _ _ _ _ (@qa _ _ _ _ _ (@qHe _ _ _ _ _ _ _ Qp (@QC _ _ _ _ _ _ _ (qG 2) (@qEK _ _ _ _ _ _ _ _ hu (qG 1) wx (by rfl) (by rfl) (by rfl) (by rfl) (by rfl)) (by exact fun _ _=>rfl))))))))))
theorem qAK:FnScope ["_law_found","_law_due"] ["_law_found","_law_due"] (qJ WX):=scm
theorem yt (V:Env K mg a):∀ n,DefG P w K mg base (n + 1) "_law_same" a.law_same 2 (qu n a)
 |0=>by
  obtain ⟨fd,F⟩:=V.f_law_same
  exact qJF F (F.binds (ps:=["_law_found","_law_due"]) fun _ _ _ _ _ _ us hl=>match us,hl with |[_,_],_=>rfl) V.m_law_same fun _ _=>rfl
 |n + 1=>by
  have DR:=yt V n
  refine Zq V.f_law_same qAK V.m_law_same fun cdv A outer s H E hr hcm hcc => ?_
  have hu:=hr.units
  have hc:=hcc (by omega)
  exact (qL (Q1 (wn (Qb V.kit V.n_isinstance (@qO _ _ _ _ _ _ _ (qG 1) (@yC _ _ _ _ _ _ _ _ (Qn (@qO _ _ _ _ _ _ _ (Wi rfl V.n_tuple Boot.«tuple») (@qO _ _ _ _ _ _ _ (Wi rfl V.n_list Boot.«list») qF))) qF)))) (qL (Q1 (Jq (yn (QP (Wb hu) ze (Qb V.kit V.n_isinstance (@qO _ _ _ _ _ _ _ (qG 0) (@qO _ _ _ _ _ _ _ (Wi rfl V.n_tuple Boot.«tuple») qF))) (Qb V.kit V.n_isinstance (@qO _ _ _ _ _ _ _ (qG 1) (@qO _ _ _ _ _ _ _ (Wi rfl V.n_tuple Boot.«tuple») qF)))) (Zk (QP (Wb hu) ze (Qb V.kit V.n_isinstance (@qO _ _ _ _ _ _ _ (qG 0) (@qO _ _ _ _ _ _ _ (Wi rfl V.n_list Boot.«list») qF))) (Qb V.kit V.n_isinstance (@qO _ _ _ _ _ _ _ (qG 1) (@qO _ _ _ _ _ _ _ (Wi rfl V.n_list Boot.«list») qF))))))) (qP (qa wx)) QB) (qP (qa (Zv (jf hu (wF (@qO _ _ _ _ _ _ _ (qG 0) qF) V.n_len) (wF (@qO _ _ _ _ _ _ _ (qG 1) qF) V.n_len)) (ym (yT (@Zw _ _ _ _ _ _ _ _ _ (qg (QN (capN:=([])) (locN:=(["_law_one","_law_other"])) (caps:=([])) (by exact QW rfl (by decide +kernel) rfl rfl trivial) (qF6 hc V.n_zip (@qO _ _ _ _ _ _ _ (qG 0) (@qO _ _ _ _ _ _ _ (qG 1) qF))) (fun s' H' fp pn=>⟨(qS (DR.call (hr.mono (by omega)) (qm _)) (@qO _ _ _ _ _ _ _ (qG 0) (@qO _ _ _ _ _ _ _ (qG 1) qF))),⟨(Zm hc (Qs (QL 0 (show (["_law_one","_law_other"]:List Str).Nodup by decide +kernel)) (Qs (QL 1 (show (["_law_one","_law_other"]:List Str).Nodup by decide +kernel)) zl))),(yP (WV (qY 0) (WV (qY 1) yi))),TsOk.nil,rfl⟩,GsOk.nil⟩))) qF) V.n_all)))))) QB) (qP (qa (Zv (jf hu (qG 0) (qG 1)) (ym (jf hu (Qb V.kit V.n_isinstance (@qO _ _ _ _ _ _ _ (qG 0) (@qO _ _ _ _ _ _ _ (Wi rfl V.n_bool Boot.«bool») qF))) (Qb V.kit V.n_isinstance (@qO _ _ _ _ _ _ _ (qG 1) (@qO _ _ _ _ _ _ _ (Wi rfl V.n_bool Boot.«bool») qF)))))))))
theorem Zo (V:Env K mg a):DefG P w K mg base 4 "_law_same" a.law_same 2 (qu 3 a):=yt V 3
theorem yX:FnScope ["_law_box_here"] ["_law_box_here"] (qJ Qz):=scm
theorem YC (V:Env K mg a):DefG P w K mg base 3 "_law_no_length" a.law_no_length 1 (wk a):=by
 refine qDr V.f_law_no_length yX V.m_law_no_length fun cdv A outer s H E hr hcm hcc => ?_
 have hu:=hr.units
 exact (qP (qa (QC (qg (QD (@qr _ _ _ _ _ _ _ _ qK (@qr _ _ _ _ _ _ _ _ qK (@qr _ _ _ _ _ _ _ _ qK (@qKb _ _ _ _ _ _ _ _ (Yj qK) (@qr _ _ _ _ _ _ _ _ wx (@qr _ _ _ _ _ _ _ _ Wm (@qr _ _ _ _ _ _ _ _ Qp (@yC _ _ _ _ _ _ _ _ (Qn (@qr _ _ _ _ _ _ _ _ qK qF)) (@qJG _ _ _ _ _ _ _ (qg (QD (@qr _ _ _ _ _ _ _ _ qK qF))) (@zX _ _ _ _ _ _ _ _ _ (qBq qK qK) qF)))))))))))) (qS ((qh V).call (hr.mono (by omega)) qj) (@qO _ _ _ _ _ _ _ (qG 0) (@qr _ _ _ _ _ _ _ _ qK qF))))))
theorem sc_law_cover:FnScope ["_law_bar","_law_length","_law_row","_law_column","_law_way"] ["_law_bar","_law_length"] (qJ wt):=scm
theorem qAJ (V:Env K mg a):DefG P w K mg base 2 "_law_cover" a.law_cover 2 (ZP a):=by
 refine Zq V.f_law_cover sc_law_cover V.m_law_cover fun cdv A outer s H E hr hcm hcc => ?_
 have hu:=hr.units
 have hc:=hcc (by omega)
 exact (qL (qBv (qG 0) (Zm hc (Qs (QV 2 sc_law_cover.nd) (Qs (QV 3 sc_law_cover.nd) (Qs (QV 4 sc_law_cover.nd) zl))))) (qL (Q1 (QP (zB hu) ZO (qG 4) qK) (qP (qa (qg (QN (capN:=(["_law_row","_law_column"])) (locN:=(["_law_k"])) (caps:=([2,3])) (by exact QW rfl (by decide +kernel) rfl rfl ⟨⟨rfl,rfl⟩,⟨⟨rfl,rfl⟩,trivial⟩⟩) (qq rfl V.n_range (@qO _ _ _ _ _ _ _ (qG 1) qF)) (fun s' H' fp pn=>⟨(Qn (@qO _ _ _ _ _ _ _ (qG 0) (@zX _ _ _ _ _ _ _ _ _ (Qc (qG 1) (qG 2)) qF))),⟨(QL 2 (show (["_law_row","_law_column","_law_k"]:List Str).Nodup by decide +kernel)),(qY 2),TsOk.nil,rfl⟩,GsOk.nil⟩))))) QB) (qP (qa (qg (QN (capN:=(["_law_column","_law_row"])) (locN:=(["_law_k"])) (caps:=([3,2])) (by exact QW rfl (by decide +kernel) rfl rfl ⟨⟨rfl,rfl⟩,⟨⟨rfl,rfl⟩,trivial⟩⟩) (qq rfl V.n_range (@qO _ _ _ _ _ _ _ (qG 1) qF)) (fun s' H' fp pn=>⟨(Qn (@zX _ _ _ _ _ _ _ _ _ (Qc (qG 1) (qG 2)) (@qO _ _ _ _ _ _ _ (qG 0) qF))),⟨(QL 2 (show (["_law_column","_law_row","_law_k"]:List Str).Nodup by decide +kernel)),(qY 2),TsOk.nil,rfl⟩,GsOk.nil⟩)))))))
theorem sc_law_put:FnScope ["_law_box_here","_law_length","_law_found","_law_turn","_law_way","_law_row","_law_column","_law_places"] ["_law_box_here","_law_length"] (qJ Wv):=scm
theorem qDK (V:Env K mg a):DefG P w K mg base 3 "_law_put" a.law_put 2 (ya a):=by
 refine Zq V.f_law_put sc_law_put V.m_law_put fun cdv A outer s H E hr hcm hcc => ?_
 have hu:=hr.units
 have hc:=hcc (by omega)
 exact (qL (yN 2 sc_law_put.nd (QD qF)) (qL (WD (qq rfl V.n_range (@zX _ _ _ _ _ _ _ _ _ (Qc qK (qS ((qh V).call (hr.mono (by omega)) qj) (@qO _ _ _ _ _ _ _ (qG 0) (@qr _ _ _ _ _ _ _ _ qK qF)))) qF)) (QV 3 sc_law_put.nd) (qL (q9 4 sc_law_put.nd (qS ((qh V).call (hr.mono (by omega)) (qm _)) (@qO _ _ _ _ _ _ _ (qG 0) (@qr _ _ _ _ _ _ _ _ qK qF)))) (qL (qFM 5 6 hc sc_law_put.nd (@wc _ _ _ _ _ _ _ _ _ (qS ((qh V).call (hr.mono (by omega)) (qm _)) (@qO _ _ _ _ _ _ _ (qG 0) (@zX _ _ _ _ _ _ _ _ _ (Zs qK (QC (qg (QD (@qr _ _ _ _ _ _ _ _ qK (@qO _ _ _ _ _ _ _ (qG 1) qF)))) (qG 4))) qF))) (@wc _ _ _ _ _ _ _ _ _ (qS ((qh V).call (hr.mono (by omega)) (qm _)) (@qO _ _ _ _ _ _ _ (qG 0) (@zX _ _ _ _ _ _ _ _ _ (Zs qK (QC (qg (QD (@qO _ _ _ _ _ _ _ (qG 1) (@qr _ _ _ _ _ _ _ _ qK qF)))) (qG 4))) qF))) qF))) (qL (q9 7 sc_law_put.nd (qS ((qAJ V).call (hr.mono (by omega)) (qm _)) (@yC _ _ _ _ _ _ _ _ (Qn (@qO _ _ _ _ _ _ _ (qG 5) (@qO _ _ _ _ _ _ _ (qG 6) (@qO _ _ _ _ _ _ _ (qG 4) qF)))) (@qO _ _ _ _ _ _ _ (qG 1) qF)))) (qP (Q1 (Jq (qFe (QP (zB hu) ZO (qg (QN (capN:=(["_law_found"])) (locN:=(["_law_place"])) (caps:=([2])) (by exact QW rfl (by decide +kernel) rfl rfl ⟨⟨rfl,rfl⟩,trivial⟩) (wE (qG 7)) (fun s' H' fp pn=>⟨(qG 1),⟨(QL 1 (show (["_law_found","_law_place"]:List Str).Nodup by decide +kernel)),(qY 1),(TsOk.cons (QP (qIo hu) qKN (qG 1) (qG 0)) TsOk.nil),rfl⟩,GsOk.nil⟩))) (qg (QD qF))) (qCu (QP Jy qBC (Qc (wF (@qO _ _ _ _ _ _ _ (qG 2) qF) V.n_len) (qG 1)) qK)))) (qP (yN 2 sc_law_put.nd (zQ (qG 2) (qG 7)))) QB)))))) (qP (qa (qG 2)))))
theorem sc_law_floor:FnScope ["_law_box_here","_law_length","_law_way","_law_high","_law_wide","_law_found","_law_row"] ["_law_box_here","_law_length"] (qJ WA):=scm
theorem qA3 (V:Env K mg a):DefG P w K mg base 4 "_law_floor" a.law_floor 2 (zG a):=by
 refine Zq V.f_law_floor sc_law_floor V.m_law_floor fun cdv A outer s H E hr hcm hcc => ?_
 have hu:=hr.units
 have hc:=hcc (by omega)
 exact (qL (q9 2 sc_law_floor.nd (qS ((qh V).call (hr.mono (by omega)) qj) (@qO _ _ _ _ _ _ _ (qG 0) (@qr _ _ _ _ _ _ _ _ qK qF)))) (qL (qFM 3 4 hc sc_law_floor.nd (@zX _ _ _ _ _ _ _ _ _ (Qc qK (qS ((qh V).call (hr.mono (by omega)) qj) (@qO _ _ _ _ _ _ _ (qG 0) (@qr _ _ _ _ _ _ _ _ qK qF)))) (@zX _ _ _ _ _ _ _ _ _ (Qc qK (qS ((qh V).call (hr.mono (by omega)) qj) (@qO _ _ _ _ _ _ _ (qG 0) (@qr _ _ _ _ _ _ _ _ qK qF)))) qF))) (qL (Q1 (QP qJw qKO (qG 2) qK) (qL (q9 5 sc_law_floor.nd (qS ((qDK V).call (hr.mono (by omega)) qj) (@qO _ _ _ _ _ _ _ (qG 0) (@qO _ _ _ _ _ _ _ (qG 1) qF)))) (qL (Q1 (QP (zB hu) ZO (qG 2) qK) (qL (Jl (qEC (qG 5) (qS ((qh V).call (hr.mono (by omega)) qj) (@qO _ _ _ _ _ _ _ (qG 0) (@wc _ _ _ _ _ _ _ _ _ (wF (@qO _ _ _ _ _ _ _ (qG 5) qF) V.n_len) qF))))) (qP (q9 5 sc_law_floor.nd (qg (zQ (qG 5) (qg (QN (capN:=(["_law_box_here"])) (locN:=(["_law_turn"])) (caps:=([0])) (by exact QW rfl (by decide +kernel) rfl rfl ⟨⟨rfl,rfl⟩,trivial⟩) (qq rfl V.n_range (@wc _ _ _ _ _ _ _ _ _ (qS ((qh V).call (hr.mono (by omega)) qj) (@qO _ _ _ _ _ _ _ (qG 0) (@qr _ _ _ _ _ _ _ _ qK qF))) qF)) (fun s' H' fp pn=>⟨(Qn (@wc _ _ _ _ _ _ _ _ _ (qS ((qh V).call (hr.mono (by omega)) (qm _)) (@qO _ _ _ _ _ _ _ (qG 0) (@qr _ _ _ _ _ _ _ _ qK qF))) (@wc _ _ _ _ _ _ _ _ _ (qS ((qh V).call (hr.mono (by omega)) (qm _)) (@qO _ _ _ _ _ _ _ (qG 0) (@qr _ _ _ _ _ _ _ _ qK qF))) qF))),⟨(QL 1 (show (["_law_box_here","_law_turn"]:List Str).Nodup by decide +kernel)),(qY 1),TsOk.nil,rfl⟩,GsOk.nil⟩)))))))) QB) (qP (qa (Wx (@wc _ _ _ _ _ _ _ _ _ (qE3 hc hu V.n_sorted V.n_set (qG 5)) qF) V.n_tuple))))) QB) (qL (q9 5 sc_law_floor.nd (qg (QD qF))) (qL (WD (qq rfl V.n_range (@qO _ _ _ _ _ _ _ (qG 3) qF)) (QV 6 sc_law_floor.nd) (qP (q9 5 sc_law_floor.nd (qg (zQ (qG 5) (qg (QN (capN:=(["_law_row","_law_way","_law_box_here"])) (locN:=(["_law_column"])) (caps:=([6,2,0])) (by exact QW rfl (by decide +kernel) rfl rfl ⟨⟨rfl,rfl⟩,⟨⟨rfl,rfl⟩,⟨⟨rfl,rfl⟩,trivial⟩⟩⟩) (qq rfl V.n_range (@qO _ _ _ _ _ _ _ (qG 4) qF)) (fun s' H' fp pn=>⟨(Qn (@qO _ _ _ _ _ _ _ (qG 0) (@qO _ _ _ _ _ _ _ (qG 3) qF))),⟨(QL 3 (show (["_law_row","_law_way","_law_box_here","_law_column"]:List Str).Nodup by decide +kernel)),(qY 3),(TsOk.cons (Jq (yn (QP (zB hu) ZO (qG 1) qK) (Zk (QP (Wb hu) ze (qS ((qh V).call (hr.mono (by omega)) (qm _)) (@qO _ _ _ _ _ _ _ (qG 2) (@qDx _ _ _ _ _ _ _ _ (QC (qg (QD (@qr _ _ _ _ _ _ _ _ qK (@qr _ _ _ _ _ _ _ _ qK (@qr _ _ _ _ _ _ _ _ qK qF))))) (qG 1)) qF))) qK)))) TsOk.nil),rfl⟩,GsOk.nil⟩)))))))) (qP (qa (Wx (@qKs _ _ _ _ _ _ _ _ _ (qHt (QP qHx qH4 (qG 2) qK) (qEn (qG 5) wR (wl qK)) (qEn (qG 5) wR (wl (qS ((qh V).call (hr.mono (by omega)) qj) (@qO _ _ _ _ _ _ _ (qG 0) (@qr _ _ _ _ _ _ _ _ qK qF)))))) qF) V.n_tuple))))))))
theorem sc_law_rests:FnScope ["_law_floor_here","_law_length","_law_found","_law_one","_law_row","_law_other"] ["_law_floor_here","_law_length"] (qJ w9):=scm
theorem qAx (V:Env K mg a):DefG P w K mg base 2 "_law_rests" a.law_rests 2 (Wh a):=by
 refine Zq V.f_law_rests sc_law_rests V.m_law_rests fun cdv A outer s H E hr hcm hcc => ?_
 have hu:=hr.units
 exact (qL (yN 2 sc_law_rests.nd (QD qF)) (qL (WD (qq rfl V.n_range (@qO _ _ _ _ _ _ _ (qG 1) qF)) (QV 3 sc_law_rests.nd) (qL (yN 4 sc_law_rests.nd (QD qF)) (qL (WD (qq rfl V.n_range (@qO _ _ _ _ _ _ _ (qG 1) qF)) (QV 5 sc_law_rests.nd) (qP (ZQ (qG 4) (wF (@Zw _ _ _ _ _ _ _ _ _ (qg (QN (capN:=(["_law_one","_law_other","_law_length"])) (locN:=(["_law_cell_here"])) (caps:=([3,5,1])) (by exact QW rfl (by decide +kernel) rfl rfl ⟨⟨rfl,rfl⟩,⟨⟨rfl,rfl⟩,⟨⟨rfl,rfl⟩,trivial⟩⟩⟩) (wE (qG 0)) (fun s' H' fp pn=>⟨(qG 3),⟨(QL 3 (show (["_law_one","_law_other","_law_length","_law_cell_here"]:List Str).Nodup by decide +kernel)),(qY 3),(TsOk.cons (Jq (qFe (QP (zB hu) ZO (Wn (QC (qG 3) qK) (qG 2)) (qG 0)) (qCu (QP (zB hu) ZO (Wn (QC (qG 3) qK) (qG 2)) (qG 1))))) TsOk.nil),rfl⟩,GsOk.nil⟩))) qF) V.n_len)))) (qP (ZQ (qG 2) (qG 4)))))) (qP (qa (qG 2)))))
theorem sc_law_apart:FnScope ["_law_table","_law_one","_law_other","_law_more"] ["_law_table"] (qJ wo):=scm
theorem qAV (V:Env K mg a):DefG P w K mg base 2 "_law_apart" a.law_apart 1 (w4 a):=by
 refine qDr V.f_law_apart sc_law_apart V.m_law_apart fun cdv A outer s H E hr hcm hcc => ?_
 have hu:=hr.units
 exact (qL (WD (qq rfl V.n_range (@wc _ _ _ _ _ _ _ _ _ (wF (@qO _ _ _ _ _ _ _ (qG 0) qF) V.n_len) qF)) (QV 1 sc_law_apart.nd) (qP (WD (qq rfl V.n_range (@wc _ _ _ _ _ _ _ _ _ (wF (@qO _ _ _ _ _ _ _ (qG 0) qF) V.n_len) qF)) (QV 2 sc_law_apart.nd) (qL (q9 3 sc_law_apart.nd (Qc (QC (QC (qG 0) (qG 1)) (qG 2)) (QC (QC (qG 0) qK) qK))) (qP (Q1 (QP (Wb hu) ze (qG 3) (Qc (QC (QC (qG 0) (qG 1)) qK) (QC (QC (qG 0) qK) (qG 2)))) (qP (qa (Qn (@qO _ _ _ _ _ _ _ (qG 1) (@qO _ _ _ _ _ _ _ (qG 2) qF))))) QB)))))) (qP (qa Wm)))
theorem sc_law_are_weights:FnScope ["_law_length","_law_thing","_law_row"] ["_law_length","_law_thing"] (qJ Qj):=scm
theorem zL (V:Env K mg a):DefG P w K mg base 3 "_law_are_weights" a.law_are_weights 2 (Q0 a):=by
 refine Zq V.f_law_are_weights sc_law_are_weights V.m_law_are_weights fun cdv A outer s H E hr hcm hcc => ?_
 have hu:=hr.units
 exact (qL (Q1 (Jq (yn (Wc (wn (Qb V.kit V.n_isinstance (@qO _ _ _ _ _ _ _ (qG 1) (@qO _ _ _ _ _ _ _ (Wi rfl V.n_tuple Boot.«tuple») qF))))) (Zk (QP (Wb hu) ze (wF (@qO _ _ _ _ _ _ _ (qG 1) qF) V.n_len) (qG 0))))) (qP (qa wx)) QB) (qL (WD (wE (qG 1)) (QV 2 sc_law_are_weights.nd) (qP (Q1 (Jq (yn (Wc (wn (Qb V.kit V.n_isinstance (@qO _ _ _ _ _ _ _ (qG 2) (@qO _ _ _ _ _ _ _ (Wi rfl V.n_tuple Boot.«tuple») qF))))) (yn (QP (Wb hu) ze (wF (@qO _ _ _ _ _ _ _ (qG 2) qF) V.n_len) (qG 0)) (Zk (Wc (wn (yT (@Zw _ _ _ _ _ _ _ _ _ (qg (QN (capN:=([])) (locN:=(["_law_one"])) (caps:=([])) (by exact QW rfl (by decide +kernel) rfl rfl trivial) (wE (qG 2)) (fun s' H' fp pn=>⟨(qS ((qAy V).call (hr.mono (by omega)) (qm _)) (@qO _ _ _ _ _ _ _ (qG 0) qF)),⟨(QL 0 (show (["_law_one"]:List Str).Nodup by decide +kernel)),(qY 0),TsOk.nil,rfl⟩,GsOk.nil⟩))) qF) V.n_all))))))) (qP (qa wx)) QB))) (qL (Q1 (QP (Wb hu) ze (qg (QN (capN:=([])) (locN:=(["_law_row"])) (caps:=([])) (by exact QW rfl (by decide +kernel) rfl rfl trivial) (wE (qG 1)) (fun s' H' fp pn=>⟨(qG 0),⟨(QL 0 (show (["_law_row"]:List Str).Nodup by decide +kernel)),(qY 0),(TsOk.cons (QP (Wb hu) ze (qCR (@qO _ _ _ _ _ _ _ (qG 0) qF) V.n_sum) qK) TsOk.nil),rfl⟩,GsOk.nil⟩))) (qg (QD qF))) (qP (qa wx)) QB) (qP (qa (jf hu (qg (QN (capN:=(["_law_thing"])) (locN:=(["_law_at"])) (caps:=([1])) (by exact QW rfl (by decide +kernel) rfl rfl ⟨⟨rfl,rfl⟩,trivial⟩) (qq rfl V.n_range (@qO _ _ _ _ _ _ _ (qG 0) qF)) (fun s' H' fp pn=>⟨(qG 1),⟨(QL 1 (show (["_law_thing","_law_at"]:List Str).Nodup by decide +kernel)),(qY 1),(TsOk.cons (QP (Wb hu) ze (Zp (@Zw _ _ _ _ _ _ _ _ _ (qg (QN (capN:=(["_law_at"])) (locN:=(["_law_row"])) (caps:=([1])) (by exact QW rfl (by decide +kernel) rfl rfl ⟨⟨rfl,rfl⟩,trivial⟩) (wE (qG 0)) (fun s' H' fp pn=>⟨(QC (qG 1) (qG 0)),⟨(QL 1 (show (["_law_at","_law_row"]:List Str).Nodup by decide +kernel)),(qY 1),TsOk.nil,rfl⟩,GsOk.nil⟩))) qF) V.n_sum) qK) TsOk.nil),rfl⟩,GsOk.nil⟩))) (qg (QD qF))))))))
theorem jJ:FnScope ["_law_floor_here","_law_length","_law_weights_here"] ["_law_floor_here","_law_length","_law_weights_here"] (qJ wX):=scm
theorem yO (V:Env K mg a):DefG P w K mg base 2 "_law_weight" a.law_weight 3 (WK a):=by
 refine qGD V.f_law_weight jJ V.m_law_weight fun cdv A outer s H E hr hcm hcc => ?_
 have hu:=hr.units
 have hc:=hcc (by omega)
 exact (qP (qa (Zp (@Zw _ _ _ _ _ _ _ _ _ (qg (QN (capN:=(["_law_weights_here","_law_length"])) (locN:=(["_law_row","_law_column"])) (caps:=([2,1])) (by exact QW rfl (by decide +kernel) rfl rfl ⟨⟨rfl,rfl⟩,⟨⟨rfl,rfl⟩,trivial⟩⟩) (wE (qG 0)) (fun s' H' fp pn=>⟨(QC (QC (qG 0) (Wn (qG 2) (qG 1))) (Wn (qG 3) (qG 1))),⟨(Zm hc (Qs (QL 2 (show (["_law_weights_here","_law_length","_law_row","_law_column"]:List Str).Nodup by decide +kernel)) (Qs (QL 3 (show (["_law_weights_here","_law_length","_law_row","_law_column"]:List Str).Nodup by decide +kernel)) zl))),(yP (WV (qY 2) (WV (qY 3) yi))),TsOk.nil,rfl⟩,GsOk.nil⟩))) qF) V.n_sum)))
theorem sc_law_weights:FnScope ["_law_box_here","_law_length","_law_most","_law_rows","_law_row","_law_some"] ["_law_box_here","_law_length"] (qJ wN):=scm
theorem jD (V:Env K mg a):DefG P w K mg base 3 "_law_weights" a.law_weights 2 (zS a):=by
 refine Zq V.f_law_weights sc_law_weights V.m_law_weights fun cdv A outer s H E hr hcm hcc => ?_
 have hu:=hr.units
 exact (qL (q9 2 sc_law_weights.nd (QC (qg (QD (@qr _ _ _ _ _ _ _ _ qK (@qr _ _ _ _ _ _ _ _ qK (@zX _ _ _ _ _ _ _ _ _ (qBq qK qK) qF))))) (qS ((qh V).call (hr.mono (by omega)) qj) (@qO _ _ _ _ _ _ _ (qG 0) (@qr _ _ _ _ _ _ _ _ qK qF))))) (qL (yN 3 sc_law_weights.nd (QD qF)) (qL (WD (qq rfl V.n_range (@zX _ _ _ _ _ _ _ _ _ (Zs (qG 1) qK) qF)) (QV 4 sc_law_weights.nd) (qL (qCO (capN:=(["_law_most","_law_box_here"])) (locN:=(["_law_column"])) (caps:=([2,0])) 5 sc_law_weights.nd (by exact QW rfl (by decide +kernel) rfl rfl ⟨⟨rfl,rfl⟩,⟨⟨rfl,rfl⟩,trivial⟩⟩) (qq rfl V.n_range (@zX _ _ _ _ _ _ _ _ _ (Zs (qG 1) qK) qF)) (fun s' H' fp pn=>⟨(Zs (qS ((qh V).call (hr.mono (by omega)) (qm _)) (@qO _ _ _ _ _ _ _ (qG 1) (@zX _ _ _ _ _ _ _ _ _ (Qc (Zn qK (qG 0)) qK) qF))) (qG 0)),⟨(QL 2 (show (["_law_most","_law_box_here","_law_column"]:List Str).Nodup by decide +kernel)),(qY 2),TsOk.nil,rfl⟩,GsOk.nil⟩)) (qP (ZQ (qG 3) (qg (zQ (qG 5) (qg (QD (@zX _ _ _ _ _ _ _ _ _ (Zs qK (Zp (@qO _ _ _ _ _ _ _ (qG 5) qF) V.n_sum)) qF))))))))) (qL (ZQ (qG 3) (qg (QN (capN:=(["_law_rows"])) (locN:=(["_law_at"])) (caps:=([3])) (by exact QW rfl (by decide +kernel) rfl rfl ⟨⟨rfl,rfl⟩,trivial⟩) (qq rfl V.n_range (@qO _ _ _ _ _ _ _ (qG 1) qF)) (fun s' H' fp pn=>⟨(Zs qK (Zp (@Zw _ _ _ _ _ _ _ _ _ (qg (QN (capN:=(["_law_at"])) (locN:=(["_law_row"])) (caps:=([1])) (by exact QW rfl (by decide +kernel) rfl rfl ⟨⟨rfl,rfl⟩,trivial⟩) (wE (qG 0)) (fun s' H' fp pn=>⟨(QC (qG 1) (qG 0)),⟨(QL 1 (show (["_law_at","_law_row"]:List Str).Nodup by decide +kernel)),(qY 1),TsOk.nil,rfl⟩,GsOk.nil⟩))) qF) V.n_sum)),⟨(QL 1 (show (["_law_rows","_law_at"]:List Str).Nodup by decide +kernel)),(qY 1),TsOk.nil,rfl⟩,GsOk.nil⟩)))) (qP (qa (Wx (@Zw _ _ _ _ _ _ _ _ _ (qg (QN (capN:=([])) (locN:=(["_law_row"])) (caps:=([])) (by exact QW rfl (by decide +kernel) rfl rfl trivial) (wE (qG 3)) (fun s' H' fp pn=>⟨(Wx (@qO _ _ _ _ _ _ _ (qG 0) qF) V.n_tuple),⟨(QL 0 (show (["_law_row"]:List Str).Nodup by decide +kernel)),(qY 0),TsOk.nil,rfl⟩,GsOk.nil⟩))) qF) V.n_tuple)))))))
theorem sc_law_bent:FnScope ["_law_box_here","_law_weights_here","_law_at","_law_spot","_law_row","_law_odd_here","_law_new","_law_some"] ["_law_box_here","_law_weights_here"] (qJ WZ):=scm
theorem qBT (V:Env K mg a):DefG P w K mg base 4 "_law_bent" a.law_bent 2 (W7 a):=by
 refine Zq V.f_law_bent sc_law_bent V.m_law_bent fun cdv A outer s H E hr hcm hcc => ?_
 have hu:=hr.units
 have hc:=hcc (by omega)
 exact (qL (qBv (Qn (@wc _ _ _ _ _ _ _ _ _ (qS ((qh V).call (hr.mono (by omega)) qj) (@qO _ _ _ _ _ _ _ (qG 0) (@wc _ _ _ _ _ _ _ _ _ (wF (@qO _ _ _ _ _ _ _ (qG 1) qF) V.n_len) qF))) (@wc _ _ _ _ _ _ _ _ _ (qS ((qh V).call (hr.mono (by omega)) qj) (@qO _ _ _ _ _ _ _ (qG 0) (@wc _ _ _ _ _ _ _ _ _ (wF (@qO _ _ _ _ _ _ _ (qG 1) qF) V.n_len) qF))) qF))) (Zm hc (Qs (QV 2 sc_law_bent.nd) (Qs (QV 3 sc_law_bent.nd) zl)))) (qL (q9 4 sc_law_bent.nd (QC (qG 1) (qG 2))) (qL (q9 5 sc_law_bent.nd (QC (qg (QD (@zX _ _ _ _ _ _ _ _ _ (Qc (QC (qG 4) (qG 3)) qK) (@qr _ _ _ _ _ _ _ _ wx (@qr _ _ _ _ _ _ _ _ Wm (@qr _ _ _ _ _ _ _ _ Qp (@yC _ _ _ _ _ _ _ _ (Qn (@qr _ _ _ _ _ _ _ _ qK qF)) (@qr _ _ _ _ _ _ _ _ wx (@zX _ _ _ _ _ _ _ _ _ (qBq qK qK) (@qr _ _ _ _ _ _ _ _ qK (@qDx _ _ _ _ _ _ _ _ (QC (qG 4) qK) qF))))))))))) (qS ((qh V).call (hr.mono (by omega)) qj) (@qO _ _ _ _ _ _ _ (qG 0) (@qr _ _ _ _ _ _ _ _ qK qF))))) (qL (q9 6 sc_law_bent.nd (qg (QD (@zX _ _ _ _ _ _ _ _ _ (zF (zF (ZM (qG 4) wR (wl (qG 3))) (Qn (@qO _ _ _ _ _ _ _ (qG 5) qF))) (ZM (qG 4) (wl (Qc (qG 3) qK)) wR)) (@zX _ _ _ _ _ _ _ _ _ (zF (qG 4) (Qn (@qr _ _ _ _ _ _ _ _ qK qF))) (@qDx _ _ _ _ _ _ _ _ (ZM (qG 4) (wl qK) wR) (@wc _ _ _ _ _ _ _ _ _ (qg (qAP V.n_list (qG 4))) (@qDx _ _ _ _ _ _ _ _ (qCZ (qG 4) wR wR (wl (Yj qK))) (@qO _ _ _ _ _ _ _ (qG 5) qF))))))))) (qL (qCO (capN:=(["_law_weights_here","_law_at"])) (locN:=(["_law_one"])) (caps:=([1,2])) 7 sc_law_bent.nd (by exact QW rfl (by decide +kernel) rfl rfl ⟨⟨rfl,rfl⟩,⟨⟨rfl,rfl⟩,trivial⟩⟩) (wE (qG 6)) (fun s' H' fp pn=>⟨(zF (zF (ZM (qG 0) wR (wl (qG 1))) (Qn (@qO _ _ _ _ _ _ _ (qG 2) qF))) (ZM (qG 0) (wl (Qc (qG 1) qK)) wR)),⟨(QL 2 (show (["_law_weights_here","_law_at","_law_one"]:List Str).Nodup by decide +kernel)),(qY 2),TsOk.nil,rfl⟩,GsOk.nil⟩)) (qL (q9 7 sc_law_bent.nd (qg (zQ (qG 7) (qg (QD (@zX _ _ _ _ _ _ _ _ _ (zF (ZM (qG 1) wR (wl (qG 2))) (ZM (qG 1) (wl (Qc (qG 2) qK)) wR)) (@zX _ _ _ _ _ _ _ _ _ (zF (qG 1) (ZM (qG 1) wR (wl qK))) (@qDx _ _ _ _ _ _ _ _ (qCZ (qG 1) wR wR (wl (Yj qK))) qF)))))))) (qL (q9 7 sc_law_bent.nd (qg (zQ (qG 7) (qg (QD (@wc _ _ _ _ _ _ _ _ _ (qg (qAP V.n_list (qG 1))) (@zX _ _ _ _ _ _ _ _ _ (zF (qG 1) (Qn (@yC _ _ _ _ _ _ _ _ (Qn qF) qF))) qF))))))) (qP (qa (QC (qg (zQ (qG 7) (qg (QD (@wc _ _ _ _ _ _ _ _ _ (qS ((qDT V).call (hr.mono (by omega)) qj) (@qO _ _ _ _ _ _ _ (qG 0) qF)) qF))))) (qS ((qh V).call (hr.mono (by omega)) qj) (@qO _ _ _ _ _ _ _ (qG 0) (@qr _ _ _ _ _ _ _ _ qK qF)))))))))))))
theorem qDu (V:Env K mg a):∀ C∈Qt a,W.mroIn K C (.ref a.Z0)=some true:=by
 intro C hC
 unfold Qt at hC
 rcases AJ.mp hC with rfl |hC
 ·exact V.e_Z1
 rcases AJ.mp hC with rfl |hC
 ·exact V.e_Z5
 cases hC
theorem sc_law_asked:FnScope ["_law_way","_law_floor_here","_law_length","_law_thing","_law_e"] ["_law_way","_law_floor_here","_law_length","_law_thing"] (qJ wU):=scm
theorem Wk (V:Env K mg a):DefG P w K mg base 9 "_law_asked" a.law_asked 4 (QH a):=by
 obtain ⟨fd,F⟩:=V.f_law_asked
 obtain ⟨_,_,_,o_Z0⟩:=V.o_Z0
 refine qCd (B:=yo a) F sc_law_asked (F.binds (ps:=["_law_way","_law_floor_here","_law_length","_law_thing"]) fun _ _ _ _ _ _ us hl=>match us,hl with |[_,_,_,_],_=>rfl) V.m_law_asked (fun l st h=>ZS h) (fun cdv A outer s H E hr hcm => ?_) (fun l s0 hl hn=>zY hl)
 have hu:=hr.units
 have hc:(wj (CXF P w) P w K mg base ["_law_way","_law_floor_here","_law_length","_law_thing","_law_e"] "_law_asked" (qJ wU) a.law_asked cdv A outer s H E).calm=true:=by show A.handled.isNone=true;rw [hcm (by omega)];rfl
 exact (qP (qJU 4 ⟨rfl,rfl,rfl⟩ hc sc_law_asked.nd rfl V.k_Z0 o_Z0 V.b_Z0 (qDu V) (fun pins xe E' hp=>(qL (Q1 (QP (zB hu) ZO (qG 0) qK) (qP (qa (qS ((Zd V).call (hr.mono (by omega)) hp) (@qO _ _ _ _ _ _ _ (qG 2) (@qO _ _ _ _ _ _ _ (qG 3) qF))))) QB) (qL (Q1 (QP (zB hu) ZO (qG 0) qK) (qP (qa (qS ((qAd V).call (hr.mono (by omega)) hp) (@qO _ _ _ _ _ _ _ (qG 1) (@qO _ _ _ _ _ _ _ (qG 2) (@qO _ _ _ _ _ _ _ (qG 3) qF)))))) QB) (qP (qa (qS ((jF V).call (hr.mono (by omega)) hp) (@qO _ _ _ _ _ _ _ (qG 1) (@qO _ _ _ _ _ _ _ (qG 2) qF)))))))) (fun ea=>(qP (qa (qS ((qBS V).call (qGA hr) (qm _)) (@qO _ _ _ _ _ _ _ (qG 4) qF)))))))
theorem sc_law:FnScope ["_law_script","_law_k","_law_box_here","_law_length","_law_floor_here","_law_weights_here","_law_thing","_law_due","_law_told","_law_found","_law_bad"] ["_law_script"] (qJ z9):=scm
theorem qKi {fd:FuncData} (V:Env K mg a) (F:Fun K "law" "law" z9 a.law fd):FnOk P w K mg base (CXF P w) 10 a.law fd ["_law_script"] (spG K 1 (qAM a)):=by
 refine okV F sc_law fun cdv A outer s H E hr hcm=>⟨qH1 a,?_,fun l s0 hl hn=>zY hl⟩
 have hu:=hr.units
 have hc:(wj (CXF P w) P w K mg base ["_law_script","_law_k","_law_box_here","_law_length","_law_floor_here","_law_weights_here","_law_thing","_law_due","_law_told","_law_found","_law_bad"] "law" (qJ z9) a.law cdv A outer s H E).calm=true:=by show A.handled.isNone=true;rw [hcm (by omega)];rfl
 exact (qL (WD (qq rfl V.n_range (@wc _ _ _ _ _ _ _ _ _ (qHU (@qr _ _ _ _ _ _ _ _ qK (@wc _ _ _ _ _ _ _ _ _ (qG6 (@wc _ _ _ _ _ _ _ _ _ (wF (@qO _ _ _ _ _ _ _ (qG 0) qF) V.n_len) (@qr _ _ _ _ _ _ _ _ qK qF)) hc V.n_min) qF)) hc V.n_max) qF)) (QV 1 sc_law.nd) (qL (q9 2 sc_law.nd (qS ((qDb V).call (hr.mono (by omega)) (qm _)) (@qO _ _ _ _ _ _ _ (qG 0) (@qO _ _ _ _ _ _ _ (qG 1) qF)))) (qL (q9 3 sc_law.nd (Qc qK (qS ((qh V).call (hr.mono (by omega)) (qm _)) (@qO _ _ _ _ _ _ _ (qG 2) (@qr _ _ _ _ _ _ _ _ qK qF))))) (qL (q9 4 sc_law.nd (qS ((qA3 V).call (hr.mono (by omega)) (qm _)) (@qO _ _ _ _ _ _ _ (qG 2) (@qO _ _ _ _ _ _ _ (qG 3) qF)))) (qL (q9 5 sc_law.nd (qS ((jD V).call (hr.mono (by omega)) (qm _)) (@qO _ _ _ _ _ _ _ (qG 2) (@qO _ _ _ _ _ _ _ (qG 3) qF)))) (qL (WD (wE (qg (zQ (qg (QD (@qO _ _ _ _ _ _ _ (qG 5) qF))) (qg (QN (capN:=(["_law_box_here","_law_weights_here"])) (locN:=(["_law_turn"])) (caps:=([2,5])) (by exact QW rfl (by decide +kernel) rfl rfl ⟨⟨rfl,rfl⟩,⟨⟨rfl,rfl⟩,trivial⟩⟩) (qq rfl V.n_range (@qr _ _ _ _ _ _ _ _ qK qF)) (fun s' H' fp pn=>⟨(qS ((qBT V).call (hr.mono (by omega)) (qm _)) (@qO _ _ _ _ _ _ _ (qG 0) (@qO _ _ _ _ _ _ _ (qG 1) qF))),⟨(QL 2 (show (["_law_box_here","_law_weights_here","_law_turn"]:List Str).Nodup by decide +kernel)),(qY 2),TsOk.nil,rfl⟩,GsOk.nil⟩)))))) (QV 6 sc_law.nd) (qL (q9 7 sc_law.nd (qS ((zL V).call (hr.mono (by omega)) (qm _)) (@qO _ _ _ _ _ _ _ (qG 3) (@qO _ _ _ _ _ _ _ (qG 6) qF)))) (qL (q9 8 sc_law.nd (qHt (wn (qG 7)) (qS ((yO V).call (hr.mono (by omega)) (qm _)) (@qO _ _ _ _ _ _ _ (qG 4) (@qO _ _ _ _ _ _ _ (qG 3) (@qO _ _ _ _ _ _ _ (qG 6) qF)))) Qp)) (qL (Q1 (Wc (wn (qS ((Zo V).call (hr.mono (by omega)) (qm _)) (@wc _ _ _ _ _ _ _ _ _ (qS ((Wk V).call (hr.mono (by omega)) (qm _)) (@qr _ _ _ _ _ _ _ _ qK (@qO _ _ _ _ _ _ _ (qG 4) (@qO _ _ _ _ _ _ _ (qG 3) (@qO _ _ _ _ _ _ _ (qG 6) qF))))) (@qO _ _ _ _ _ _ _ (qG 7) qF))))) (qP (qa wx)) QB) (qP (Q1 (Wc (wn (qS ((Zo V).call (hr.mono (by omega)) (qm _)) (@wc _ _ _ _ _ _ _ _ _ (qS ((Wk V).call (hr.mono (by omega)) (qm _)) (@qr _ _ _ _ _ _ _ _ qK (@qO _ _ _ _ _ _ _ (qG 4) (@qO _ _ _ _ _ _ _ (qG 3) (@qO _ _ _ _ _ _ _ (qG 6) qF))))) (@qO _ _ _ _ _ _ _ (qG 8) qF))))) (qP (qa wx)) QB)))))) (qL (q9 9 sc_law.nd (qS ((Wk V).call (hr.mono (by omega)) (qm _)) (@qr _ _ _ _ _ _ _ _ qK (@qO _ _ _ _ _ _ _ (qG 4) (@qO _ _ _ _ _ _ _ (qG 3) (@qr _ _ _ _ _ _ _ _ Wm qF)))))) (qL (Q1 (QP qEj qH6 (qS ((qAV V).call (hr.mono (by omega)) (qm _)) (@wc _ _ _ _ _ _ _ _ _ (qS ((qAx V).call (hr.mono (by omega)) (qm _)) (@qO _ _ _ _ _ _ _ (qG 4) (@qO _ _ _ _ _ _ _ (qG 3) qF))) qF)) Wm) (qP (Q1 (QP qGg qD0 (qG 9) Wm) (qP (qa wx)) QB)) (qP (Q1 (Jq (yn (Wc (wn (qS ((zL V).call (hr.mono (by omega)) (qm _)) (@qO _ _ _ _ _ _ _ (qG 3) (@qO _ _ _ _ _ _ _ (qG 9) qF))))) (Zk (QP (zB hu) ZO (qS ((yO V).call (hr.mono (by omega)) (qm _)) (@qO _ _ _ _ _ _ _ (qG 4) (@qO _ _ _ _ _ _ _ (qG 3) (@qO _ _ _ _ _ _ _ (qG 9) qF)))) qK)))) (qP (qa wx)) QB))) (qL (Q1 (Wc (wn (qS ((Zo V).call (hr.mono (by omega)) (qm _)) (@wc _ _ _ _ _ _ _ _ _ (qS ((Wk V).call (hr.mono (by omega)) (qm _)) (@qr _ _ _ _ _ _ _ _ qK (@qO _ _ _ _ _ _ _ (qG 4) (@qO _ _ _ _ _ _ _ (qG 3) (@qr _ _ _ _ _ _ _ _ Wm qF))))) (@qO _ _ _ _ _ _ _ (qG 9) qF))))) (qP (qa wx)) QB) (qL (q9 10 sc_law.nd (qS ((YC V).call (hr.mono (by omega)) (qm _)) (@qO _ _ _ _ _ _ _ (qG 2) qF))) (qP (Q1 (QP (Wb hu) ze (qg (QN (capN:=(["_law_floor_here","_law_bad"])) (locN:=(["_law_way"])) (caps:=([4,10])) (by exact QW rfl (by decide +kernel) rfl rfl ⟨⟨rfl,rfl⟩,⟨⟨rfl,rfl⟩,trivial⟩⟩) (qq rfl V.n_range (@qr _ _ _ _ _ _ _ _ qK qF)) (fun s' H' fp pn=>⟨(qS ((Wk V).call (hr.mono (by omega)) (qm _)) (@qO _ _ _ _ _ _ _ (qG 2) (@qO _ _ _ _ _ _ _ (qG 0) (@qO _ _ _ _ _ _ _ (qG 1) (@qr _ _ _ _ _ _ _ _ Wm qF))))),⟨(QL 2 (show (["_law_floor_here","_law_bad","_law_way"]:List Str).Nodup by decide +kernel)),(qY 2),TsOk.nil,rfl⟩,GsOk.nil⟩))) (qg (qBH (QD (@qr _ _ _ _ _ _ _ _ Qp qF)) qK))) (qP (qa wx)) QB)))))))))))) (qP (qa wx)))
end
end K53
end
section
namespace EV
open PySem L2 EX
theorem ZH {G:qC->Prop} {k:PV->qC->Rs (List PV)} {st:qC} (hG:G st) {F:PV->List PV}:∀ {l:List PV},(∀ p∈l,k p st = .ok (F p) st)->qx G k l st = .ok (l.flatMap F) st
 |[],_=>by unfold qx;rw [AG hG];rfl
 |p::l,h=>by
  unfold qx
  rw [AG hG,h p AI]
  show (qx G k l st).bind _=_
  rw [ZH hG fun q hq=>h q (AD _ hq)]
  rfl
theorem yu {F:PV->PV}:∀ l:List PV,l.flatMap (fun p=>[F p])=l.map F
 |[]=>rfl
 |p::l=>by rw [List.flatMap_cons,yu l];rfl
theorem ZK {c:PV->Bool}:∀ l:List PV,l.flatMap (fun p=>if c p=true then [p] else [])=l.filter c
 |[]=>rfl
 |p::l=>by
  rw [List.flatMap_cons,ZK l,Bv]
  cases c p <;> rfl
theorem QX {caps:List Nat} {n:Nat} {fi:FI} {g:FG} {f:FE} {r:QO} {st:qC} {w:ItP} {F:PV->PV} (hfi:fi r st = .ok w st) (hG:w.G st) (hl:w.l.length≤sizeLine)
  (h:∀ p∈w.l,∃ r',g p (zj caps n r)=some r'∧f r' st = .ok (F p) st):qc caps n fi g [] [] f r st = .ok (w.l.map F) st:=by
 unfold qc
 rw [hfi]
 show (match qx w.G (Qk ⟨fi,g,[]⟩ (Qx [] f) (zj caps n r)) w.l st with | .ok l s'=>if l.length≤sizeLine then Rs.ok l s' else Rs.no |_=>Rs.no)=_
 rw [ZH (F:=fun p=>[F p]) hG fun p hp=>by
  obtain ⟨r',h1,h2⟩:=h p hp
  unfold Qk
  show (match g p (zj caps n r) with |none=>_ |some r'=>_)=_
  rw [h1]
  show (Qx [] f) r' st=_
  unfold Qx
  rw [h2];rfl]
 rw [yu]
 dsimp only
 rw [AG (by rw [AF];exact hl)]
theorem Wr {caps:List Nat} {n:Nat} {fi:FI} {g:FG} {t:FT} {f:FE} {r:QO} {st:qC} {w:ItP} {c:PV->Bool} (hfi:fi r st = .ok w st) (hG:w.G st) (hl:w.l.length≤sizeLine)
  (h:∀ p∈w.l,∃ r',g p (zj caps n r)=some r'∧t r' st = .ok (c p) st∧f r' st = .ok p st):qc caps n fi g [t] [] f r st = .ok (w.l.filter c) st:=by
 unfold qc
 rw [hfi]
 show (match qx w.G (Qk ⟨fi,g,[t]⟩ (Qx [] f) (zj caps n r)) w.l st with | .ok l s'=>if l.length≤sizeLine then Rs.ok l s' else Rs.no |_=>Rs.no)=_
 rw [ZH (F:=fun p=>if c p=true then [p] else []) hG fun p hp=>by
  obtain ⟨r',h1,h2,h3⟩:=h p hp
  unfold Qk
  show (match g p (zj caps n r) with |none=>_ |some r'=>_)=_
  rw [h1]
  show (we [t] r' st).bind _=_
  unfold we we
  rw [h2]
  cases hc:c p
  ·rfl
  ·show (Qx [] f) r' st=_
   unfold Qx
   rw [h3];rfl]
 rw [ZK]
 dsimp only
 rw [AG (Aa (List.length_filter_le _ _) hl)]
theorem jn {G:qC->Prop} {g:FG} {F:FS} {r:QO} {st:qC} (h:G st):Qo G g F [] r st = .nx r st:=by unfold Qo;rw [AG h]
theorem Yp {G:qC->Prop} {g:FG} {F:FS} {r r1 r2:QO} {st s2:qC} {p:PV} {ps:List PV} (h:G st) (h1:g p r=some r1) (h2:F r1 st = .nx r2 s2):Qo G g F (p::ps) r st=Qo G g F ps r2 s2:=by
 rw [Qo,AG h,h1]
 dsimp only
 rw [h2]
section
variable {F G:FS} {f:FE} {fl:FL} {fi:FI} {g:FG} {t:FT} {r r':QO} {st st':qC} {p:PV} {l:List PV} {w:ItP} {i:Nat}
theorem Q5 (h:F r st = .nx r' st'):qV F G r st=G r' st':=by unfold qV;rw [h]
theorem qBY (h:F r st = .rt p st'):qV F G r st = .rt p st':=by unfold qV;rw [h]
theorem qJS {x:Exc} (h:F r st = .ex x st'):qV F G r st = .ex x st':=by unfold qV;rw [h]
theorem qJE {x:Exc} (h:f r st = .ex x st'):zR f r st = .ex x st':=by unfold zR;rw [h];rfl
theorem qHQ {x:Exc} {n N:Nat} {B:FS} (hl:l.length=n) (h:B (Q4 N l) st = .ex x st'):QG n N B l st = .ex x st':=by unfold QG;rw [AG hl,h];rfl
theorem qIU (h:f r st = .ok p st'):zR f r st = .nx r st':=by unfold zR;rw [h];rfl
theorem WP (h:f r st = .ok p st'):qv i f r st = .nx (r.set i (some p)) st':=by unfold qv;rw [h];rfl
theorem qG3 (h:fl r st = .ok l st'):WQ i fl r st = .nx (r.set i (some (.ref st'.length))) (st'++[.l l]):=by unfold WQ;rw [h];rfl
theorem yh (h:f r st = .ok p st'):qf f r st = .rt p st':=by unfold qf;rw [h];rfl
theorem qCT (h:fl r st = .ok l st'):Yy fl r st = .rt (.ref st'.length) (st'++[.l l]):=by unfold Yy;rw [h];rfl
theorem qEF (h:fi r st = .ok w st'):WN fi g F r st=Qo w.G g F w.l r st':=by unfold WN;rw [h];rfl
theorem qIF (h:t r st = .ok true st'):Q2 t F G r st=F r st':=by unfold Q2;rw [h];rfl
theorem qEG (h:t r st = .ok false st'):Q2 t F G r st=G r st':=by unfold Q2;rw [h];rfl
theorem ZB (h:fl r st = .ok l st'):vFz fl r st = .ok (.lst l) st':=by unfold vFz;rw [h];rfl
theorem wT {k:List PV->qC->Rs PV} {fa:FA} (h:fa r st = .ok l st'):qH k fa r st=k l st':=by unfold qH;rw [h];rfl
theorem QE {fa:FA} {st2:qC} (h:f r st = .ok p st') (h2:fa r st' = .ok l st2):qA f fa r st = .ok (p::l) st2:=by unfold qA;rw [h];show (fa r st').bind _=_;rw [h2];rfl
theorem QR {k:PV->PV->qC->Rs PV} {fb:FE} {q:PV} {st2:qC} (h:f r st = .ok p st') (h2:fb r st' = .ok q st2):qM k f fb r st=k p q st2:=by unfold qM;rw [h];show (fb r st').bind _=_;rw [h2];rfl
theorem yc {b:Bool} (h:f r st = .ok (.bl b) st'):Qr f r st = .ok b st':=by unfold Qr;rw [h];rfl
theorem qBn {b:Bool} (h:t r st = .ok b st'):ww t r st = .ok (!b) st':=by unfold ww;rw [h];rfl
theorem jc {b:Bool} (h:f r st = .ok (.bl b) st'):vTB f r st = .ok b st':=by unfold vTB;rw [h];rfl
theorem WL {n N:Nat} {B:FS} (hl:l.length=n) (h:B (Q4 N l) st = .rt p st'):QG n N B l st = .ok p st':=by unfold QG;rw [AG hl,h];rfl
end
section
variable {F G:FS} {f fb fo fi2:FE} {fl:FL} {fi:FI} {fa:FA} {g:FG} {t u:FT} {r r1 r':QO} {st s1 s2 s3:qC} {p q z:PV} {l m:List PV} {w:ItP} {i:Nat} {b c:Bool} {x:Exc} {o:RS} {R:Rs PV}
theorem qR {k:PV->PV->qC->Rs PV} (h:f r st = .ok p s1) (h2:fb r s1 = .ok q s2) (h3:k p q s2=R):qM k f fb r st=R:=by rw [QR h h2];exact h3
theorem qI {k:List PV->qC->Rs PV} (h:fa r st = .ok l s1) (h2:k l s1=R):qH k fa r st=R:=by rw [wT h];exact h2
theorem qe:qD r st = .ok [] st:=rfl
theorem qN (h:f r st = .ok p s1) (h2:fa r s1 = .ok l s2):qA f fa r st = .ok (p::l) s2:=QE h h2
theorem zz (h:fa r st = .ok l s1) (hl:l.length≤sizeLine):wY fa r st = .ok (.tup l) s1:=by unfold wY;rw [h];exact AG hl
theorem Ya (h:fa r st = .ok l s1) (hl:l.length≤sizeLine):Qe fa r st = .ok l s1:=by unfold Qe;rw [h];exact AG hl
theorem wG (h:fl r st = .ok l s1):vFz fl r st = .ok (.lst l) s1:=ZB h
theorem yw (h:f r st = .ok p s1) (h2:fb r s1 = .ok q s2) (e1:asL s2 p=some l) (e2:asL s2 q=some m) (hl:l.length + m.length≤sizeLine):zD f fb r st = .ok (l++m) s2:=by
 unfold zD;rw [h];show (fb r s1).bind _=_;rw [h2];show (match asL s2 p with |some l=>_ |none=>_)=_;rw [e1];dsimp only;rw [e2];dsimp only;rw [AG hl]
theorem qX (h:f r st = .ok (.bl b) s1):Qr f r st = .ok b s1:=yc h
theorem Qw (h:f r st = .ok (.bl b) s1):vTB f r st = .ok b s1:=jc h
theorem w_not (h:t r st = .ok b s1):ww t r st = .ok (!b) s1:=qBn h
theorem wB (h:t r st = .ok true s1):ZV t u r st = .ok true s1:=by unfold ZV;rw [h];rfl
theorem Wl (h:t r st = .ok false s1) (h2:u r s1 = .ok b s2):ZV t u r st = .ok b s2:=by unfold ZV;rw [h];exact h2
theorem qC3 (h:t r st = .ok false s1):Zc t u r st = .ok false s1:=by unfold Zc;rw [h];rfl
theorem Jh (h:t r st = .ok true s1) (h2:u r s1 = .ok b s2):Zc t u r st = .ok b s2:=by unfold Zc;rw [h];exact h2
theorem qW (h:F r st = .nx r' s1) (h2:G r' s1=o):qV F G r st=o:=by rw [Q5 h];exact h2
theorem qt (h:F r st = .rt p s1):qV F G r st = .rt p s1:=qBY h
theorem WJ (h:F r st = .ex x s1):qV F G r st = .ex x s1:=qJS h
theorem Ql (h:f r st = .ok p s1):qv i f r st = .nx (r.set i (some p)) s1:=WP h
theorem Zy (h:fl r st = .ok l s1):WQ i fl r st = .nx (r.set i (some (.ref s1.length))) (s1++[.l l]):=qG3 h
theorem qBe (h:f r st = .ok p s1):zR f r st = .nx r s1:=qIU h
theorem jZ (h:f r st = .ex x s1):zR f r st = .ex x s1:=qJE h
theorem qk (h:f r st = .ok p s1):qf f r st = .rt p s1:=yh h
theorem Z1 (h:f r st = .ex x s1):qf f r st = .ex x s1:=by unfold qf;rw [h];rfl
theorem qo (h:t r st = .ok true s1) (h2:F r s1=o):Q2 t F G r st=o:=by rw [qIF h];exact h2
theorem qz (h:t r st = .ok false s1) (h2:G r s1=o):Q2 t F G r st=o:=by rw [qEG h];exact h2
theorem qCP (h:t r st = .ok true s1) (h2:f r s1=R):vIf t f fb r st=R:=by unfold vIf;rw [h];exact h2
theorem qCl (h:t r st = .ok false s1) (h2:fb r s1=R):vIf t f fb r st=R:=by unfold vIf;rw [h];exact h2
theorem WM (h:fi r st = .ok w s1) (h2:Qo w.G g F w.l r s1=o):WN fi g F r st=o:=by rw [qEF h];exact h2
theorem Qa {Gd:qC->Prop} (h:Gd st):Qo Gd g F [] r st = .nx r st:=jn h
theorem WY {Gd:qC->Prop} {ps:List PV} (h:Gd st) (h1:g p r=some r1) (h2:F r1 st = .nx r' s2) (h3:Qo Gd g F ps r' s2=o):Qo Gd g F (p::ps) r st=o:=by rw [Yp h h1 h2];exact h3
theorem qFI {r1:QO} (h:f r st = .ok p s1) (h2:g p r=some r1):j6 f g r st = .nx r1 s1:=by unfold j6;rw [h];show (match g p r with |some r'=>RS.nx r' s1 |none=>RS.no)=_;rw [h2]
theorem qHs {j:Nat} (h:fa r st = .ok [p,q] s1):jy i j fa r st = .nx ((r.set i (some p)).set j (some q)) s1:=by unfold jy;rw [h];rfl
theorem QK {n N:Nat} {B:FS} (hl:l.length=n) (h:B (Q4 N l) st = .rt p s1):QG n N B l st = .ok p s1:=WL hl h
theorem Ww {n N:Nat} {B:FS} (hl:l.length=n) (h:B (Q4 N l) st = .ex x s1):QG n N B l st = .ex x s1:=qHQ hl h
theorem sz {n:Nat} (h:Nat.ble n 1000=true):n≤sizeLine:=Aa (Nat.le_of_ble_eq_true h) (by decide)
theorem qII {i j:Int} (h:-(2 ^ 64) < i∧i < 2 ^ 64):ZE (.int i) (.int j) st = .ok (.int (i * j)) st:=by unfold ZE gI;dsimp only;rw [AG (.inl h)]
theorem je {i j:Int} (h:0 < j):Ws (.int i) (.int j) st = .ok (.int (i % j)) st:=by unfold Ws gI;dsimp only;rw [AG h]
theorem W4 {i j:Int}:Qf (.int i) (.int j) st = .ok (.int (i + j)) st:=rfl
theorem Yh {i j:Int}:zU (.int i) (.int j) st = .ok (.int (i - j)) st:=rfl
theorem w_lt {i j:Int}:gLt (.int i) (.int j) st = .ok (.bl (decide (i < j))) st:=rfl
theorem qIN {i j:Int}:gLe (.int i) (.int j) st = .ok (.bl (decide (i≤j))) st:=rfl
theorem qKT {i j:Int}:gGt (.int i) (.int j) st = .ok (.bl (decide (i > j))) st:=rfl
theorem qIg {i j:Int} (h:i < j):gLt (.int i) (.int j) st = .ok (.bl true) st:=by rw [w_lt,Ai h]
theorem qIt {i j:Int} (h:¬ i < j):gLt (.int i) (.int j) st = .ok (.bl false) st:=by rw [w_lt,Ac h]
theorem qEV {i j:Int} (h:i > j):gGt (.int i) (.int j) st = .ok (.bl true) st:=by rw [qKT,Ai h]
theorem qJP {i j:Int} (h:¬ i > j):gGt (.int i) (.int j) st = .ok (.bl false) st:=by rw [qKT,Ac h]
theorem J6 {i:Int} (h:Wo st p=some l) (h2:atI l i=some z):gIx p (.int i) st = .ok z st:=by unfold gIx;simp only [h,h2]
theorem za (h:Wo st p=some l) {n:Int} (hn:(l.length:Int)=n):WH [p] st = .ok (.int n) st:=by unfold WH;simp only [h];rw [hn]
theorem Z8 {n:Nat} (h:st[n]? = some (.l l)):Wo st (.ref n)=some l:=by unfold Wo asL;simp only [h]
theorem qBO {n:Nat} (h:st[n]? = some (.l l)):asL st (.ref n)=some l:=by unfold asL;simp only [h]
theorem qCA {n:Nat} (h:r[n]? = some (some p)):qB n r st = .ok p st:=by unfold qB;rw [h]
theorem qKe {k:Int} (h:fl r st = .ok l s1) (h2:f r s1 = .ok (.int k) s2) (h0:0≤k) (h1:l.length * k.toNat≤sizeLine) (hk:k < 2 ^ 63):Yq fl f r st = .ok (List.replicate k.toNat l).flatten s2:=by
 unfold Yq;rw [h];show (f r s1).bind _=_;rw [h2];show (if -(2 ^ 63)≤k∧k < 2 ^ 63∧l.length * k.toNat≤sizeLine then Rs.ok (List.replicate k.toNat l).flatten s2 else Rs.no)=_;rw [AG ⟨by omega,hk,h1⟩]
theorem yJ {n:Nat} (h:fo r st = .ok (.ref n) s1) (hk:lk s1 (.ref n)=true) (h2:f r s1 = .ok p s2) (h3:s2[n]? = some (.l l)) (hl:l.length < sizeLine):W3 fo f r st = .nx r (s2.set n (.l (l++[p]))):=by
 unfold W3;rw [h];show (if lk s1 (.ref n)=true then (f r s1).bindS _ else RS.no)=_;rw [AG hk,h2];show (match s2[n]? with |some (.l xs)=>if xs.length < sizeLine then RS.nx r (s2.set n (.l (xs++[p]))) else .no |_ => .no)=_;rw [h3];exact AG hl
theorem qCS {n j:Nat} {k:Int} {v:PV} (h:st[n]? = some (.l l)) (hj:ixN l.length k=some j):Wj st (.ref n) (.int k) v=some (st.set n (.l (l.set j v))):=by unfold Wj;simp only [h,hj]
theorem zn {n:Nat} {k:Int} (h0:0≤k) (h1:k < n):ixN n k=some k.toNat:=by unfold ixN;rw [AG h0,AG (by omega)]
theorem WB {Gd:qC->Prop} {k:PV->qC->Rs (List PV)} (h:Gd st):qx Gd k [] st = .ok [] st:=by unfold qx;exact AG h
theorem Wq {Gd:qC->Prop} {k:PV->qC->Rs (List PV)} {ps:List PV} (hG:Gd st) (h:k p st = .ok l s1) (h2:qx Gd k ps s1 = .ok m s2):qx Gd k (p::ps) st = .ok (l++m) s2:=by
 rw [qx,AG hG,h];show (qx Gd k ps s1).bind _=_;rw [h2];rfl
theorem Ze (h:g p r=some r') (hf:f r' st = .ok q s1):Qk ⟨fi,g,[]⟩ (Qx [] f) r p st = .ok [q] s1:=by
 unfold Qk;show (match g p r with |none=>_ |some r'=>_)=_;rw [h];show (Qx [] f) r' st=_;unfold Qx;rw [hf];rfl
theorem Zr {caps:List Nat} {n:Nat} {ts:List FT} {gs:List GenF} (hfi:fi r st = .ok w s1) (h:qx w.G (Qk ⟨fi,g,ts⟩ (Qx gs f) (zj caps n r)) w.l s1 = .ok l s2) (hl:l.length≤sizeLine):qc caps n fi g ts gs f r st = .ok l s2:=by
 unfold qc;rw [hfi];show (match qx w.G (Qk ⟨fi,g,ts⟩ (Qx gs f) (zj caps n r)) w.l s1 with | .ok l s'=>if l.length≤sizeLine then Rs.ok l s' else Rs.no |_=>Rs.no)=_;rw [h];exact AG hl
theorem zw (h:Wo st p=some l):wm [p] st = .ok (.tup l) st:=by unfold wm;simp only [h]
theorem Zz (h:f r st = .ok (.lst l) s1):QA f r st = .ok ⟨l,fun _=>True⟩ s1:=by unfold QA;rw [h];rfl
theorem Qu (h:f r st = .ok (.tup l) s1):QA f r st = .ok ⟨l,fun _=>True⟩ s1:=by unfold QA;rw [h];rfl
end
abbrev CE:=QO->Option PV
section
variable {F G:FS} {f fb fc fo fi2:FE} {fl:FL} {fi:FI} {fa:FL} {g:FG} {t u:FT} {c d e:CE} {co cp:CO} {f1 f2:FO} {r r':QO} {st s1 s2 s3:qC} {p q z:PV} {l:List PV} {n:Nat} {o:RS}
theorem Zi (h:f r st = .ok (.ref n) s1) (h2:s1[n]? = some (.l l)):QA f r st = .ok ⟨l,fun s=>s[n]? = some (.l l)⟩ s1:=by
 unfold QA;rw [h];show qGZ (.ref n) s1=_;unfold qGZ;dsimp only;rw [qBO h2]
theorem qEb (h:st[n]? = some (.l l)):lk st (.ref n)=true:=by unfold lk;dsimp only;rw [h]
end
end EV
end
section
namespace EV
open PySem ET
abbrev ql:=Int×Int
def cP (c:ql):PV := .tup [.int c.1,.int c.2]
def cL (c:ql):List Int:=[c.1,c.2]
def lC:List Int->ql
 |[x,y]=>(x,y)
 |_=>(0,0)
theorem qEY:∀ l:List ql,nrs (l.map cP)=true
 |[]=>rfl
 |c::l=>by rw [Ap,nrs,qEY l];rfl
theorem qBo:∀ l:List ql,deps (l.map cP)≤1
 |[]=>BJ _
 |c::l=>by
  rw [Ap,deps]
  have:=qBo l
  have h:dep (cP c)=1:=rfl
  omega
theorem qKM (a b:ql):peq (cP a) (cP b)=decide (a=b):=by
 obtain ⟨a1,a2⟩:=a
 obtain ⟨b1,b2⟩:=b
 show ((a1==b1)&&((a2==b2)&&true))=_
 rw [Bool.and_true]
 by_cases h1:a1=b1
 ·by_cases h2:a2=b2
  ·subst h1;subst h2;simp
  ·rw [AH.mpr h2,B5];exact (Ac (by simp [h2])).symm
 ·rw [AH.mpr h1,Bool.false_and];exact (Ac (by simp [h1])).symm
theorem qHy (c:ql):∀ l:List ql,pin (cP c) (l.map cP)=decide (c∈l)
 |[]=>rfl
 |d::l=>by
  rw [Ap,pin,qKM,qHy c l]
  by_cases h:d=c
  ·subst h;rw [Ai rfl,Bool.true_or];exact (Ai AI).symm
  ·rw [Ac h,Bool.false_or]
   refine decide_eq_decide.mpr ⟨fun q=>AD _ q,fun q => ?_⟩
   rcases AJ.mp q with z |z
   ·exact absurd z.symm h
   ·exact z
theorem qLB {neg:Bool} {c:ql} {l:List ql} {q:PV} {st:qC} (h:Wo st q=some (l.map cP)):gIn neg (cP c) q st = .ok (.bl (if neg then !decide (c∈l) else decide (c∈l))) st:=by
 unfold gIn
 rw [h]
 dsimp only
 rw [AG ⟨qEY l,rfl,Aa (qBo l) (by decide)⟩]
 show Rs.ok (PV.bl (if neg then !pin (cP c) (l.map cP) else pin (cP c) (l.map cP))) st=_
 rw [qHy]
theorem eq_nil {l:List ql} {st:qC}:gEq (.lst (l.map cP)) (.lst []) st = .ok (.bl l.isEmpty) st:=by
 have h1:Y8 (.lst (l.map cP)) (.lst [])=true:=by
  show (nrs (l.map cP)&&true&&decide (deps (l.map cP) + 1≤y0))=true
  rw [qEY,Ai (Aa (CQ (qBo l)) (by decide))];rfl
 show (if Y8 (.lst (l.map cP)) (.lst [])=true then Rs.ok (PV.bl (peq (PV.lst (l.map cP)) (PV.lst []))) st else Rs.no)=_
 rw [AG h1]
 cases l <;> rfl
theorem qId (c:ql):qAv (cP c)=some (cL c):=rfl
theorem qE4:∀ l:List ql,wu qAv (l.map cP)=some (l.map cL)
 |[]=>rfl
 |c::l=>by rw [Ap,wu,qId];dsimp only;rw [qE4 l];rfl
theorem jQ:∀ (vs acc:List (List Int)),acc.Nodup->(vs.foldl Z9 acc).Nodup
 |[],acc,h=>h
 |k::vs,acc,h=>by
  rw [Bl]
  refine jQ vs _ ?_
  unfold Z9
  split
  ·exact h
  ·rename_i q
   exact List.nodup_append.mpr ⟨h,by simp,fun a ha b hb=>by rw [Ak.mp hb];intro z;subst z;exact q ha⟩
theorem qCC:∀ (vs acc:List (List Int)) (x:List Int),x∈vs.foldl Z9 acc ↔ x∈acc∨x∈vs
 |[],acc,x=>by simp
 |k::vs,acc,x=>by
  rw [Bl,qCC vs _ x]
  unfold Z9
  split
  ·rename_i q
   constructor
   ·rintro (h |h)
    ·exact .inl h
    ·exact .inr (AD _ h)
   ·rintro (h |h)
    ·exact .inl h
    ·rcases AJ.mp h with rfl |h
     ·exact .inl q
     ·exact .inr h
  ·simp only [Ar,AJ,AY,Bi]
   constructor
   ·rintro ((h |h) |h)
    ·exact .inl h
    ·exact .inr (.inl h)
    ·exact .inr (.inr h)
   ·rintro (h |h |h)
    ·exact .inl (.inl h)
    ·exact .inl (.inr h)
    ·exact .inr h
def YA (l:List ql):List ql:=(srt (ddT (l.map cL))).map lC
theorem qCJ (c:ql):lC (cL c)=c:=rfl
theorem qJd {l:List (List Int)} {m:List ql} (h:∀ x∈l,x∈m.map cL):l.map JD=(l.map lC).map cP:=by
 rw [A0]
 refine BN fun x hx => ?_
 obtain ⟨c,_,rfl⟩:=Al.mp (h x hx)
 rfl
theorem ddT_in {l:List ql} {x:List Int}:x∈ddT (l.map cL) ↔ x∈l.map cL:=by
 unfold ddT;rw [qCC];simp
theorem qHF (l:List ql):(srt (ddT (l.map cL))).map JD=(YA l).map cP:=qJd fun x hx=>ddT_in.mp ((wH _).mem_iff.mp hx)
theorem mem_cL {l:List ql} {c:ql}:cL c∈l.map cL ↔ c∈l:=by
 rw [Al]
 constructor
 ·rintro ⟨d,hd,e⟩
  have:d=c:=by rw [← qCJ d,e,qCJ]
  rw [← this];exact hd
 ·intro h;exact ⟨c,h,rfl⟩
theorem mem_sddC {l:List ql} {c:ql}:c∈YA l ↔ c∈l:=by
 unfold YA
 rw [Al]
 constructor
 ·rintro ⟨x,hx,rfl⟩
  obtain ⟨d,hd,rfl⟩:=Al.mp (ddT_in.mp ((wH _).mem_iff.mp hx))
  exact hd
 ·intro h;exact ⟨cL c,(wH _).mem_iff.mpr (ddT_in.mpr (mem_cL.mpr h)),rfl⟩
theorem qB5 (l:List ql):(ddT (l.map cL)).length≤l.length:=by
 have:=JG (l.map cL) []
 have z:([]:List (List Int)).length=0:=rfl
 rw [AF] at this
 unfold ddT;omega
theorem qAS (l:List ql):(YA l).length≤l.length:=by unfold YA;rw [AF,(wH _).length_eq];exact qB5 l
def clt (a b:ql):Prop:=a.1 < b.1∨(a.1=b.1∧a.2 < b.2)
instance (a b:ql):Decidable (clt a b):=by unfold clt;infer_instance
theorem qJs (a b:ql):lxb (cL a) (cL b)=decide (clt a b):=by
 obtain ⟨a1,a2⟩:=a
 obtain ⟨b1,b2⟩:=b
 show (if a1 < b1 then true else if b1 < a1 then false else (if a2 < b2 then true else if b2 < a2 then false else false))=_
 by_cases h1:a1 < b1
 ·rw [AG h1];exact (Ai (.inl h1)).symm
 ·rw [AN h1]
  by_cases h2:b1 < a1
  ·rw [AG h2];exact (Ac (by unfold clt;simp;omega)).symm
  ·rw [AN h2]
   by_cases h3:a2 < b2
   ·rw [AG h3];exact (Ai (.inr ⟨by simp;omega,h3⟩)).symm
   ·rw [AN h3]
    have:(if b2 < a2 then false else false)=false:=by split <;> rfl
    rw [this]
    exact (Ac (by unfold clt;simp;omega)).symm
theorem qCM (l:List ql):(YA l).Pairwise clt:=by
 have h1:=yQ (ddT (l.map cL))
 have h2:(srt (ddT (l.map cL))).Nodup:=(wH _).nodup_iff.mpr (jQ _ _ List.nodup_nil)
 have h3:(srt (ddT (l.map cL))).Pairwise (fun a b=>lxb b a=false∧a≠b):=h1.and h2
 unfold YA
 rw [Bq]
 refine List.Pairwise.imp_of_mem ?_ h3
 intro x y hx hy ⟨p,q⟩
 obtain ⟨c,_,rfl⟩:=Al.mp (ddT_in.mp ((wH _).mem_iff.mp hx))
 obtain ⟨d,_,rfl⟩:=Al.mp (ddT_in.mp ((wH _).mem_iff.mp hy))
 rw [qCJ,qCJ]
 rw [qJs] at p
 have p:=of_decide_eq_false p
 have hne:c≠d:=fun z=>q (by rw [z])
 unfold clt at p ⊢
 have:¬ (c.1=d.1∧c.2=d.2):=fun z=>hne (Prod.ext z.1 z.2)
 omega
theorem qEx {l:List ql} {q:PV} {st:qC} (h:Wo st q=some (l.map cP)) (hl:l.length≤63):Yn q st = .ok (.lst ((YA l).map cP)) st:=by
 unfold Yn
 rw [h]
 dsimp only
 rw [qE4]
 dsimp only
 rw [AG ⟨by rw [AF];omega,by have:=qB5 l;omega⟩,qHF]
section
variable {F G:FS} {f fb fo fi2:FE} {fl:FL} {fi:FI} {fa:FA} {g:FG} {t u:FT} {r r1 r':QO} {st s1 s2 s3 s4:qC} {p q z:PV} {l m:List PV} {w:ItP} {n:Nat}
theorem qFZ (h:f r st = .ok p s1) {R:Rs PV} (h2:Yn p s1=R):JZ f r st=R:=by unfold JZ;rw [h];exact h2
theorem qGl {k:Int} (h:fo r st = .ok (.ref n) s1) (hk:lk s1 (.ref n)=true) (h2:f r s1 = .ok (.int k) s2) (h3:s2[n]? = some (.l l)) (h0:0≤k∧k < 1048576) (h4:l[k.toNat]? = some p):Yi fo f r st = .ok p (s2.set n (.l (l.eraseIdx k.toNat))):=by
 unfold Yi;rw [h];show (if lk s1 (.ref n)=true then _ else _)=_;rw [AG hk,h2]
 show (match PV.int k,s2[n]? with | .int k,some (.l xs)=>if 0≤k∧k < 1048576 then match xs[k.toNat]? with |some y=>Rs.ok y (s2.set n (.l (xs.eraseIdx k.toNat))) |none => .no else .no |_,_ => .no)=_
 rw [h3];dsimp only;rw [AG h0,h4]
theorem qJV {k x y:Int} (h:fo r st = .ok (.ref n) s1) (h2:fi2 r s1 = .ok (.int k) s2) (h3:s2[n]? = some (.l l)) (h0:0≤k) (hx:l[k.toNat]? = some (.int x)) (h4:f r s2 = .ok (.int y) s3) (h5:s3[n]? = some (.l m)) (hm:k.toNat < m.length):Je fo fi2 f r st = .nx r (s3.set n (.l (m.set k.toNat (.int (x + y))))):=by
 unfold Je;rw [h];show (fi2 r s1).bindS _=_;rw [h2];show (match qDF s2 (.ref n) (.int k) with |some x=>_ |none=>_)=_
 have hg:qDF s2 (.ref n) (.int k)=some x:=by unfold qDF;dsimp only;rw [h3];dsimp only;rw [AG h0,hx]
 rw [hg];show (f r s2).bindS _=_;rw [h4]
 show (match Wj s3 (.ref n) (.int k) (.int (x + y)) with |some s4=>RS.nx r s4 |none => .no)=_
 rw [qCS h5 (zn h0 (by omega))]
theorem qLE (h:fl r st = .ok l s1):vMk fl r st = .ok (.ref s1.length) (s1++[.l l]):=by unfold vMk;rw [h];rfl
theorem qH3 {a b:Option Int} {f1 f2:FO} (h:f r st = .ok p s1) (h1:f1 r s1 = .ok a s2) (h2:f2 r s2 = .ok b s3) (h3:asL s3 p=some l):qBm f f1 f2 r st = .ok (.lst (WU l a b)) s3:=by
 unfold qBm;rw [h];show (f1 r s1).bind _=_;rw [h1];show (f2 r s2).bind _=_;rw [h2];show (match asL s3 p with |some l=>_ |none=>_)=_;rw [h3]
theorem Y2 {i k:Nat} {cs:List Addr} {Fb Fh:FS} (h:Fb r st = .rt p s1):Yd i k cs Fb Fh r st = .rt p s1:=by unfold Yd;rw [h]
theorem yH {i k:Nat} {cs:List Addr} {Fb Fh:FS} {x:Exc} (h:Fb r st = .ex x s1) (hx:x.cls∈cs) (h2:Fh ((List.replicate k none).set i (some (.exc x.cls x.fs))) s1 = .rt p s2):Yd i k cs Fb Fh r st = .rt p s2:=by unfold Yd;rw [h];dsimp only;rw [AG hx,h2]
theorem zc {Gd:qC->Prop} {ps:List PV} (h:Gd st) (h1:g p r=some r1) (h2:F r1 st = .rt z s2):Qo Gd g F (p::ps) r st = .rt z s2:=by
 rw [Qo,AG h,h1]
 dsimp only
 rw [h2]
theorem zO {k:Int} (h:f r st = .ok (.int k) s1):wA f r st = .ok (some k) s1:=by unfold wA;rw [h];rfl
end
end EV
end
noncomputable section
namespace K53
open PySem EV
def wS:PV->Bool
 | .non=>true | .bl _=>true | .int _=>true | .str _=>true | .tup _=>true | .lst _=>true | .dct=>true |_=>false
def isInt:PV->Bool
 | .int _=>true
 |_=>false
theorem Yu {a:Ad} {v:PV} {st:qC} (h:wS v=true):zx a [v] st = .ok (.bl (isInt v)) st:=by
 cases v <;> first |rfl |cases h
def WI (lo hi:Int):PV->Bool
 | .int i=>decide (lo≤i)&&decide (i≤hi)
 |_=>false
theorem qFV {a:Ad} {v:PV} {st:qC} {lo hi:Int} (h:wS v=true):WG a [v,.int lo,.int hi] st = .ok (.bl (WI lo hi v)) st:=by
 refine WL rfl ?_
 unfold zN
 refine (yh (p := .bl (WI lo hi v)) (st':=st) ?_)
 unfold YB
 rw [wT (l:=[v]) (st':=st) rfl,Yu h]
 cases v with
 |int i =>
  show (match (PV.bl (decide (lo≤i))) with | .bl true=>Rs.ok (PV.bl (decide (i≤hi))) st | .bl false=>Rs.ok (.bl false) st |_ => .no)=_
  unfold WI
  dsimp only
  cases decide (lo≤i) <;> rfl
 |_=>rfl
theorem qBE {a:Ad} {v:PV} {st:qC} (h:wS v=true):ZF a [v] st = .ok (.bl (WI 2 5 v)) st:=by
 refine WL rfl ?_
 unfold ZI
 refine (yh (p := .bl (WI 2 5 v)) (st':=st) ?_)
 rw [wT (l:=[v,.int 2,.int 5]) (st':=st) rfl]
 exact qFV h
theorem Zb {a:Ad} {v:PV} {st:qC} (h:wS v=true):Q8 a [v] st=if WI 2 5 v=true then .ok .non st else .ex ⟨a.Z1,[]⟩ st:=by
 unfold Q8 QG
 rw [AG (show [v].length=1 from rfl)]
 unfold zT Q2 ww Qr
 rw [wT (l:=[v]) (st':=st) rfl,qBE h]
 cases hw:WI 2 5 v <;> rfl
theorem qAg {f:PV->Bool}:∀ l:List PV,wu pbl (l.map fun p => .bl (f p))=some (l.map f)
 |[]=>rfl
 |p::l=>by simp only [Ap,wu,pbl,qAg l]
theorem WO {i j:Int} {st:qC}:gEq (.int i) (.int j) st = .ok (.bl (i==j)) st:=rfl
theorem w5 {n:Nat} (h:n≤100000):n≤sizeLine:=Aa h (by decide)
def qw (L:Int):List Int:=(List.range L.toNat).map fun (i:Nat)=>(i:Int)
theorem qEy {L:Int}:J5 0 L=(qw L).map PV.int:=by
 unfold J5 qw
 rw [A0,Int.sub_zero]
 refine BN fun i _ => ?_
 show PV.int (0 + (i:Int))=PV.int i
 rw [Int.zero_add]
theorem upto_mem {L i:Int}:i∈qw L ↔ 0≤i∧i < L:=by
 unfold qw
 rw [Al]
 constructor
 ·rintro ⟨j,hj,rfl⟩;rw [BW] at hj;omega
 ·rintro ⟨h1,h2⟩;exact ⟨i.toNat,by rw [BW];omega,by omega⟩
theorem QQ {L:Int}:(qw L).length=L.toNat:=by simp [qw]
theorem YE {l:List Int} {L i:Int} (hl:l.length=L.toNat) (h0:0≤i) (h1:i < L):L2.atI (l.map PV.int) i=some (.int (l.getD i.toNat 0)):=by
 unfold L2.atI L2.ixN
 rw [AF,AG h0,AG (by omega)]
 show (l.map PV.int)[i.toNat]? = _
 have hi:i.toNat < l.length:=by omega
 rw [Ao,AE hi,AK,AE hi]
 rfl
theorem qJJ {l:List Int} {L i:Int} {st:qC} (hl:l.length=L.toNat) (h0:0≤i) (h1:i < L):gIx (.lst (l.map PV.int)) (.int i) st = .ok (.int (l.getD i.toNat 0)) st:=by
 unfold gIx
 simp only [Wo,asL,YE hl h0 h1]
theorem qBu {i j:Int} {st:qC} (h:-(2 ^ 64) < j∧j < 2 ^ 64):ZE (.int i) (.int j) st = .ok (.int (i * j)) st:=by
 unfold ZE gI
 dsimp only
 rw [AG (.inr h)]
theorem JY {i j:Int} {st:qC} (h:0 < j):Ws (.int i) (.int j) st = .ok (.int (i % j)) st:=by
 unfold Ws gI
 dsimp only
 rw [AG h]
theorem qIS {i j:Int} {st:qC} (h:0 < j) (h2:j < 1073741824):qHa (.int i) (.int j) st = .ok (.int (i / j)) st:=by
 unfold qHa gI
 dsimp only
 rw [AG ⟨h,h2⟩]
theorem qGn {i j:Int} {st:qC} (h:0 < j) (h2:j < 2 ^ 64):qCz (.int i) (.int j) st = .ok (.int (i / j)) st:=by
 unfold qCz gI;dsimp only;rw [AG ⟨h,h2⟩]
theorem QZ {a:Ad} {st j:qC} {x m:Int} (h0:0 < m) (h1:m < 2 ^ 64):qT a [.ref st.length,.int m] (st ++ .l [.int x]::j) = .ok (.int (x % m)) (st ++ .l [.int (x / m)]::j):=by
 have hs:(st++SO.l [.int x]::j)[st.length]? = some (.l [.int x]):=by simp
 have hg:gIx (.ref st.length) (.int 0) (st++SO.l [.int x]::j) = .ok (.int x) (st++SO.l [.int x]::j):=by
  unfold gIx
  simp only [Wo,asL,hs]
  rfl
 refine WL rfl ?_
 unfold Yl
 rw [Q5 (WP (p := .int (x % m)) (st':=st++SO.l [.int x]::j) (r:=Q4 3 [.ref st.length,.int m]) ?_),Q5 (r':=[some (.ref st.length),some (.int m),some (.int (x % m))]) (st':=st++SO.l [.int (x / m)]::j) ?_]
 ·rfl
 ·unfold qEO
  rw [QR (p := .int x) (q := .int m) (st':=st++SO.l [.int x]::j) (st2:=st++SO.l [.int x]::j) ?_ rfl,qGn h0 h1]
  ·show (match Wj (st++SO.l [.int x]::j) (.ref st.length) (.int 0) (.int (x / m)) with |some s4=>RS.nx _ s4 |none=>RS.no)=_
   have:Wj (st++SO.l [.int x]::j) (.ref st.length) (.int 0) (.int (x / m))=some (st++SO.l [.int (x / m)]::j):=by
    unfold Wj
    simp only [hs]
    show some ((st++SO.l [.int x]::j).set st.length (.l [.int (x / m)]))=_
    rw [BQ _ _ (AL _),Bm];rfl
   rw [this];rfl
  ·rw [QR (p := .ref st.length) (q := .int 0) rfl rfl];exact hg
 ·rw [QR (p := .int x) (q := .int m) (st':=st++SO.l [.int x]::j) (st2:=st++SO.l [.int x]::j) ?_ rfl,JY h0]
  rw [QR (p := .ref st.length) (q := .int 0) rfl rfl];exact hg
theorem qGX {a:Ad} {ns:List Int} {k:Int} {st:qC} (h0:0≤k):∃ c,zu a [.lst (ns.map PV.int),.int k] st = .ok (.int c) st:=by
 by_cases hk:k < (ns.length:Int)
 ·refine ⟨ns.getD k.toNat 0,WL rfl ?_⟩
  unfold Zx
  rw [qBY (p := .int (ns.getD k.toNat 0)) (st':=st) (r:=Q4 2 [.lst (ns.map PV.int),.int k]) ?_]
  rw [qIF (st':=st) ?_,yh (p := .int (ns.getD k.toNat 0)) (st':=st) ?_]
  ·rw [QR (p := .lst (ns.map PV.int)) (q := .int k) rfl rfl,qJJ (L:=ns.length) (by omega) h0 hk]
  ·refine jc ?_
   rw [QR (p := .int k) (q := .int ns.length) rfl ?_]
   ·show Rs.ok (PV.bl (decide (k < (ns.length:Int)))) st=_
    rw [Ai hk]
   ·rw [wT (l:=[.lst (ns.map PV.int)]) rfl]
    show Rs.ok (PV.int ((ns.map PV.int).length:Int)) st=_
    rw [AF]
 ·refine ⟨6151 * k + 29,WL rfl ?_⟩
  unfold Zx
  rw [Q5 (r':=Q4 2 [.lst (ns.map PV.int),.int k]) (st':=st) (r:=Q4 2 [.lst (ns.map PV.int),.int k]) ?_]
  ·rw [yh (p := .int (6151 * k + 29)) (st':=st) ?_]
   rw [QR (p := .int (6151 * k)) (q := .int 29) (st':=st) (st2:=st) ?_ rfl]
   ·rfl
   ·rw [QR (p := .int 6151) (q := .int k) rfl rfl]
    unfold ZE gI
    dsimp only
    rw [AG (.inl ⟨by decide,by decide⟩)]
  ·rw [qEG (st':=st) ?_]
   ·rfl
   ·refine jc ?_
    rw [QR (p := .int k) (q := .int ns.length) rfl ?_]
    ·show Rs.ok (PV.bl (decide (k < (ns.length:Int)))) st=_
     rw [Ac hk]
    ·rw [wT (l:=[.lst (ns.map PV.int)]) rfl]
     show Rs.ok (PV.int ((ns.map PV.int).length:Int)) st=_
     rw [AF]
theorem qCi {i j:Int} {st:qC} (h:-(2 ^ 64) < i∧i < 2 ^ 64):ZE (.int i) (.int j) st = .ok (.int (i * j)) st:=by
 unfold ZE gI
 dsimp only
 rw [AG (.inl h)]
theorem qAl {s:PV} {c k:Int} {st:qC}:∀ (js:List Int) (n m:Int) (x:Option PV),(∀ j∈js,0≤j∧j < 24) -> ∃ n' m' x',Qo (fun _=>True) (QY 5) YF (js.map PV.int) [some s,some (.int k),some (.int c),some (.int n),some (.int m),x] st = .nx [some s,some (.int k),some (.int c),some (.int n'),some (.int m'),x'] st
 |[],n,m,x,_=>⟨n,m,x,by rw [Ci,jn trivial]⟩
 |j::js,n,m,x,h=>by
  have hj:=h j AI
  have e:YF [some s,some (.int k),some (.int c),some (.int n),some (.int m),some (.int j)] st = .nx [some s,some (.int k),some (.int c),some (.int (n * 2147483647 + (m * 48271 + 7 * j * j + 11 * k + 1) % 2147483647)),some (.int ((m * 48271 + 7 * j * j + 11 * k + 1) % 2147483647)),some (.int j)] st:=by
   unfold YF
   rw [Q5 (WP (p := .int ((m * 48271 + 7 * j * j + 11 * k + 1) % 2147483647)) (st':=st) ?_),WP (p := .int (n * 2147483647 + (m * 48271 + 7 * j * j + 11 * k + 1) % 2147483647)) (st':=st) ?_]
   ·rfl
   ·rw [QR (p := .int (n * 2147483647)) (q := .int ((m * 48271 + 7 * j * j + 11 * k + 1) % 2147483647)) (st':=st) (st2:=st) ?_ rfl]
    ·rfl
    ·rw [QR (p := .int n) (q := .int 2147483647) rfl rfl,qBu ⟨by decide,by decide⟩]
   ·rw [QR (p := .int (m * 48271 + 7 * j * j + 11 * k + 1)) (q := .int 2147483647) (st':=st) (st2:=st) ?_ rfl,JY (by decide)]
    rw [QR (p := .int (m * 48271 + 7 * j * j + 11 * k)) (q := .int 1) (st':=st) (st2:=st) ?_ rfl]
    ·rfl
    rw [QR (p := .int (m * 48271 + 7 * j * j)) (q := .int (11 * k)) (st':=st) (st2:=st) ?_ ?_]
    ·rfl
    ·rw [QR (p := .int (m * 48271)) (q := .int (7 * j * j)) (st':=st) (st2:=st) ?_ ?_]
     ·rfl
     ·rw [QR (p := .int m) (q := .int 48271) rfl rfl,qBu ⟨by decide,by decide⟩]
     ·rw [QR (p := .int (7 * j)) (q := .int j) (st':=st) (st2:=st) ?_ rfl,qBu ⟨by omega,by omega⟩]
      rw [QR (p := .int 7) (q := .int j) rfl rfl,qCi ⟨by decide,by decide⟩]
    ·rw [QR (p := .int 11) (q := .int k) rfl rfl,qCi ⟨by decide,by decide⟩]
  obtain ⟨n',m',x',e2⟩:=qAl js _ _ (some (.int j)) fun q hq=>h q (AD _ hq)
  exact ⟨n',m',x',by rw [Ap,Yp (r1:=[some s,some (.int k),some (.int c),some (.int n),some (.int m),some (.int j)]) trivial rfl e];exact e2⟩
theorem qIq {a:Ad} {ns:List Int} {k:Int} {st:qC} (h0:0≤k):∃ x,yf a [.lst (ns.map PV.int),.int k] st = .ok (.ref st.length) (st++[.l [.int x]]):=by
 obtain ⟨c,hc⟩:=qGX (a:=a) (ns:=ns) (k:=k) (st:=st) h0
 have h1:qv 2 (qH (zu a) (qA (qB 0) (qA (qB 1) qD))) (Q4 6 [.lst (ns.map PV.int),.int k]) st = .nx [some (.lst (ns.map PV.int)),some (.int k),some (.int c),none,none,none] st:=by
  rw [WP (p := .int c) (st':=st) ?_]
  ·rfl
  ·rw [wT (l:=[.lst (ns.map PV.int),.int k]) rfl];exact hc
 have ht:∀ b:Bool,(c % 2==0)=b->vTB (qM gEq (qM Ws (qB 2) (vC (.int 2))) (vC (.int 0))) [some (.lst (ns.map PV.int)),some (.int k),some (.int c),none,none,none] st = .ok b st:=by
  intro b hb
  refine jc ?_
  rw [QR (p := .int (c % 2)) (q := .int 0) (st':=st) (st2:=st) ?_ rfl,WO,hb]
  rw [QR (p := .int c) (q := .int 2) rfl rfl,JY (by decide)]
 cases hb:(c % 2==0) with
 |true =>
  refine ⟨c / 2,WL rfl ?_⟩
  unfold yg
  rw [Q5 h1,qBY (p := .ref st.length) (st':=st++[.l [.int (c / 2)]]) ?_]
  rw [qIF (ht true hb),qCT (l:=[.int (c / 2)]) (st':=st) ?_]
  unfold Qe
  rw [QE (p := .int (c / 2)) (l:=[]) (st':=st) (st2:=st) ?_ rfl]
  ·rfl
  ·rw [QR (p := .int c) (q := .int 2) rfl rfl,qIS (by decide) (by decide)]
 |false =>
  obtain ⟨n',m',x',e⟩:=qAl (s := .lst (ns.map PV.int)) (c:=c) (k:=k) (st:=st) (qw 24) 0 (c % 2147483647) none fun j hj=>upto_mem.mp hj
  refine ⟨n',WL rfl ?_⟩
  unfold yg
  rw [Q5 h1,Q5 (r':=[some (.lst (ns.map PV.int)),some (.int k),some (.int c),none,none,none]) (st':=st) (by rw [qEG (ht false hb)];rfl),Q5 (WP (p := .int 0) (st':=st) rfl),Q5 (WP (p := .int (c % 2147483647)) (st':=st) ?_),Q5 (r':=[some (.lst (ns.map PV.int)),some (.int k),some (.int c),some (.int n'),some (.int m'),x']) (st':=st) ?_,qCT (l:=[.int n']) (st':=st) rfl]
  ·rw [qEF (w:=⟨(qw 24).map PV.int,fun _=>True⟩) (st':=st) rfl]
   exact e
  ·rw [QR (p := .int c) (q := .int 2147483647) rfl rfl,JY (by decide)]
section
variable {F G:FS} {f fb:FE} {fl:FL} {t u:FT} {r:QO} {st st' st2:qC} {p q:PV} {l m:List PV}
theorem yR {fa:FA} (h:fa r st = .ok l st') (hl:l.length≤sizeLine):Qe fa r st = .ok l st':=by unfold Qe;rw [h];show (if l.length≤sizeLine then _ else _)=_;rw [AG hl]
theorem j9 (h:f r st = .ok p st') (h2:fb r st' = .ok q st2) (e1:asL st2 p=some l) (e2:asL st2 q=some m) (hl:l.length + m.length≤sizeLine):zD f fb r st = .ok (l++m) st2:=by
 unfold zD;rw [h];show (fb r st').bind _=_;rw [h2];show (match asL st2 p with |some l=>_ |none=>_)=_;rw [e1];dsimp only;rw [e2];dsimp only;rw [AG hl]
theorem qJ3 {b:Bool} (h:t r st = .ok false st') (h2:u r st' = .ok b st2):ZV t u r st = .ok b st2:=by unfold ZV;rw [h];exact h2
end
theorem Qy {a:Ad} {x d:Addr} {fs:List (Str×Int)} {st:qC} {r:QO} {b:Bool} (h0:r[0]? = some (some (.exc x fs))) (hx:x∈Qt a) (hd:d∈a.kinds) (hb:(x==d)=b):qH (Qg (kit a)) (qA (qB 0) (qA (vC (.fn d)) qD)) r st = .ok (.bl b) st:=by
 rw [wT (l:=[.exc x fs,.fn d]) (st':=st) (by unfold qA qB;rw [h0];rfl)]
 show (match (if x∈Qt a∧d∈a.kinds then some (x==d) else none) with |some b=>Rs.ok (PV.bl b) st |none => .no)=_
 rw [AG ⟨hx,hd⟩,hb]
theorem qFL {a:Ad} {x:Addr} {fs:List (Str×Int)} {st:qC} {r:QO} (h0:r[0]? = some (some (.exc x fs))) (hx:x∈Qt a):qH (Qg (kit a)) (qA (qB 0) (qA (vC (.ty "ValueError")) qD)) r st = .ok (.bl true) st:=by
 rw [wT (l:=[.exc x fs,.ty "ValueError"]) (st':=st) (by unfold qA qB;rw [h0];rfl)]
 show (match (if x∈Qt a ∧ "ValueError" = "ValueError" then some true else none) with |some b=>Rs.ok (PV.bl b) st |none => .no)=_
 rw [AG ⟨hx,rfl⟩]
theorem jq (a:Ad):a.Z1∈a.kinds∧a.Z2∈a.kinds∧a.Z3∈a.kinds∧a.Z4∈a.kinds∧a.Z5∈a.kinds∧a.Z6∈a.kinds∧a.Z7∈a.kinds∧a.Z8∈a.kinds∧a.Z9∈a.kinds∧a.Z10∈a.kinds∧a.Z11∈a.kinds:=by
 unfold Ad.kinds;simp
theorem qA5 {bs:List PV} {F:PV->PV} {st:qC} {r:QO} (h1:r[1]? = some (some (.lst bs))) (hl:bs.length≤11) (hb:∀ p∈bs,∃ b,p = .bl b) (hF:∀ b,F (.bl b) = .int (if b then 1 else 0)) :
  vFz (qc [] 1 (QA (qB 1)) (qy 0) [] [] (qH qEg (qA (qB 0) qD))) r st = .ok (.lst (bs.map F)) st:=by
 refine ZB ?_
 rw [QX (w:=⟨bs,fun _=>True⟩) (F:=F) (by unfold QA qB;rw [h1];rfl) trivial (w5 (by show bs.length≤100000;omega)) fun p hp => ?_]
 obtain ⟨b,rfl⟩:=hb p hp
 refine ⟨[some (.bl b)],rfl,?_⟩
 rw [hF];cases b <;> rfl
def bit:PV->PV
 | .bl b => .int (if b then 1 else 0)
 |p=>p
theorem qAA {a:Ad} (hd:Dist a) {st:qC} {fs:List (Str×Int)}:WT a [.exc a.Z1 fs] st = .ok (.str "! length") st:=by
 have nd:=hd.nd
 unfold Ad.kinds at nd
 simp only [BM,AJ,AY,not_or,Bi] at nd
 obtain ⟨⟨n0_1,n0_2,n0_3,n0_4,n0_5,n0_6,n0_7,n0_8,n0_9,n0_10⟩,⟨n1_2,n1_3,n1_4,n1_5,n1_6,n1_7,n1_8,n1_9,n1_10⟩,⟨n2_3,n2_4,n2_5,n2_6,n2_7,n2_8,n2_9,n2_10⟩,⟨n3_4,n3_5,n3_6,n3_7,n3_8,n3_9,n3_10⟩,⟨n4_5,n4_6,n4_7,n4_8,n4_9,n4_10⟩,⟨n5_6,n5_7,n5_8,n5_9,n5_10⟩,⟨n6_7,n6_8,n6_9,n6_10⟩,⟨n7_8,n7_9,n7_10⟩,⟨n8_9,n8_10⟩,n9_10,_⟩:=nd
 obtain ⟨m0,m1,m2,m3,m4,m5,m6,m7,m8,m9,m10⟩:=jq a
 have hx:a.Z1∈Qt a:=by unfold Qt;simp
 refine WL rfl ?_
 unfold Zf
 rw [Q5 (WP (p := .lst [.bl true,.bl false,.bl false,.bl false]) (st':=st) (r:=Q4 3 [.exc a.Z1 fs]) (ZB (yR (QE (Qy rfl hx m0 (At _)) (QE (Qy rfl hx m1 (AH.mpr n0_1)) (QE (Qy rfl hx m2 (AH.mpr n0_2)) (QE (Qy rfl hx m3 (AH.mpr n0_3)) rfl)))) (by decide)))),
  Q5 (WP (p := .lst [.bl true,.bl false,.bl false,.bl false,.bl false,.bl false,.bl false,.bl false]) (st':=st) (ZB (j9 (l:=[.bl true,.bl false,.bl false,.bl false]) (p := .lst [.bl true,.bl false,.bl false,.bl false]) (st':=st) rfl (ZB (yR (QE (Qy rfl hx m4 (AH.mpr n0_4)) (QE (Qy rfl hx m5 (AH.mpr n0_5)) (QE (Qy rfl hx m6 (AH.mpr n0_6)) (QE (Qy rfl hx m7 (AH.mpr n0_7)) rfl)))) (by decide))) rfl rfl (by decide)))),
  Q5 (WP (p := .lst [.bl true,.bl false,.bl false,.bl false,.bl false,.bl false,.bl false,.bl false,.bl false,.bl false,.bl false]) (st':=st) (ZB (j9 (l:=[.bl true,.bl false,.bl false,.bl false,.bl false,.bl false,.bl false,.bl false]) (p := .lst [.bl true,.bl false,.bl false,.bl false,.bl false,.bl false,.bl false,.bl false]) (st':=st) rfl (ZB (yR (QE (Qy rfl hx m8 (AH.mpr n0_8)) (QE (Qy rfl hx m9 (AH.mpr n0_9)) (QE (Qy rfl hx m10 (AH.mpr n0_10)) rfl))) (by decide))) rfl rfl (by decide))))]
 rw [Q5 (r':=[some (.exc a.Z1 fs),some (.lst [.bl true,.bl false,.bl false,.bl false,.bl false,.bl false,.bl false,.bl false,.bl false,.bl false,.bl false]),none]) (st':=st) ?_,Q5 (F:=qv 2 _) (r':=[some (.exc a.Z1 fs),some (.lst [.bl true,.bl false,.bl false,.bl false,.bl false,.bl false,.bl false,.bl false,.bl false,.bl false,.bl false]),some (.lst [.str "length",.str "number",.str "bars",.str "box",.str "weights",.str "sorts",.str "turn",.str "place",.str "text",.str "row",.str "many"])]) (st':=st) rfl]
 ·rfl
 ·show Q2 _ _ _ [some (.exc a.Z1 fs),some (.lst [.bl true,.bl false,.bl false,.bl false,.bl false,.bl false,.bl false,.bl false,.bl false,.bl false,.bl false]),none] st=_
  rw [qEG (st':=st) (qJ3 (st':=st) (qBn (b:=true) (yc (qFL rfl hx))) (jc ?_))]
  ·rfl
  ·rw [QR (p := .int 1) (q := .int 1) (st':=st) (st2:=st) ?_ rfl]
   ·rfl
   ·rw [wT (l:=[.lst [.int 1,.int 0,.int 0,.int 0,.int 0,.int 0,.int 0,.int 0,.int 0,.int 0,.int 0]]) (st':=st) (QE (st':=st) (qA5 (F:=bit) (bs:=[.bl true,.bl false,.bl false,.bl false,.bl false,.bl false,.bl false,.bl false,.bl false,.bl false,.bl false]) rfl (by decide) (by simp) fun b=>rfl) rfl)]
    rfl
theorem JM {a:Ad} (hd:Dist a) {st:qC} {fs:List (Str×Int)}:WT a [.exc a.Z5 fs] st = .ok (.str "! weights") st:=by
 have nd:=hd.nd
 unfold Ad.kinds at nd
 simp only [BM,AJ,AY,not_or,Bi] at nd
 obtain ⟨⟨n0_1,n0_2,n0_3,n0_4,n0_5,n0_6,n0_7,n0_8,n0_9,n0_10⟩,⟨n1_2,n1_3,n1_4,n1_5,n1_6,n1_7,n1_8,n1_9,n1_10⟩,⟨n2_3,n2_4,n2_5,n2_6,n2_7,n2_8,n2_9,n2_10⟩,⟨n3_4,n3_5,n3_6,n3_7,n3_8,n3_9,n3_10⟩,⟨n4_5,n4_6,n4_7,n4_8,n4_9,n4_10⟩,⟨n5_6,n5_7,n5_8,n5_9,n5_10⟩,⟨n6_7,n6_8,n6_9,n6_10⟩,⟨n7_8,n7_9,n7_10⟩,⟨n8_9,n8_10⟩,n9_10,_⟩:=nd
 obtain ⟨m0,m1,m2,m3,m4,m5,m6,m7,m8,m9,m10⟩:=jq a
 have hx:a.Z5∈Qt a:=by unfold Qt;simp
 refine WL rfl ?_
 unfold Zf
 rw [Q5 (WP (p := .lst [.bl false,.bl false,.bl false,.bl false]) (st':=st) (r:=Q4 3 [.exc a.Z5 fs]) (ZB (yR (QE (Qy rfl hx m0 (AH.mpr (Ne.symm n0_4))) (QE (Qy rfl hx m1 (AH.mpr (Ne.symm n1_4))) (QE (Qy rfl hx m2 (AH.mpr (Ne.symm n2_4))) (QE (Qy rfl hx m3 (AH.mpr (Ne.symm n3_4))) rfl)))) (by decide)))),
  Q5 (WP (p := .lst [.bl false,.bl false,.bl false,.bl false,.bl true,.bl false,.bl false,.bl false]) (st':=st) (ZB (j9 (l:=[.bl false,.bl false,.bl false,.bl false]) (p := .lst [.bl false,.bl false,.bl false,.bl false]) (st':=st) rfl (ZB (yR (QE (Qy rfl hx m4 (At _)) (QE (Qy rfl hx m5 (AH.mpr n4_5)) (QE (Qy rfl hx m6 (AH.mpr n4_6)) (QE (Qy rfl hx m7 (AH.mpr n4_7)) rfl)))) (by decide))) rfl rfl (by decide)))),
  Q5 (WP (p := .lst [.bl false,.bl false,.bl false,.bl false,.bl true,.bl false,.bl false,.bl false,.bl false,.bl false,.bl false]) (st':=st) (ZB (j9 (l:=[.bl false,.bl false,.bl false,.bl false,.bl true,.bl false,.bl false,.bl false]) (p := .lst [.bl false,.bl false,.bl false,.bl false,.bl true,.bl false,.bl false,.bl false]) (st':=st) rfl (ZB (yR (QE (Qy rfl hx m8 (AH.mpr n4_8)) (QE (Qy rfl hx m9 (AH.mpr n4_9)) (QE (Qy rfl hx m10 (AH.mpr n4_10)) rfl))) (by decide))) rfl rfl (by decide))))]
 rw [Q5 (r':=[some (.exc a.Z5 fs),some (.lst [.bl false,.bl false,.bl false,.bl false,.bl true,.bl false,.bl false,.bl false,.bl false,.bl false,.bl false]),none]) (st':=st) ?_,Q5 (F:=qv 2 _) (r':=[some (.exc a.Z5 fs),some (.lst [.bl false,.bl false,.bl false,.bl false,.bl true,.bl false,.bl false,.bl false,.bl false,.bl false,.bl false]),some (.lst [.str "length",.str "number",.str "bars",.str "box",.str "weights",.str "sorts",.str "turn",.str "place",.str "text",.str "row",.str "many"])]) (st':=st) rfl]
 ·rfl
 ·show Q2 _ _ _ [some (.exc a.Z5 fs),some (.lst [.bl false,.bl false,.bl false,.bl false,.bl true,.bl false,.bl false,.bl false,.bl false,.bl false,.bl false]),none] st=_
  rw [qEG (st':=st) (qJ3 (st':=st) (qBn (b:=true) (yc (qFL rfl hx))) (jc ?_))]
  ·rfl
  ·rw [QR (p := .int 1) (q := .int 1) (st':=st) (st2:=st) ?_ rfl]
   ·rfl
   ·rw [wT (l:=[.lst [.int 0,.int 0,.int 0,.int 0,.int 1,.int 0,.int 0,.int 0,.int 0,.int 0,.int 0]]) (st':=st) (QE (st':=st) (qA5 (F:=bit) (bs:=[.bl false,.bl false,.bl false,.bl false,.bl true,.bl false,.bl false,.bl false,.bl false,.bl false,.bl false]) rfl (by decide) (by simp) fun b=>rfl) rfl)]
    rfl
theorem qA2 {x:Int}:x % 10=0∨x % 10=1∨x % 10=2∨x % 10=3∨x % 10=4∨x % 10=5∨x % 10=6∨x % 10=7∨x % 10=8∨x % 10=9:=by omega
theorem JN {a:Ad} {st j:qC} {x:Int}:∃ v,wS v=true∧WI 2 5 v=false∧wk a [.ref st.length] (st ++ .l [.int x]::j) = .ok v (st ++ .l [.int (x / 10)]::j):=by
 have e:∀ v,gIx (.lst [.int 1,.int 6,.int 0,.int (-2),.bl true,.non,.str "3",.tup [.int 2],.lst [.int 3],.int (10 ^ 39)]) (.int (x % 10)) (st ++ .l [.int (x / 10)]::j) = .ok v (st ++ .l [.int (x / 10)]::j)->wk a [.ref st.length] (st ++ .l [.int x]::j) = .ok v (st ++ .l [.int (x / 10)]::j):=by
  intro v hv
  refine WL rfl ?_
  unfold ZA
  rw [yh (p:=v) (st':=st ++ .l [.int (x / 10)]::j) ?_]
  rw [QR (p := .lst [.int 1,.int 6,.int 0,.int (-2),.bl true,.non,.str "3",.tup [.int 2],.lst [.int 3],.int (10 ^ 39)]) (q := .int (x % 10)) (st':=st ++ .l [.int x]::j) (st2:=st ++ .l [.int (x / 10)]::j) rfl ?_]
  ·exact hv
  ·rw [wT (l:=[.ref st.length,.int 10]) (st':=st ++ .l [.int x]::j) rfl]
   exact QZ (by decide) (by decide)
 rcases qA2 (x:=x) with h |h |h |h |h |h |h |h |h |h <;> rw [h] at e
 ·exact ⟨_,rfl,rfl,e (.int 1) rfl⟩
 ·exact ⟨_,rfl,rfl,e (.int 6) rfl⟩
 ·exact ⟨_,rfl,rfl,e (.int 0) rfl⟩
 ·exact ⟨_,rfl,rfl,e (.int (-2)) rfl⟩
 ·exact ⟨_,rfl,rfl,e (.bl true) rfl⟩
 ·exact ⟨_,rfl,rfl,e .non rfl⟩
 ·exact ⟨_,rfl,rfl,e (.str "3") rfl⟩
 ·exact ⟨_,rfl,rfl,e (.tup [.int 2]) rfl⟩
 ·exact ⟨_,rfl,rfl,e (.lst [.int 3]) rfl⟩
 ·exact ⟨_,rfl,rfl,e (.int (10 ^ 39)) rfl⟩
theorem itN {L:Int} {r:QO} {st s1:qC} {f:FA} (h1:0≤L) (h2:L≤1000) (hf:f r st = .ok [.int L] s1):(QM f) r st = .ok ⟨(qw L).map PV.int,fun _=>True⟩ s1:=by
 unfold QM
 rw [hf]
 show JT [.int L] s1=_
 unfold JT
 dsimp only
 rw [AG (by omega),qEy]
theorem Qm {x m:Int} (h:0 < m):0≤x % m∧x % m < m:=⟨Int.emod_nonneg _ (by omega),Int.emod_lt_of_pos _ h⟩
def yS (r c w L:Int):List ql:=(qw L).map fun k=>if w=0 then (r,c + k) else (r + k,c)
theorem qGb {r c w L:Int}:(yS r c w L).length=L.toNat:=by unfold yS;rw [AF,QQ]
theorem qEu {a:Ad} {r c w L:Int} {st:qC} (h1:0≤L) (h2:L≤1000):ZP a [.tup [.int r,.int c,.int w],.int L] st = .ok (.lst ((yS r c w L).map cP)) st:=by
 refine QK rfl ?_
 unfold yp
 refine qW (qFI (r1:=[some (.tup [.int r,.int c,.int w]),some (.int L),some (.int r),some (.int c),some (.int w)]) rfl rfl) ?_
 have hl:(qw L).length≤sizeLine:=by rw [QQ];exact w5 (by omega)
 by_cases hw:w=0
 ·subst hw
  let F:PV->PV:=fun p=>match p with | .int k=>cP (r,c + k) |_ => .non
  have e:(yS r c 0 L).map cP=((qw L).map PV.int).map F:=by
   unfold yS
   rw [A0,A0]
   exact BN fun k _=>by show cP (if (0:Int)=0 then (r,c + k) else (r + k,c))=_;rw [AG rfl];rfl
  rw [e]
  refine qt (qo (Qw (qR (p := .int 0) (q := .int 0) rfl rfl (by rw [WO,At]))) (qk (wG (QX (F:=F) (itN h1 h2 rfl) trivial (by rw [AF];exact hl) fun p hp => ?_))))
  obtain ⟨k,_,rfl⟩:=Al.mp hp
  exact ⟨[some (.int r),some (.int c),some (.int k)],rfl,zz (qN rfl (qN (qR rfl rfl W4) qe)) (sz rfl)⟩
 ·let F:PV->PV:=fun p=>match p with | .int k=>cP (r + k,c) |_ => .non
  have e:(yS r c w L).map cP=((qw L).map PV.int).map F:=by
   unfold yS
   rw [A0,A0]
   exact BN fun k _=>by show cP (if w=0 then (r,c + k) else (r + k,c))=_;rw [AN hw];rfl
  rw [e]
  refine qW (qz (Qw (qR (p := .int w) (q := .int 0) rfl rfl (by rw [WO,AH.mpr hw]))) rfl) (qk (wG (QX (F:=F) (itN h1 h2 rfl) trivial (by rw [AF];exact hl) fun p hp => ?_)))
  obtain ⟨k,_,rfl⟩:=Al.mp hp
  exact ⟨[some (.int c),some (.int r),some (.int k)],rfl,zz (qN (qR rfl rfl W4) (qN rfl qe)) (sz rfl)⟩
theorem Jv {d:ql->Bool} {l:List ql} {c:PV->Bool} (h:∀ x∈l,c (cP x)=d x):(l.map cP).filter c=(l.filter d).map cP:=by
 induction l with
 |nil=>rfl
 |cons x l ih =>
  rw [Ap,Bv,Bv,h x AI,ih fun y hy=>h y (AD _ hy)]
  cases d x <;> rfl
def unC:PV->ql
 | .tup [.int x,.int y]=>(x,y)
 |_=>(0,0)
theorem qG4 {st j:qC} {b:SO} {i:Nat} {o:SO} (h:j[i]? = some o):(st++b::j)[st.length + 1 + i]? = some o:=by
 rw [Af (by omega),show st.length + 1 + i - st.length=i + 1 by omega,List.getElem?_cons_succ];exact h
def In8 (c:ql):Prop:=0≤c.1∧c.1≤7∧0≤c.2∧c.2≤7
theorem qFa {a:Ad} {st j:qC} {x L:Int} {i:Nat} {fd:List ql} {x3 x4 x5 x6 x7:Option PV} (hL1:2≤L) (hL2:L≤5) (hj:j[i]? = some (.l (fd.map cP))) (hf:fd.length≤40) (hb:∀ c∈fd,In8 c) :
  ∃ (y:Int) (g:qC) (i':Nat) (fd':List ql) (y4 y5 y6 y7:Option PV),(j++g)[i']? = some (.l (fd'.map cP))∧(i'=i∨i'=j.length)∧fd'.length≤40∧fd'≠[]∧(∀ c∈fd',In8 c) ∧
   yE a [some (.ref st.length),some (.int L),some (.ref (st.length + 1 + i)),x3,x4,x5,x6,x7] (st ++ .l [.int x]::j) = .nx [some (.ref st.length),some (.int L),some (.ref (st.length + 1 + i')),x3,y4,y5,y6,y7] (st ++ .l [.int y]::(j++g)):=by
 have t1:=QZ (a:=a) (st:=st) (j:=j) (x:=x) (m:=2) (by decide) (by decide)
 have hw:=Qm (x:=x) (m:=2) (by decide)
 generalize hwe:x % 2=w at t1 hw
 have hm:∃ m1 m2:Int,0 < m1∧m1 < 10∧0 < m2∧m2 < 10∧((w=0∧m1≤8∧m2≤9 - L)∨(w≠0∧m1≤9 - L∧m2≤8))∧(∀ s,qM zU (vC (.int 9)) (qM gIx (vFz (Qe (qA (vC (.int 1)) (qA (qB 1) qD)))) (qB 4)) [some (.ref st.length),some (.int L),some (.ref (st.length + 1 + i)),x3,some (.int w),x5,x6,x7] s = .ok (.int m1) s) ∧ ∀ s,qM zU (vC (.int 9)) (qM gIx (vFz (Qe (qA (qB 1) (qA (vC (.int 1)) qD)))) (qB 4)) [some (.ref st.length),some (.int L),some (.ref (st.length + 1 + i)),x3,some (.int w),x5,x6,x7] s = .ok (.int m2) s:=by
  have:w=0∨w=1:=by omega
  rcases this with rfl |rfl
  ·exact ⟨9 - 1,9 - L,by decide,by decide,by omega,by omega,.inl ⟨rfl,by omega,by omega⟩,fun s=>rfl,fun s=>rfl⟩
  ·exact ⟨9 - L,9 - 1,by omega,by omega,by decide,by decide,.inr ⟨by decide,by omega,by omega⟩,fun s=>rfl,fun s=>rfl⟩
 obtain ⟨m1,m2,hm1,hm1',hm2,hm2',hmw,e1,e2⟩:=hm
 have hrow:=Qm (x:=x / 2) hm1
 have hcol:=Qm (x:=x / 2 / m1) hm2
 have t2:=QZ (a:=a) (st:=st) (j:=j) (x:=x / 2) (m:=m1) hm1 (by omega)
 have t3:=QZ (a:=a) (st:=st) (j:=j) (x:=x / 2 / m1) (m:=m2) hm2 (by omega)
 generalize x / 2 % m1=row at t2 hrow
 generalize x / 2 / m1 % m2=col at t3 hcol
 generalize x / 2 / m1 / m2=y at t3
 have hS:(st++SO.l [.int y]::j)[st.length + 1 + i]? = some (.l (fd.map cP)):=qG4 hj
 have hcl:(yS row col w L).length=L.toNat:=qGb
 let C:List ql:=yS row col w L
 have hCb:∀ c∈C,In8 c:=fun c hc=>by
  obtain ⟨k,hk,rfl⟩:=Al.mp (show c∈yS row col w L from hc)
  have:=upto_mem.mp hk
  unfold In8
  by_cases h0:w=0
  ·rw [AG h0];dsimp only;omega
  ·rw [AN h0];dsimp only;omega
 have hd:qc [2] 1 (QA (qB 7)) (qy 1) [(vTB (qM (gIn false) (qB 1) (qB 0)))] [] (qB 1) [some (.ref st.length),some (.int L),some (.ref (st.length + 1 + i)),x3,some (.int w),some (.int row),some (.int col),some (.lst (C.map cP))] (st ++ .l [.int y]::j) = .ok ((C.filter fun c=>decide (c∈fd)).map cP) (st ++ .l [.int y]::j):=by
  rw [Wr (w:=⟨C.map cP,fun _=>True⟩) (c:=fun p=>decide (unC p∈fd)) (Zz rfl) trivial (by rw [AF];show (yS row col w L).length≤_;rw [hcl];exact w5 (by omega)) fun p hp => ?_]
  ·rw [Jv (d:=fun c=>decide (c∈fd)) fun x _=>rfl]
  ·obtain ⟨c,_,rfl⟩:=Al.mp hp
   exact ⟨[some (.ref (st.length + 1 + i)),some (cP c)],rfl,Qw (qR rfl rfl (qLB (Z8 hS))),rfl⟩
 have pre:∀ {o:RS},(Q2 (Zc (vTB (qM gEq (vFz (qc [2] 1 (QA (qB 7)) (qy 1) [(vTB (qM (gIn false) (qB 1) (qB 0)))] [] (qB 1))) (vFz (Qe qD)))) (vTB (qM gLe (qM Qf (qH WH (qA (qB 2) qD)) (qB 1)) (vC (.int 40))))) (WQ 2 (zD (qB 2) (qB 7))) Qq) [some (.ref st.length),some (.int L),some (.ref (st.length + 1 + i)),x3,some (.int w),some (.int row),some (.int col),some (.lst (C.map cP))] (st ++ .l [.int y]::j)=o ->
   yE a [some (.ref st.length),some (.int L),some (.ref (st.length + 1 + i)),x3,x4,x5,x6,x7] (st ++ .l [.int x]::j)=o:=fun {o} h=>by
  unfold yE
  refine qW (Ql (p := .int w) (qI (l:=[.ref st.length,.int 2]) rfl t1)) ?_
  refine qW (qHs (p := .int row) (q := .int col) (qN (qI (l:=[.ref st.length,.int m1]) (qN rfl (qN (e1 _) qe)) t2) (qN (qI (l:=[.ref st.length,.int m2]) (qN rfl (qN (e2 _) qe)) t3) qe))) ?_
  exact qW (Ql (p := .lst (C.map cP)) (qI (l:=[.tup [.int row,.int col,.int w],.int L]) rfl (qEu (by omega) (by omega)))) h
 have hE:vTB (qM gEq (vFz (qc [2] 1 (QA (qB 7)) (qy 1) [(vTB (qM (gIn false) (qB 1) (qB 0)))] [] (qB 1))) (vFz (Qe qD))) [some (.ref st.length),some (.int L),some (.ref (st.length + 1 + i)),x3,some (.int w),some (.int row),some (.int col),some (.lst (C.map cP))] (st ++ .l [.int y]::j) = .ok (C.filter fun c=>decide (c∈fd)).isEmpty (st ++ .l [.int y]::j) :=
  Qw (qR (wG hd) rfl eq_nil)
 have hL40:vTB (qM gLe (qM Qf (qH WH (qA (qB 2) qD)) (qB 1)) (vC (.int 40))) [some (.ref st.length),some (.int L),some (.ref (st.length + 1 + i)),x3,some (.int w),some (.int row),some (.int col),some (.lst (C.map cP))] (st ++ .l [.int y]::j) = .ok (decide ((fd.length:Int) + L≤40)) (st ++ .l [.int y]::j) :=
  Qw (qR (qR (qI (qN rfl qe) (za (Z8 hS) (by rw [AF]))) rfl W4) rfl qIN)
 by_cases hc:(C.filter fun c=>decide (c∈fd)).isEmpty=true∧(fd.length:Int) + L≤40
 ·rw [hc.1] at hE
  rw [Ai hc.2] at hL40
  refine ⟨y,[.l ((fd++C).map cP)],j.length,fd++C,some (.int w),some (.int row),some (.int col),some (.lst (C.map cP)),by simp,.inr rfl,?_,?_,fun c hc=>(Ar.mp hc).elim (hb c) (hCb c),pre ?_⟩
  ·rw [AO];show fd.length + (yS row col w L).length≤40;rw [hcl];omega
  ·intro z
   have z1:=CH List.length z
   rw [AO,Bn] at z1
   have z2:C.length=L.toNat:=hcl
   omega
  ·refine qo (Jh hE hL40) ?_
   have hcat:zD (qB 2) (qB 7) [some (.ref st.length),some (.int L),some (.ref (st.length + 1 + i)),x3,some (.int w),some (.int row),some (.int col),some (.lst (C.map cP))] (st ++ .l [.int y]::j) = .ok ((fd++C).map cP) (st ++ .l [.int y]::j):=by
    rw [yw (l:=fd.map cP) (m:=C.map cP) rfl rfl (qBO hS) rfl (by rw [AF,AF];show fd.length + (yS row col w L).length≤_;rw [hcl];exact w5 (by omega)),BX]
   rw [Zy hcat]
   have e1:(st++SO.l [.int y]::j).length=st.length + 1 + j.length:=by simp;omega
   rw [e1,Ab]
   rfl
 ·refine ⟨y,[],i,fd,some (.int w),some (.int row),some (.int col),some (.lst (C.map cP)),by rw [A6];exact hj,.inl rfl,hf,?_,hb,pre ?_⟩
  ·intro z
   subst z
   refine hc ⟨?_,by show (0:Int) + L≤40;omega⟩
   rw [List.isEmpty_iff,List.filter_eq_nil_iff]
   intro c _
   simp
  ·rw [A6]
   by_cases h1:(C.filter fun c=>decide (c∈fd)).isEmpty=true
   ·rw [h1] at hE
    rw [Ac (fun z=>hc ⟨h1,z⟩)] at hL40
    exact qz (Jh hE hL40) rfl
   ·rw [show (C.filter fun c=>decide (c∈fd)).isEmpty=false by cases h:(C.filter fun c=>decide (c∈fd)).isEmpty with |true=>exact absurd h h1 |false=>rfl] at hE
    exact qz (qC3 hE) rfl
theorem Jr {a:Ad} {st:qC} {L:Int} (hL1:2≤L) (hL2:L≤5):∀ (n0:Nat) (ks:List PV) (x:Int) (j:qC) (i:Nat) (fd:List ql) (x3 x4 x5 x6 x7:Option PV),j[i]? = some (.l (fd.map cP))->n0≤i->fd.length≤40->(∀ c∈fd,In8 c)->(ks≠[]∨fd≠[]) ->
  ∃ (y:Int) (g:qC) (i':Nat) (fd':List ql) (y3 y4 y5 y6 y7:Option PV),(j++g)[i']? = some (.l (fd'.map cP))∧n0≤i'∧fd'.length≤40∧fd'≠[]∧(∀ c∈fd',In8 c) ∧
   Qo (fun _=>True) (QY 3) (yE a) ks [some (.ref st.length),some (.int L),some (.ref (st.length + 1 + i)),x3,x4,x5,x6,x7] (st ++ .l [.int x]::j) = .nx [some (.ref st.length),some (.int L),some (.ref (st.length + 1 + i')),y3,y4,y5,y6,y7] (st ++ .l [.int y]::(j++g))
 |n0,[],x,j,i,fd,x3,x4,x5,x6,x7,hj,hi,hf,hb,h=>⟨x,[],i,fd,x3,x4,x5,x6,x7,by rw [A6];exact hj,hi,hf,h.resolve_left (fun z=>z rfl),hb,by rw [A6];exact Qa trivial⟩
 |n0,k::ks,x,j,i,fd,x3,x4,x5,x6,x7,hj,hi,hf,hb,h=>by
  obtain ⟨y,g,i1,fd1,y4,y5,y6,y7,h1,hi1,h2,h3,hb1,h4⟩:=qFa (a:=a) (st:=st) (j:=j) (x:=x) (x3:=some k) (x4:=x4) (x5:=x5) (x6:=x6) (x7:=x7) hL1 hL2 hj hf hb
  obtain ⟨z,g2,i2,fd2,z3,z4,z5,z6,z7,q1,qi,q2,q3,qb,q4⟩:=Jr (a:=a) hL1 hL2 n0 ks y (j++g) i1 fd1 (some k) y4 y5 y6 y7 h1 (by have:=(AQ.mp hj).1;omega) h2 hb1 (.inr h3)
  refine ⟨z,g++g2,i2,fd2,z3,z4,z5,z6,z7,by rw [← Ab];exact q1,qi,q2,q3,qb,?_⟩
  rw [← Ab]
  exact WY trivial rfl h4 q4
theorem qBI {a:Ad} {st j:qC} {x L:Int} (hL1:2≤L) (hL2:L≤5):∃ (y:Int) (g:qC) (i:Nat) (fd:List ql),(j++g)[i]? = some (.l (fd.map cP))∧j.length≤i∧fd.length≤40∧fd≠[]∧(∀ c∈fd,In8 c) ∧
  ya a [.ref st.length,.int L] (st ++ .l [.int x]::j) = .ok (.ref (st.length + 1 + i)) (st ++ .l [.int y]::(j++g)):=by
 have hn:=Qm (x:=x) (m:=8) (by decide)
 have t1:=QZ (a:=a) (st:=st) (j:=j++[.l []]) (x:=x) (m:=8) (by decide) (by decide)
 obtain ⟨y,g,i,fd,y3,y4,y5,y6,y7,h1,hi,h2,h3,hb,h4⟩:=Jr (a:=a) (st:=st) hL1 hL2 j.length ((qw (1 + x % 8)).map PV.int) (x / 8) (j++[.l []]) j.length [] none none none none none (by simp) (AL _) (BJ _) (fun c hc=>(AY hc).elim) (.inl (fun z=>by
  have:=CH List.length z
  rw [AF,QQ] at this
  simp at this;omega))
 refine ⟨y,[.l []]++g,i,fd,by rw [← Ab];exact h1,hi,h2,h3,hb,QK rfl ?_⟩
 unfold jw
 have e1:(st++SO.l [.int x]::j).length=st.length + 1 + j.length:=by simp;omega
 have e2:st++SO.l [.int x]::j++[SO.l []]=st++SO.l [.int x]::(j++[.l []]):=by rw [Ab];rfl
 refine qW (r':=[some (.ref st.length),some (.int L),some (.ref (st.length + 1 + j.length)),none,none,none,none,none]) (s1:=st++SO.l [.int x]::(j++[.l []])) ?_ ?_
 ·rw [Zy (l:=[]) (s1:=st ++ .l [.int x]::j) rfl,e1,e2];rfl
 rw [← Ab j]
 exact qW (WM (itN (L:=1 + x % 8) (by omega) (by omega) (qN (qR rfl (qI (l:=[.ref st.length,.int 8]) rfl t1) W4) qe)) h4) (qk rfl)
theorem qHh {l:List ql} {n:Nat} (hn:n≤1000):WU (l.map cP) none (some (n:Int))=(l.take n).map cP:=by
 have h1:HT.sIx (l.map cP).length 0 none=0:=rfl
 have h2:HT.sIx (l.map cP).length (l.map cP).length (some (n:Int))=min n (l.map cP).length:=HT.sIx_nat _ _ _
 unfold WU
 rw [h1,h2,List.drop_zero,Nat.sub_zero,List.map_take]
 by_cases h:n≤(l.map cP).length
 ·rw [Nat.min_eq_left h]
 ·rw [Nat.min_eq_right (by omega),CT,List.take_of_length_le (by omega)]
theorem qF2 {fi:FI} {g:FG} {t:FT} {f:FE} {r r':QO} {st s1 s2:qC} {p q:PV} (h:g p r=some r') (ht:t r' st = .ok true s1) (hf:f r' s1 = .ok q s2):Qk ⟨fi,g,[t]⟩ (Qx [] f) r p st = .ok [q] s2:=by
 unfold Qk;show (match g p r with |none=>_ |some r'=>_)=_;rw [h];show (we [t] r' st).bind _=_;unfold we we;rw [ht];show (Qx [] f) r' s1=_;unfold Qx;rw [hf];rfl
theorem qFs {fi:FI} {g:FG} {t:FT} {f:FE} {r r':QO} {st s1:qC} {p:PV} (h:g p r=some r') (ht:t r' st = .ok false s1):Qk ⟨fi,g,[t]⟩ (Qx [] f) r p st = .ok [] s1:=by
 unfold Qk;show (match g p r with |none=>_ |some r'=>_)=_;rw [h];show (we [t] r' st).bind _=_;unfold we we;rw [ht];rfl
theorem jR {a:Ad} {st j:qC} {fi:FI} {rw' wy:Int} (hw:0≤wy∧wy≤2):∀ (ks:List Int) (x:Int),∃ (cs:List ql) (y:Int),cs.length≤ks.length∧(∀ c∈cs,c.1=rw'∧c.2∈ks)∧(cs.map (·.2)).Sublist ks∧qx (fun _=>True) (Qk ⟨fi,qy 3,[qGY a]⟩ (Qx [] (wY (qA (qB 0) (qA (qB 3) qD)))) [some (.int rw'),some (.int wy),some (.ref st.length),none]) (ks.map PV.int) (st ++ .l [.int x]::j) = .ok (cs.map cP) (st ++ .l [.int y]::j)
 |[],x=>⟨[],x,AL _,fun c hc=>(AY hc).elim,List.Sublist.slnil,WB trivial⟩
 |k::ks,x=>by
  have hm:∃ m:Int,0 < m∧m < 10 ∧ ∀ s,qM gIx (vFz (Qe (qA (vC (.int 4)) (qA (vC (.int 1)) (qA (vC (.int 9)) qD))))) (qB 1) [some (.int rw'),some (.int wy),some (.ref st.length),some (.int k)] s = .ok (.int m) s:=by
   have:wy=0∨wy=1∨wy=2:=by omega
   rcases this with rfl |rfl |rfl
   ·exact ⟨4,by decide,by decide,fun s=>rfl⟩
   ·exact ⟨1,by decide,by decide,fun s=>rfl⟩
   ·exact ⟨9,by decide,by decide,fun s=>rfl⟩
  obtain ⟨m,hm1,hm2,em⟩:=hm
  have key:∃ (b:Bool) (y:Int),qGY a [some (.int rw'),some (.int wy),some (.ref st.length),some (.int k)] (st ++ .l [.int x]::j) = .ok b (st ++ .l [.int y]::j):=by
   by_cases h1:wy=1
   ·exact ⟨true,x,wB (Qw (qR (p := .int wy) (q := .int 1) rfl rfl (by rw [WO,B4.mpr h1])))⟩
   ·have t1:=QZ (a:=a) (st:=st) (j:=j) (x:=x) (m:=m) hm1 (by omega)
    exact ⟨_,x / m,Wl (Qw (qR (p := .int wy) (q := .int 1) rfl rfl (by rw [WO,AH.mpr h1]))) (Qw (qR (qI (l:=[.ref st.length,.int m]) (qN rfl (qN (em _) qe)) t1) rfl rfl))⟩
  obtain ⟨b,y,eb⟩:=key
  obtain ⟨cs,z,h1,h2,h4,h3⟩:=jR (a:=a) (st:=st) (j:=j) (fi:=fi) (rw':=rw') hw ks y
  cases b with
  |true =>
   refine ⟨(rw',k)::cs,z,by rw [AU,AU];omega,fun c hc => ?_,by rw [Ap];exact h4.cons₂ _,?_⟩
   ·rcases AJ.mp hc with q |q
    ·rw [q];exact ⟨rfl,AI⟩
    ·exact ⟨(h2 c q).1,AD _ (h2 c q).2⟩
   ·exact Wq (l:=[cP (rw',k)]) trivial (qF2 (r':=[some (.int rw'),some (.int wy),some (.ref st.length),some (.int k)]) rfl eb (zz (qN rfl (qN rfl qe)) (sz rfl))) h3
  |false =>
   refine ⟨cs,z,by rw [AU];omega,fun c hc=>⟨(h2 c hc).1,AD _ (h2 c hc).2⟩,h4.cons _,?_⟩
   exact Wq (l:=[]) trivial (qFs (r':=[some (.int rw'),some (.int wy),some (.ref st.length),some (.int k)]) rfl eb) h3
def qEr (a:Ad):FS:=(qv 5 (vFz (zD (qB 5) (vFz (qc [6,2,0] 1 (QM (qA (qB 4) qD)) (qy 3) [qGY a] [] (wY (qA (qB 0) (qA (qB 3) qD))))))))
theorem qCm {a:Ad} {st j:qC} {L wy hi wd:Int} (hw:0≤wy∧wy≤2) (hwd:1≤wd∧wd≤8):∀ (rs:List Int) (x:Int) (fd:List ql) (x6:Option PV),fd.length + 8 * rs.length≤64->rs.Pairwise (· < ·)->(∀ c∈fd,∀ r∈rs,c.1 < r)->fd.Pairwise clt->(∀ c∈fd,In8 c)->(∀ r∈rs,0≤r∧r≤7) ->
  ∃ (y:Int) (fd':List ql) (y6:Option PV),fd'.length≤64∧fd'.Pairwise clt∧(∀ c∈fd',In8 c) ∧
   Qo (fun _=>True) (QY 6) (qEr a) (rs.map PV.int) [some (.ref st.length),some (.int L),some (.int wy),some (.int hi),some (.int wd),some (.lst (fd.map cP)),x6] (st ++ .l [.int x]::j) = .nx [some (.ref st.length),some (.int L),some (.int wy),some (.int hi),some (.int wd),some (.lst (fd'.map cP)),y6] (st ++ .l [.int y]::j)
 |[],x,fd,x6,h,_,_,hp,hb,_=>⟨x,fd,x6,by simpa using h,hp,hb,Qa trivial⟩
 |r::rs,x,fd,x6,h,hr,hlt,hp,hb,hrb=>by
  obtain ⟨cs,y,h1,h2,h4,h3⟩:=jR (a:=a) (st:=st) (j:=j) (fi:=QM (qA (qB 4) qD)) (rw':=r) hw (qw wd) x
  rw [QQ] at h1
  have hcl:cs.length≤8:=by omega
  rw [AU] at h
  have hr0:=hrb r AI
  have hcs:cs.Pairwise clt:=by
   have p1:(qw wd).Pairwise (· < ·):=by
    unfold qw
    rw [Bq]
    exact List.pairwise_lt_range.imp fun h=>by omega
   have p2:(cs.map (·.2)).Pairwise (· < ·):=p1.sublist h4
   rw [Bq] at p2
   refine List.Pairwise.imp_of_mem ?_ p2
   intro c d hc hd hcd
   exact .inr ⟨by rw [(h2 c hc).1,(h2 d hd).1],hcd⟩
  have hcat:(fd++cs).Pairwise clt:=List.pairwise_append.mpr ⟨hp,hcs,fun c hc d hd => .inl (by rw [(h2 d hd).1];exact hlt c hc r AI)⟩
  have hbb:∀ c∈fd++cs,In8 c:=fun c hc=>by
   rcases Ar.mp hc with q |q
   ·exact hb c q
   ·have:=upto_mem.mp (h2 c q).2
    have:=(h2 c q).1
    unfold In8
    omega
  obtain ⟨z,fd',y6,q1,q2,q3,q4⟩:=qCm (a:=a) (st:=st) (j:=j) (L:=L) (hi:=hi) hw hwd rs y (fd++cs) (some (.int r)) (by rw [AO];omega) (Bk.mp hr).2 (fun c hc r' hr'=>by
   rcases Ar.mp hc with q |q
   ·exact hlt c q r' (AD _ hr')
   ·rw [(h2 c q).1];exact (Bk.mp hr).1 r' hr') hcat hbb fun r' hr'=>hrb r' (AD _ hr')
  refine ⟨z,fd',y6,q1,q2,q3,?_⟩
  refine WY (r1:=[some (.ref st.length),some (.int L),some (.int wy),some (.int hi),some (.int wd),some (.lst (fd.map cP)),some (.int r)]) trivial rfl ?_ q4
  unfold qEr
  refine Ql (p := .lst ((fd++cs).map cP)) (wG ?_)
  rw [BX]
  exact yw (l:=fd.map cP) (m:=cs.map cP) rfl (wG (Zr (w:=⟨(qw wd).map PV.int,fun _=>True⟩) (itN (by omega) (by omega) rfl) h3 (by rw [AF];exact w5 (by omega)))) rfl rfl (by rw [AF,AF];exact w5 (by omega))
structure Flr (F:List ql):Prop where
 len:F.length≤40
 ris:F.Pairwise clt
 b:∀ c∈F,In8 c
theorem jb {a:Ad} {st j:qC} {fi:FI}:∀ (ks:List PV) (x:Int),∃ (cs:List ql) (y:Int),cs.length=ks.length∧(∀ c∈cs,In8 c)∧qx (fun _=>True) (Qk ⟨fi,qy 1,[]⟩ (Qx [] (wY (qA (qH (qT a) (qA (qB 0) (qA (vC (.int 8)) qD))) (qA (qH (qT a) (qA (qB 0) (qA (vC (.int 8)) qD))) qD)))) [some (.ref st.length),none]) ks (st ++ .l [.int x]::j) = .ok (cs.map cP) (st ++ .l [.int y]::j)
 |[],x=>⟨[],x,rfl,fun c hc=>(AY hc).elim,WB trivial⟩
 |k::ks,x=>by
  have t1:=QZ (a:=a) (st:=st) (j:=j) (x:=x) (m:=8) (by decide) (by decide)
  have t2:=QZ (a:=a) (st:=st) (j:=j) (x:=x / 8) (m:=8) (by decide) (by decide)
  obtain ⟨cs,y,h1,h2,h3⟩:=jb (a:=a) (st:=st) (j:=j) (fi:=fi) ks (x / 8 / 8)
  refine ⟨(x % 8,x / 8 % 8)::cs,y,by rw [AU,AU,h1],fun c hc => ?_,?_⟩
  ·rcases AJ.mp hc with q |q
   ·rw [q];show 0≤x % 8∧x % 8≤7∧0≤x / 8 % 8∧x / 8 % 8≤7;omega
   ·exact h2 c q
  ·exact Wq (l:=[cP (x % 8,x / 8 % 8)]) trivial (Ze (r':=[some (.ref st.length),some k]) rfl (zz (qN (qI (l:=[.ref st.length,.int 8]) rfl t1) (qN (qI (l:=[.ref st.length,.int 8]) rfl t2) qe)) (sz rfl))) h3
theorem qH5 {st j:qC} {b o:SO} {i:Nat} (h:i < j.length):(st++b::j).set (st.length + 1 + i) o=st++b::j.set i o:=by
 rw [BQ _ _ (by omega),show st.length + 1 + i - st.length=i + 1 by omega,List.set_cons_succ]
theorem qID {l:List ql} {k:Nat}:(l.map cP).eraseIdx k=(l.eraseIdx k).map cP:=by
 induction l generalizing k with
 |nil=>rfl
 |cons c l ih =>
  cases k with
  |zero=>rfl
  |succ k=>rw [Ap,List.eraseIdx_cons_succ,List.eraseIdx_cons_succ,Ap,ih]
theorem qE1 {a:Ad} {st j:qC} {x L:Int} (hL1:2≤L) (hL2:L≤5):∃ (F:List ql) (y:Int) (g:qC),Flr F∧zG a [.ref st.length,.int L] (st ++ .l [.int x]::j) = .ok (.tup (F.map cP)) (st ++ .l [.int y]::(j++g)):=by
 have t1:=QZ (a:=a) (st:=st) (j:=j) (x:=x) (m:=6) (by decide) (by decide)
 have t2:=QZ (a:=a) (st:=st) (j:=j) (x:=x / 6) (m:=8) (by decide) (by decide)
 have t3:=QZ (a:=a) (st:=st) (j:=j) (x:=x / 6 / 8) (m:=8) (by decide) (by decide)
 have hwy:=Qm (x:=x) (m:=6) (by decide)
 have hhi:=Qm (x:=x / 6) (m:=8) (by decide)
 have hwd:=Qm (x:=x / 6 / 8) (m:=8) (by decide)
 generalize x % 6=wy at t1 hwy
 generalize x / 6 % 8=hi at t2 hhi
 generalize x / 6 / 8 % 8=wd at t3 hwd
 generalize x / 6 / 8 / 8=y at t3
 have pre:∀ {F:PV} {s:qC} {R:FS},R [some (.ref st.length),some (.int L),some (.int wy),some (.int (1 + hi)),some (.int (1 + wd)),none,none] (st ++ .l [.int y]::j) = .rt F s->qV (qv 2 (qH (qT a) (qA (qB 0) (qA (vC (.int 6)) qD)))) (qV (jy 3 4 (qA (qM Qf (vC (.int 1)) (qH (qT a) (qA (qB 0) (qA (vC (.int 8)) qD)))) (qA (qM Qf (vC (.int 1)) (qH (qT a) (qA (qB 0) (qA (vC (.int 8)) qD)))) qD))) R) (Q4 7 [.ref st.length,.int L]) (st ++ .l [.int x]::j) = .rt F s:=fun {F s R} h=>by
  refine qW (Ql (p := .int wy) (qI (l:=[.ref st.length,.int 6]) rfl t1)) ?_
  exact qW (qHs (p := .int (1 + hi)) (q := .int (1 + wd)) (qN (qR rfl (qI (l:=[.ref st.length,.int 8]) rfl t2) W4) (qN (qR rfl (qI (l:=[.ref st.length,.int 8]) rfl t3) W4) qe))) h
 by_cases h2:wy > 2
 ·obtain ⟨z,g,i,fd,h3,hij,h4,h5,hb,h6⟩:=qBI (a:=a) (st:=st) (j:=j) (x:=y) hL1 hL2
  have hS:∀ q,(st++SO.l [.int q]::(j++g))[st.length + 1 + i]? = some (.l (fd.map cP)):=fun q=>qG4 h3
  by_cases h7:wy=5
  ·subst h7
   have hfl:0 < (fd.length:Int):=by
    have:fd.length≠0:=fun q=>h5 (List.eq_nil_of_length_eq_zero q)
    omega
   have t4:=QZ (a:=a) (st:=st) (j:=j++g) (x:=z) (m:=(fd.length:Int)) hfl (by omega)
   have hk:=Qm (x:=z) hfl
   generalize z % (fd.length:Int)=k at t4 hk
   generalize z / (fd.length:Int)=z2 at t4
   have hil:i < (j++g).length:=(AQ.mp h3).1
   have hkl:k.toNat < fd.length:=by omega
   have hpop:Yi (qB 5) (qH (qT a) (qA (qB 0) (qA (qH WH (qA (qB 5) qD)) qD))) [some (.ref st.length),some (.int L),some (.int 5),some (.int (1 + hi)),some (.int (1 + wd)),some (.ref (st.length + 1 + i)),none] (st ++ .l [.int z]::(j++g)) = .ok (cP fd[k.toNat]) (st ++ .l [.int z2]::((j++g).set i (.l ((fd.eraseIdx k.toNat).map cP)))):=by
    rw [qGl (n:=st.length + 1 + i) (p:=cP fd[k.toNat]) (l:=fd.map cP) rfl (qEb (hS z)) (qI (l:=[.ref st.length,.int (fd.length:Int)]) (qN rfl (qN (qI (qN rfl qe) (za (Z8 (hS z)) (by rw [AF]))) qe)) t4) (hS z2) ⟨hk.1,by omega⟩ (by rw [Ao,AE hkl];rfl),qH5 hil,qID]
   have t5:=QZ (a:=a) (st:=st) (j:=(j++g).set i (.l ((fd.eraseIdx k.toNat).map cP))) (x:=z2) (m:=2) (by decide) (by decide)
   have hn:=Qm (x:=z2) (m:=2) (by decide)
   obtain ⟨cs,y2,c1,c2,c3⟩:=jb (a:=a) (st:=st) (j:=(j++g).set i (.l ((fd.eraseIdx k.toNat).map cP))) (fi:=QM (qA (qH (qT a) (qA (qB 0) (qA (vC (.int 2)) qD))) qD)) ((qw (z2 % 2)).map PV.int) (z2 / 2)
   rw [AF,QQ] at c1
   have hS2:∀ q,(st++SO.l [.int q]::(j++g).set i (.l ((fd.eraseIdx k.toNat).map cP)))[st.length + 1 + i]? = some (.l ((fd.eraseIdx k.toNat).map cP)):=fun q=>qG4 (Av hil)
   have hel:(fd.eraseIdx k.toNat).length=fd.length - 1:=by rw [List.length_eraseIdx_of_lt hkl]
   have hall:(fd.eraseIdx k.toNat++cs).length≤40:=by rw [AO,hel];omega
   refine ⟨YA (fd.eraseIdx k.toNat++cs),y2,g.set (i - j.length) (.l ((fd.eraseIdx k.toNat).map cP)),⟨Aa (qAS _) hall,qCM _,fun c hc => ?_⟩,QK rfl ?_⟩
   ·rcases Ar.mp (mem_sddC.mp hc) with q |q
    ·exact hb c (List.mem_of_mem_eraseIdx q)
    ·exact c2 c q
   ·unfold zM
    refine pre (qt (qo (Qw (qR rfl rfl (qEV (by decide)))) ?_))
    refine qW (Ql (p := .ref (st.length + 1 + i)) (qI (l:=[.ref st.length,.int L]) rfl h6)) ?_
    have hcat:zD (qB 5) (vFz (qc [0] 1 (QM (qA (qH (qT a) (qA (qB 0) (qA (vC (.int 2)) qD))) qD)) (qy 1) [] [] (wY (qA (qH (qT a) (qA (qB 0) (qA (vC (.int 8)) qD))) (qA (qH (qT a) (qA (qB 0) (qA (vC (.int 8)) qD))) qD))))) [some (.ref st.length),some (.int L),some (.int 5),some (.int (1 + hi)),some (.int (1 + wd)),some (.ref (st.length + 1 + i)),none] (st ++ .l [.int z2]::((j++g).set i (.l ((fd.eraseIdx k.toNat).map cP)))) = .ok ((fd.eraseIdx k.toNat++cs).map cP) (st ++ .l [.int y2]::((j++g).set i (.l ((fd.eraseIdx k.toNat).map cP)))):=by
     rw [BX]
     exact yw (l:=(fd.eraseIdx k.toNat).map cP) (m:=cs.map cP) rfl (wG (Zr (w:=⟨(qw (z2 % 2)).map PV.int,fun _=>True⟩) (itN (by omega) (by omega) (qN (qI (l:=[.ref st.length,.int 2]) rfl t5) qe)) c3 (by rw [AF];exact w5 (by omega)))) (qBO (hS2 _)) rfl (by rw [AF,AF];exact w5 (by rw [hel];omega))
    refine qW (r':=[some (.ref st.length),some (.int L),some (.int 5),some (.int (1 + hi)),some (.int (1 + wd)),some (.lst ((fd.eraseIdx k.toNat++cs).map cP)),none]) (qo (Qw (qR rfl rfl rfl)) (qW (qBe hpop) (Ql (wG hcat)))) ?_
    rw [show (j++g).set i (.l ((fd.eraseIdx k.toNat).map cP))=j++g.set (i - j.length) (.l ((fd.eraseIdx k.toNat).map cP)) from BQ _ _ hij]
    exact qk (qI (l:=[.lst ((YA (fd.eraseIdx k.toNat++cs)).map cP)]) (qN (qFZ rfl (qEx rfl (by omega))) qe) (zw rfl))
  ·refine ⟨YA fd,z,g,⟨Aa (qAS _) h4,qCM _,fun c hc=>hb c (mem_sddC.mp hc)⟩,QK rfl ?_⟩
   unfold zM
   refine pre (qt (qo (Qw (qR rfl rfl (qEV h2))) ?_))
   refine qW (Ql (p := .ref (st.length + 1 + i)) (qI (l:=[.ref st.length,.int L]) rfl h6)) ?_
   refine qW (qz (Qw (qR (p := .int wy) (q := .int 5) rfl rfl (by rw [WO,AH.mpr h7]))) rfl) ?_
   exact qk (qI (l:=[.lst ((YA fd).map cP)]) (qN (qFZ rfl (qEx (Z8 (hS z)) (by omega))) qe) (zw rfl))
 ·obtain ⟨z,fd,y6,f1,f2,f3,f4⟩:=qCm (a:=a) (st:=st) (j:=j) (L:=L) (hi:=1 + hi) (wy:=wy) (wd:=1 + wd) (by omega) (by omega) (qw (1 + hi)) y [] none (by rw [Bn,QQ];omega) (by
   unfold qw
   rw [Bq]
   exact List.pairwise_lt_range.imp fun h=>by omega) (fun c hc=>(AY hc).elim) List.Pairwise.nil (fun c hc=>(AY hc).elim) fun r hr=>by have:=upto_mem.mp hr;omega
  have fin:∀ (n:Nat) (s:qC),n≤40->vIf (vTB (qM gLt (qB 2) (vC (.int 2)))) (qBm (qB 5) Q9 (wA (vC (.int 40)))) (qBm (qB 5) Q9 (wA (qH (qT a) (qA (qB 0) (qA (vC (.int 8)) qD))))) [some (.ref st.length),some (.int L),some (.int wy),some (.int (1 + hi)),some (.int (1 + wd)),some (.lst (fd.map cP)),y6] (st ++ .l [.int z]::j) = .ok (.lst ((fd.take n).map cP)) s->zG a [.ref st.length,.int L] (st ++ .l [.int x]::j) = .ok (.tup ((fd.take n).map cP)) s:=fun n s hn h=>by
   refine QK rfl ?_
   unfold zM
   refine pre (qW (qz (Qw (qR rfl rfl (qJP h2))) rfl) (qW (Ql (p := .lst []) rfl) (qW (WM (itN (L:=1 + hi) (by omega) (by omega) rfl) f4) ?_)))
   exact qk (qI (qN h qe) (zw rfl))
  have ok:∀ n:Nat,n≤40->Flr (fd.take n):=fun n hn=>⟨by rw [Bh];omega,f2.sublist (List.take_sublist _ _),fun c hc=>f3 c (CV hc)⟩
  by_cases h8:wy < 2
  ·refine ⟨fd.take 40,z,[],ok 40 (AL _),?_⟩
   rw [A6]
   refine fin 40 _ (AL _) (qCP (Qw (qR rfl rfl (qIg h8))) ?_)
   rw [qH3 (l:=fd.map cP) rfl rfl (zO rfl) rfl,← qHh (n:=40) (by decide)]
   rfl
  ·have t4:=QZ (a:=a) (st:=st) (j:=j) (x:=z) (m:=8) (by decide) (by decide)
   have hn:=Qm (x:=z) (m:=8) (by decide)
   refine ⟨fd.take (z % 8).toNat,z / 8,[],ok _ (by omega),?_⟩
   rw [A6]
   refine fin _ _ (by omega) (qCl (Qw (qR rfl rfl (qIt h8))) ?_)
   rw [qH3 (l:=fd.map cP) rfl rfl (zO (qI (l:=[.ref st.length,.int 8]) rfl t4)) rfl,← qHh (n:=(z % 8).toNat) (by omega),show (((z % 8).toNat:Nat):Int)=z % 8 by omega]
theorem map_set {t:List Int} {k:Nat} {v:Int}:(t.map PV.int).set k (.int v)=(t.set k v).map PV.int:=by rw [List.map_set]
theorem qGs {t:List Int} {k:Nat} (h:k < t.length):(t.map PV.int)[k]? = some (.int (t.getD k 0)):=by
 rw [Ao,AE h,AK,AE h];rfl
theorem qAG {a:Ad} {L:Int} {st:qC} (h1:2≤L) (h2:L≤5):Q8 a [.int L] st = .ok .non st:=by
 rw [Zb rfl,AG]
 show (decide (2≤L)&&decide (L≤5))=true
 rw [Ai h1,Ai h2];rfl
theorem qCx {a:Ad} {v:PV} {st:qC} (hp:wS v=true) (hw:WI 2 5 v=false):Q8 a [v] st = .ex ⟨a.Z1,[]⟩ st:=by
 rw [Zb hp,AN (by rw [hw];simp)]
theorem qDz {L:Int} (hL:0≤L):(List.replicate L.toNat [PV.int 0]).flatten=(List.replicate L.toNat (0:Int)).map PV.int:=by
 generalize L.toNat=n
 induction n with
 |zero=>rfl
 |succ n ih=>rw [BI,Bp,ih,BI,Ap];rfl
theorem qEq {a:Ad} {f v:PV} {st:qC} (hp:wS v=true) (hw:WI 2 5 v=false):YN a [f,v] st = .ex ⟨a.Z1,[]⟩ st :=
 Ww rfl (WJ (jZ (by rw [wT (l:=[v]) (st':=st) rfl];exact qCx hp hw)))
def rs (L:Int) (i k:Int) (F:List ql):Int:=((F.filter fun c=>decide (c.1 % L=i)&&decide (c.2 % L=k)).length:Int)
def zq (L:Int) (F:List ql):List (List Int):=(qw L).map fun i=>(qw L).map fun k=>rs L i k F
def jK (L:Int) (t:List (List Int)) (c:ql):List (List Int):=t.set (c.1 % L).toNat ((t.getD (c.1 % L).toNat []).set (c.2 % L).toNat ((t.getD (c.1 % L).toNat []).getD (c.2 % L).toNat 0 + 1))
def QJ (t:List (List Int)):qC:=t.map fun r=>SO.l (r.map PV.int)
def QU (n:Nat) (L:Int):List PV:=(List.range L.toNat).map fun i=>PV.ref (n + i)
def Sq (L:Int) (t:List (List Int)):Prop:=t.length=L.toNat ∧ ∀ r∈t,r.length=L.toNat
theorem Sq.row {L:Int} {t:List (List Int)} (h:Sq L t) {i:Nat} (hi:i < L.toNat):(t.getD i []).length=L.toNat:=by
 have:i < t.length:=by rw [h.1];exact hi
 rw [AK,AE this]
 exact h.2 _ (B9 this)
theorem Jn {L:Int} {t:List (List Int)} {c:ql} (hL:0 < L) (h:Sq L t):Sq L (jK L t c):=by
 have hk:=Qm (x:=c.1) hL
 unfold jK
 refine ⟨by rw [Cd];exact h.1,fun r hr => ?_⟩
 rcases List.mem_or_eq_of_mem_set hr with q |q
 ·exact h.2 r q
 ·rw [q,Cd];exact h.row (by omega)
theorem jT {st:qC} {L:Int} {v0:PV} (hL:0 < L):∀ (F:List ql) (t:List (List Int)) (x3 x4:Option PV),Sq L t -> ∃ y3 y4,Qo (fun _=>True) (yj 2 (wV (QY 3) (wV (QY 4) yz))) qBg (F.map cP) [some v0,some (.int L),some (.ref (st.length + L.toNat)),x3,x4] (st++QJ t++[.l (QU st.length L)]) = .nx [some v0,some (.int L),some (.ref (st.length + L.toNat)),y3,y4] (st++QJ (F.foldl (jK L) t)++[.l (QU st.length L)])
 |[],t,x3,x4,h=>⟨x3,x4,Qa trivial⟩
 |c::F,t,x3,x4,h=>by
  have hi:=Qm (x:=c.1) hL
  have hk:=Qm (x:=c.2) hL
  obtain ⟨y3,y4,e⟩:=jT (st:=st) (v0:=v0) hL F (jK L t c) (some (.int c.1)) (some (.int c.2)) (Jn hL h)
  refine ⟨y3,y4,WY (r1:=[some v0,some (.int L),some (.ref (st.length + L.toNat)),some (.int c.1),some (.int c.2)]) trivial rfl ?_ e⟩
  have hrl:(QJ t).length=L.toNat:=by unfold QJ;rw [AF];exact h.1
  have hs2:(st++QJ t++[SO.l (QU st.length L)])[st.length + L.toNat]? = some (.l (QU st.length L)):=by
   rw [Af (by rw [AO,hrl];exact AL _),AO,hrl,Bm];rfl
  have hil:(c.1 % L).toNat < L.toNat:=by omega
  have hs:(st++QJ t++[SO.l (QU st.length L)])[st.length + (c.1 % L).toNat]? = some (.l ((t.getD (c.1 % L).toNat []).map PV.int)):=by
   have hit:(c.1 % L).toNat < t.length:=by rw [h.1];exact hil
   rw [Ae (by rw [AO,hrl];omega),Af (by omega),CB]
   unfold QJ
   rw [Ao,AE hit,AK,AE hit];rfl
  have hix:gIx (.ref (st.length + L.toNat)) (.int (c.1 % L)) (st++QJ t++[SO.l (QU st.length L)]) = .ok (.ref (st.length + (c.1 % L).toNat)) (st++QJ t++[SO.l (QU st.length L)]):=by
   refine J6 (Z8 hs2) ?_
   unfold L2.atI
   have hrf:(QU st.length L).length=L.toNat:=by unfold QU;simp
   rw [hrf,zn hi.1 (by omega)]
   show (QU st.length L)[(c.1 % L).toNat]? = _
   unfold QU
   rw [Ao,CA hil];rfl
  have hkl:(c.2 % L).toNat < (t.getD (c.1 % L).toNat []).length:=by rw [h.row hil];omega
  have:=qJV (fo:=qM gIx (qB 2) (qM Ws (qB 3) (qB 1))) (fi2:=qM Ws (qB 4) (qB 1)) (f:=vC (.int 1)) (r:=[some v0,some (.int L),some (.ref (st.length + L.toNat)),some (.int c.1),some (.int c.2)]) (st:=st++QJ t++[SO.l (QU st.length L)]) (n:=st.length + (c.1 % L).toNat) (k:=c.2 % L) (qR rfl (qR rfl rfl (je hL)) hix) (qR rfl rfl (je hL)) hs hk.1 (qGs hkl) rfl hs (by rw [AF];exact hkl)
  unfold qBg
  rw [this,map_set,List.set_append_left _ _ (by rw [AO,hrl];omega),BQ _ _ (by omega),CB]
  rw [show QJ (jK L t c)=(QJ t).set (c.1 % L).toNat (.l (((t.getD (c.1 % L).toNat []).set (c.2 % L).toNat ((t.getD (c.1 % L).toNat []).getD (c.2 % L).toNat 0 + 1)).map PV.int)) from List.map_set]
theorem qGc {L:Int} {t:List (List Int)} {c:ql} {i k:Nat} (hi:(c.1 % L).toNat < t.length) (hk:(c.2 % L).toNat < (t.getD (c.1 % L).toNat []).length):((jK L t c).getD i []).getD k 0=(t.getD i []).getD k 0 + (if (c.1 % L).toNat=i∧(c.2 % L).toNat=k then 1 else 0):=by
 unfold jK
 rw [AK (l:=t.set _ _),List.getElem?_set]
 by_cases h:(c.1 % L).toNat=i
 ·rw [AG h,AG hi]
  subst h
  show (((t.getD (c.1 % L).toNat []).set (c.2 % L).toNat _).getD k 0)=_
  rw [AK,List.getElem?_set]
  by_cases h2:(c.2 % L).toNat=k
  ·rw [AG h2,AG hk,AG ⟨rfl,h2⟩,h2];rfl
  ·rw [AN h2,AN (fun z=>h2 z.2),Int.add_zero];exact (AK ..).symm
 ·rw [AN h,AN (fun z=>h z.1),Int.add_zero,AK (l:=t)]
theorem J1 {L:Int} (hL:0 < L):∀ (F:List ql) (t:List (List Int)),Sq L t->Sq L (F.foldl (jK L) t)
 |[],t,h=>h
 |c::F,t,h=>by rw [Bl];exact J1 hL F _ (Jn hL h)
theorem qA7 {L:Int} (hL:0 < L) {i k:Int} (h0:0≤i) (h1:0≤k):∀ (F:List ql) (t:List (List Int)),Sq L t->((F.foldl (jK L) t).getD i.toNat []).getD k.toNat 0=(t.getD i.toNat []).getD k.toNat 0 + rs L i k F
 |[],t,hl=>by unfold rs;simp
 |c::F,t,hl=>by
  have hi:=Qm (x:=c.1) hL
  have hk:=Qm (x:=c.2) hL
  have hit:(c.1 % L).toNat < t.length:=by rw [hl.1];omega
  have hkt:(c.2 % L).toNat < (t.getD (c.1 % L).toNat []).length:=by rw [hl.row (by omega)];omega
  rw [Bl,qA7 hL h0 h1 F _ (Jn hL hl),qGc hit hkt]
  unfold rs
  rw [Bv]
  by_cases q:c.1 % L=i∧c.2 % L=k
  ·rw [AG (by rw [q.1,q.2];exact ⟨rfl,rfl⟩),AG (by rw [Ai q.1,Ai q.2];rfl),AU];omega
  ·rw [AN (fun z=>q ⟨by omega,by omega⟩),AN (by rw [Aj];exact fun z=>q ⟨Bb z.1,Bb z.2⟩)];omega
def w8 (L:Int):List (List Int):=List.replicate L.toNat (List.replicate L.toNat 0)
theorem zA (L:Int):Sq L (w8 L):=⟨by unfold w8;simp,fun r hr=>by rw [List.eq_of_mem_replicate hr];simp⟩
theorem qIV {L:Int} {t u:List (List Int)} (h1:Sq L t) (h2:Sq L u) (h:∀ i k:Nat,i < L.toNat->k < L.toNat->(t.getD i []).getD k 0=(u.getD i []).getD k 0):t=u:=by
 refine List.ext_getElem (by rw [h1.1,h2.1]) fun i hi hi' => ?_
 have hi1:i < L.toNat:=by rw [← h1.1];exact hi
 have r1:=h1.row hi1
 have r2:=h2.row hi1
 have e1:t.getD i []=t[i]:=by rw [AK,AE hi];rfl
 have e2:u.getD i []=u[i]:=by rw [AK,AE hi'];rfl
 rw [e1] at r1
 rw [e2] at r2
 refine List.ext_getElem (by rw [r1,r2]) fun k hk hk' => ?_
 have:=h i k hi1 (by rw [← r1];exact hk)
 rw [e1,e2,AK,AK,AE hk,AE hk'] at this
 exact this
theorem JW (L:Int) (F:List ql):Sq L (zq L F):=⟨by unfold zq;rw [AF,QQ],fun r hr=>by
 unfold zq at hr
 obtain ⟨i,_,rfl⟩:=Al.mp hr
 rw [AF,QQ]⟩
theorem qCf {L:Int} {i:Nat} (hi:i < L.toNat):(qw L)[i]? = some (i:Int):=by
 unfold qw
 rw [Ao,CA hi];rfl
theorem qFx {L:Int} {F:List ql} {i k:Nat} (hi:i < L.toNat) (hk:k < L.toNat):((zq L F).getD i []).getD k 0=rs L i k F:=by
 unfold zq
 rw [AK,AK,Ao,qCf hi]
 show ((qw L).map fun k=>rs L (i:Int) k F)[k]?.getD 0=_
 rw [Ao,qCf hk];rfl
theorem qFX {L:Int} (hL:0 < L) (F:List ql):F.foldl (jK L) (w8 L)=zq L F:=by
 refine qIV (J1 hL F _ (zA L)) (JW L F) fun i k hi hk => ?_
 have:=qA7 hL (i:=(i:Int)) (k:=(k:Int)) (by omega) (by omega) F (w8 L) (zA L)
 rw [BD,BD] at this
 rw [this,qFx hi hk]
 have e0:((w8 L).getD i []).getD k 0=0:=by
  unfold w8
  rw [AK,AK,BC,AG hi]
  show (List.replicate L.toNat (0:Int))[k]?.getD 0=0
  rw [BC];split <;> rfl
 rw [e0,Int.zero_add]
theorem Yk {L:Int} {fi:FI} (h1:2≤L) (h2:L≤5):∀ (n:Nat) (ks:List PV) (st:qC),ks.length=n->qx (fun _=>True) (Qk ⟨fi,qy 1,[]⟩ (Qx [] (vMk (Yq (Qe (qA (vC (.int 0)) qD)) (qB 0)))) [some (.int L),none]) ks st = .ok ((List.range n).map fun i=>PV.ref (st.length + i)) (st++QJ (List.replicate n (List.replicate L.toNat 0)))
 |0,ks,st,h=>by
  rw [List.eq_nil_of_length_eq_zero h]
  rw [WB trivial]
  simp [QJ]
 |n + 1,ks,st,h=>by
  cases ks with
  |nil=>cases h
  |cons k ks =>
   have ih:=Yk (fi:=fi) h1 h2 n ks (st++[.l ((List.replicate L.toNat (0:Int)).map PV.int)]) (by simpa using h)
   have:=Wq (Gd:=fun _=>True) (k:=Qk ⟨fi,qy 1,[]⟩ (Qx [] (vMk (Yq (Qe (qA (vC (.int 0)) qD)) (qB 0)))) [some (.int L),none]) (p:=k) (l:=[.ref st.length]) (st:=st) trivial (Ze (r':=[some (.int L),some k]) rfl (qLE (l:=(List.replicate L.toNat (0:Int)).map PV.int) (s1:=st) (by
    rw [← qDz (by omega)]
    exact qKe (l:=[.int 0]) rfl rfl (by omega) (by show 1 * L.toNat≤_;exact w5 (by omega)) (by omega)))) ih
   rw [this]
   congr 1
   ·rw [CI,Ap,A0,AO,Ag]
    show _::_=_::_
    congr 1
    exact BN fun i _=>by show PV.ref (st.length + 1 + i)=PV.ref (st.length + (i + 1));rw [Co,Nat.add_comm 1 i]
   ·rw [Ab,BI];rfl
theorem qEX {a:Ad} {F:List ql} {L:Int} {st:qC} (h1:2≤L) (h2:L≤5):YN a [.tup (F.map cP),.int L] st = .ok (.ref (st.length + L.toNat)) (st++QJ (zq L F)++[.l (QU st.length L)]):=by
 obtain ⟨y3,y4,e⟩:=jT (st:=st) (L:=L) (v0 := .tup (F.map cP)) (by omega) F (w8 L) none none (zA L)
 rw [qFX (by omega)] at e
 have hm:=Yk (L:=L) (fi:=QM (qA (qB 1) qD)) h1 h2 L.toNat ((qw L).map PV.int) st (by rw [AF,QQ])
 have hc:qc [1] 1 (QM (qA (qB 1) qD)) (qy 1) [] [] (vMk (Yq (Qe (qA (vC (.int 0)) qD)) (qB 0))) (Q4 5 [.tup (F.map cP),.int L]) st = .ok (QU st.length L) (st++QJ (w8 L)) :=
  Zr (itN (by omega) (by omega) rfl) hm (by unfold QU;rw [AF,Br];exact w5 (by omega))
 have hl:(st++QJ (w8 L)).length=st.length + L.toNat:=by rw [AO];unfold QJ w8;simp
 have hset:=Zy (i:=2) hc
 rw [hl] at hset
 exact QK rfl (qW (qBe (qI rfl (qAG h1 h2))) (qW hset (qW (WM (Qu rfl) e) (qk rfl))))
theorem qAa {a:Ad} {st:qC} {n:Nat} {i:Int}:qu (n + 1) a [.int i,.int i] st = .ok (.bl true) st:=by
 refine QK (N:=2) (B:=Qv a (qu n a)) rfl ?_
 unfold Qv
 refine qW (qz (qX (qI (l:=[.int i,.tup [.ty "tuple",.ty "list"]]) rfl rfl)) rfl) (qk ?_)
 unfold YB
 rw [qR (p := .int i) (q := .int i) (s1:=st) (s2:=st) (R := .ok (.bl true) st) rfl rfl (by rw [WO,At])]
 rfl
theorem yU {f:PV->Bool} {l:List PV} {st:qC}:ZW [.lst (l.map fun p => .bl (f p))] st = .ok (.bl (l.all f)) st:=by
 unfold ZW jv
 simp only [asL]
 rw [qAg]
 show Rs.ok (PV.bl ((l.map f).all id)) st=_
 rw [List.all_map]
 rfl
theorem qC9:∀ {l m:List PV},l.length=m.length->(zy l m).length=l.length
 |[],[],_=>rfl
 |[],_::_,h=>by cases h
 |_::_,[],h=>by cases h
 |p::l,q::m,h=>by rw [zy,AU,AU,qC9 (by simpa using h)]
def qFl (st:qC) (n:Nat) (R:List (List Int)):Prop := ∀ (i:Nat) (r:List Int),R[i]? = some r->st[n + i]? = some (.l (r.map PV.int))
theorem qJm {t u:FT} {r:QO} {st:qC} {b c:Bool} (h:t r st = .ok b st) (h2:u r st = .ok c st):Zc t u r st = .ok (b&&c) st:=by
 cases b with
 |true=>exact Jh h h2
 |false=>exact qC3 h
theorem qI1 {F:List ql} {L i k:Int} {st:qC} {x2 x4:Option PV} (hL:0 < L) (hF:F.length≤40):qHN [some (.tup (F.map cP)),some (.int L),x2,some (.int i),x4,some (.int k)] st = .ok (.int (rs L i k F)) st:=by
 unfold qHN
 have e:=Wr (caps:=[3,5,1]) (n:=1) (fi:=QA (qB 0)) (g:=qy 3) (t:=Zc (vTB (qM gEq (qM Ws (qM gIx (qB 3) (vC (.int 0))) (qB 2)) (qB 0))) (vTB (qM gEq (qM Ws (qM gIx (qB 3) (vC (.int 1))) (qB 2)) (qB 1)))) (f:=qB 3) (r:=[some (.tup (F.map cP)),some (.int L),x2,some (.int i),x4,some (.int k)]) (st:=st) (w:=⟨F.map cP,fun _=>True⟩) (c:=fun p=>((unC p).1 % L==i)&&((unC p).2 % L==k)) (Qu rfl) trivial (by rw [AF];exact w5 (by omega)) fun p hp=>by
  obtain ⟨c,_,rfl⟩:=Al.mp hp
  exact ⟨[some (.int i),some (.int k),some (.int L),some (cP c)],rfl,qJm (Qw (qR (qR (qR rfl rfl rfl) rfl (je hL)) rfl WO)) (Qw (qR (qR (qR rfl rfl rfl) rfl (je hL)) rfl WO)),rfl⟩
 rw [Jv (d:=fun c=>decide (c.1 % L=i)&&decide (c.2 % L=k)) fun x _=>rfl] at e
 refine qI (qN (wG e) qe) (za rfl ?_)
 rw [AF];rfl
theorem qCk {F:List ql} {L i:Int} {n2:PV} {st:qC} (hL:0 < L) (hF:F.length≤40):∀ (ks:List Int) (t:List Int) (x5:Option PV),t.length + ks.length≤10 -> ∃ y5,Qo (fun _=>True) (QY 5) qBa (ks.map PV.int) [some (.tup (F.map cP)),some (.int L),some n2,some (.int i),some (.ref st.length),x5] (st++[.l (t.map PV.int)]) = .nx [some (.tup (F.map cP)),some (.int L),some n2,some (.int i),some (.ref st.length),y5] (st++[.l ((t++ks.map fun k=>rs L i k F).map PV.int)])
 |[],t,x5,_=>⟨x5,by rw [Ci,Ci,A6];exact Qa trivial⟩
 |k::ks,t,x5,h=>by
  rw [AU] at h
  obtain ⟨y5,e⟩:=qCk (F:=F) (L:=L) (i:=i) (n2:=n2) (st:=st) hL hF ks (t++[rs L i k F]) (some (.int k)) (by rw [AO,Ag];omega)
  have hs:(st++[SO.l (t.map PV.int)])[st.length]? = some (.l (t.map PV.int)):=by simp
  have ha:=yJ (fo:=qB 4) (f:=qHN) (r:=[some (.tup (F.map cP)),some (.int L),some n2,some (.int i),some (.ref st.length),some (.int k)]) (st:=st++[.l (t.map PV.int)]) (n:=st.length) rfl (qEb hs) (qI1 hL hF) hs (by rw [AF];exact BY (show t.length≤10 by omega) (by decide))
  refine ⟨y5,WY (r1:=[some (.tup (F.map cP)),some (.int L),some n2,some (.int i),some (.ref st.length),some (.int k)]) trivial rfl (r':=[some (.tup (F.map cP)),some (.int L),some n2,some (.int i),some (.ref st.length),some (.int k)]) (s2:=st++[.l ((t++[rs L i k F]).map PV.int)]) ?_ ?_⟩
  ·unfold qBa
   rw [ha,BQ _ _ (AL _),Bm,BX];rfl
  ·rw [Ab] at e;exact e
theorem qAp {F:List ql} {L:Int} {st:qC} (hL1:2≤L) (hL2:L≤5) (hF:F.length≤40):∀ (is:List Int) (rows:List (List Int)) (x3 x4 x5:Option PV),rows.length + is.length≤10 -> ∃ y3 y4 y5,Qo (fun _=>True) (QY 3) JP (is.map PV.int) [some (.tup (F.map cP)),some (.int L),some (.ref st.length),x3,x4,x5] (st ++ .l ((List.range rows.length).map fun i=>PV.ref (st.length + 1 + i))::QJ rows) = .nx [some (.tup (F.map cP)),some (.int L),some (.ref st.length),y3,y4,y5] (st ++ .l ((List.range (rows.length + is.length)).map fun i=>PV.ref (st.length + 1 + i))::QJ (rows++is.map fun i=>(qw L).map fun k=>rs L i k F))
 |[],rows,x3,x4,x5,_=>⟨x3,x4,x5,by rw [Ci,Ci,A6];exact Qa trivial⟩
 |i::is,rows,x3,x4,x5,h=>by
  rw [AU] at h
  generalize hT:st++SO.l ((List.range rows.length).map fun i=>PV.ref (st.length + 1 + i))::QJ rows=T
  have hTl:T.length=st.length + 1 + rows.length:=by rw [← hT];unfold QJ;simp;omega
  obtain ⟨z5,e1⟩:=qCk (F:=F) (L:=L) (i:=i) (n2 := .ref st.length) (st:=T) (by omega) hF (qw L) [] x5 (by rw [Bn,QQ];omega)
  rw [Ce] at e1
  obtain ⟨y3,y4,y5,e2⟩:=qAp (F:=F) (L:=L) (st:=st) hL1 hL2 hF is (rows++[(qw L).map fun k=>rs L i k F]) (some (.int i)) (some (.ref T.length)) z5 (by rw [AO,Ag];omega)
  have hs:(T++[SO.l (((qw L).map fun k=>rs L i k F).map PV.int)])[st.length]? = some (.l ((List.range rows.length).map fun i=>PV.ref (st.length + 1 + i))):=by
   rw [Ae (by omega),← hT,Af (AL _),Bm];rfl
  have ha:=yJ (fo:=qB 2) (f:=qB 4) (r:=[some (.tup (F.map cP)),some (.int L),some (.ref st.length),some (.int i),some (.ref T.length),z5]) (st:=T++[SO.l (((qw L).map fun k=>rs L i k F).map PV.int)]) (n:=st.length) rfl (qEb hs) rfl hs (by rw [AF,Br];exact BY (show rows.length≤10 by omega) (by decide))
  refine ⟨y3,y4,y5,WY (r1:=[some (.tup (F.map cP)),some (.int L),some (.ref st.length),some (.int i),x4,x5]) trivial rfl (r':=[some (.tup (F.map cP)),some (.int L),some (.ref st.length),some (.int i),some (.ref T.length),z5]) (s2:=st ++ .l ((List.range (rows++[(qw L).map fun k=>rs L i k F]).length).map fun i=>PV.ref (st.length + 1 + i))::QJ (rows++[(qw L).map fun k=>rs L i k F])) ?_ ?_⟩
  ·unfold JP
   refine qW (Zy (l:=[]) (s1:=T) rfl) (qW (WM (itN (by omega) (by omega) rfl) e1) ?_)
   rw [ha]
   congr 1
   rw [hTl,List.set_append_left _ _ (by omega),← hT,BQ _ _ (AL _),Bm,List.set_cons_zero,Ab,show (rows++[(qw L).map fun k=>rs L i k F]).length=rows.length + 1 by simp,List.range_succ,BX,show QJ (rows++[(qw L).map fun k=>rs L i k F])=QJ rows++[SO.l (((qw L).map fun k=>rs L i k F).map PV.int)] by unfold QJ;rw [BX];rfl]
   rfl
  ·rw [Ab,AO,Ag,Co,Nat.add_comm 1] at e2
   rw [AO,Ag]
   exact e2
theorem qDs {a:Ad} {F:List ql} {L:Int} {st:qC} (hL1:2≤L) (hL2:L≤5) (hF:F.length≤40):Wh a [.tup (F.map cP),.int L] st = .ok (.ref st.length) (st ++ .l (QU (st.length + 1) L)::QJ (zq L F)):=by
 obtain ⟨y3,y4,y5,e⟩:=qAp (F:=F) (L:=L) (st:=st) hL1 hL2 hF (qw L) [] none none none (by rw [Bn,QQ];omega)
 rw [Bn,Nat.zero_add,QQ,Ce] at e
 exact QK rfl (qW (Zy (l:=[]) (s1:=st) rfl) (qW (WM (itN (by omega) (by omega) rfl) e) (qk rfl)))
theorem JS {A B:qC} {R:List (List Int)} {n:Nat} (h:A.length=n):qFl (A++QJ R++B) n R:=fun i r hr=>by
 have hi:=(AQ.mp hr).1
 have hl:(QJ R).length=R.length:=by unfold QJ;rw [AF]
 rw [Ae (by rw [AO,hl];omega),Af (by omega),show n + i - A.length=i by omega]
 unfold QJ
 rw [Ao,hr];rfl
theorem qIQ {S:qC} {m n:Nat} {L:Int} {i:Nat} (h:S[m]? = some (.l (QU n L))) (hi:i < L.toNat):gIx (.ref m) (.int (i:Int)) S = .ok (.ref (n + i)) S:=by
 refine J6 (Z8 h) ?_
 unfold L2.atI
 have hrf:(QU n L).length=L.toNat:=by unfold QU;simp
 rw [hrf,zn (by omega) (by omega)]
 show (QU n L)[((i:Int)).toNat]? = _
 rw [BD]
 unfold QU
 rw [Ao,CA hi];rfl
theorem J4 {st G:qC} {b o:SO} {n:Nat} (h:st.length < n):∃ G',(st++b::G).set n o=st++b::G':=by
 obtain ⟨i,rfl⟩:∃ i,n=st.length + 1 + i:=⟨n - st.length - 1,by omega⟩
 refine ⟨G.set i o,?_⟩
 rw [BQ _ _ (by omega),show st.length + 1 + i - st.length=i + 1 by omega,List.set_cons_succ]
def rc (R:List (List Int)) (i k:Int):Int:=(R.getD i.toNat []).getD k.toNat 0
def bad (R:List (List Int)) (i k:Int):Bool := !(rc R i k + rc R 0 0==rc R i 0 + rc R 0 k)
def apF (L:Int) (R:List (List Int)):List Int->Option (Int×Int)
 |[]=>none
 |i::is=>match (qw L).find? (bad R i) with
  |some k=>some (i,k)
  |none=>apF L R is
def apP:Option (Int×Int)->PV
 |some c=>cP c
 |none => .non
structure Tb (S:qC) (m n:Nat) (L:Int) (R:List (List Int)):Prop where
 top:S[m]? = some (.l (QU n L))
 rows:qFl S n R
 sq:Sq L R
theorem qBb {S:qC} {m n:Nat} {L:Int} {R:List (List Int)} (T:Tb S m n L R) {i:Int} (h0:0≤i) (h1:i < L):gIx (.ref m) (.int i) S = .ok (.ref (n + i.toNat)) S:=by
 have:=qIQ (i:=i.toNat) T.top (by omega)
 rw [show ((i.toNat:Nat):Int)=i by omega] at this
 exact this
theorem qBl {S:qC} {m n:Nat} {L:Int} {R:List (List Int)} (T:Tb S m n L R) {i:Int} (h0:0≤i) (h1:i < L):S[n + i.toNat]? = some (.l ((R.getD i.toNat []).map PV.int)):=by
 have hi:i.toNat < R.length:=by rw [T.sq.1];omega
 have:=T.rows i.toNat _ (AE hi)
 rw [this,AK,AE hi];rfl
theorem zE {S:qC} {m n:Nat} {L:Int} {R:List (List Int)} (T:Tb S m n L R) {i k:Int} {r:QO} {f fi fk:FE} (hf:f r S = .ok (.ref m) S) (hi:fi r S = .ok (.int i) S) (hk:fk r S = .ok (.int k) S) (h0:0≤i) (h1:i < L) (h2:0≤k) (h3:k < L):qM gIx (qM gIx f fi) fk r S = .ok (.int (rc R i k)) S:=by
 refine qR (qR hf hi (qBb T h0 h1)) hk (J6 (Z8 (qBl T h0 h1)) ?_)
 exact YE (L:=L) (T.sq.row (by omega)) h2 h3
theorem JJ {i j:Int} {st:qC}:gNe (.int i) (.int j) st = .ok (.bl (!(i==j))) st:=rfl
theorem qHw {S:qC} {m n:Nat} {L:Int} {R:List (List Int)} (T:Tb S m n L R) {v0:PV} {i:Int} (h0:0≤i) (h1:i < L):∀ (ks:List Int) (x4 x5:Option PV),(∀ k∈ks,0≤k∧k < L) -> ∃ y4 y5,Qo (fun _=>True) (QY 4) qJt (ks.map PV.int) [some v0,some (.int L),some (.ref m),some (.int i),x4,x5] S=match ks.find? (bad R i) with |some k => .rt (cP (i,k)) S |none => .nx [some v0,some (.int L),some (.ref m),some (.int i),y4,y5] S
 |[],x4,x5,_=>⟨x4,x5,Qa trivial⟩
 |k::ks,x4,x5,h=>by
  have hk:=h k AI
  obtain ⟨y4,y5,e⟩:=qHw T (v0:=v0) h0 h1 ks (some (.int k)) (some (.int (rc R i 0 + rc R 0 k))) fun q hq=>h q (AD _ hq)
  refine ⟨y4,y5,?_⟩
  rw [List.find?_cons]
  have e1:qM Qf (qM gIx (qM gIx (qB 2) (qB 3)) (vC (.int 0))) (qM gIx (qM gIx (qB 2) (vC (.int 0))) (qB 4)) [some v0,some (.int L),some (.ref m),some (.int i),some (.int k),x5] S = .ok (.int (rc R i 0 + rc R 0 k)) S :=
   qR (zE T rfl rfl rfl h0 h1 (by omega) (by omega)) (zE T rfl rfl rfl (by omega) (by omega) hk.1 hk.2) W4
  have e2:vTB (qM gNe (qM Qf (qM gIx (qM gIx (qB 2) (qB 3)) (qB 4)) (qM gIx (qM gIx (qB 2) (vC (.int 0))) (vC (.int 0)))) (qB 5)) [some v0,some (.int L),some (.ref m),some (.int i),some (.int k),some (.int (rc R i 0 + rc R 0 k))] S = .ok (bad R i k) S :=
   Qw (qR (qR (zE T rfl rfl rfl h0 h1 hk.1 hk.2) (zE T rfl rfl rfl (by omega) (by omega) (by omega) (by omega)) W4) rfl JJ)
  cases hb:bad R i k with
  |true =>
   rw [hb] at e2
   exact zc (r1:=[some v0,some (.int L),some (.ref m),some (.int i),some (.int k),x5]) trivial rfl (qW (Ql e1) (qo e2 (qk (zz (qN rfl (qN rfl qe)) (sz rfl)))))
  |false =>
   rw [hb] at e2
   exact WY (r1:=[some v0,some (.int L),some (.ref m),some (.int i),some (.int k),x5]) trivial rfl (qW (Ql e1) (qz e2 rfl)) e
theorem qDw {S:qC} {m n:Nat} {L:Int} {R:List (List Int)} (T:Tb S m n L R) {v0:PV} (hL:0 < L) (h5:L≤5):∀ (is:List Int) (x3 x4 x5:Option PV),(∀ k∈is,0≤k∧k < L) -> ∃ y3 y4 y5,Qo (fun _=>True) (QY 3) qH2 (is.map PV.int) [some v0,some (.int L),some (.ref m),x3,x4,x5] S=match apF L R is with |some c => .rt (cP c) S |none => .nx [some v0,some (.int L),some (.ref m),y3,y4,y5] S
 |[],x3,x4,x5,_=>⟨x3,x4,x5,Qa trivial⟩
 |i::is,x3,x4,x5,h=>by
  have hi:=h i AI
  obtain ⟨z4,z5,e1⟩:=qHw T (v0:=v0) hi.1 hi.2 (qw L) x4 x5 fun k hk=>upto_mem.mp hk
  obtain ⟨y3,y4,y5,e⟩:=qDw T (v0:=v0) hL h5 is (some (.int i)) z4 z5 fun q hq=>h q (AD _ hq)
  refine ⟨y3,y4,y5,?_⟩
  unfold apF
  cases hf:(qw L).find? (bad R i) with
  |some k =>
   rw [hf] at e1
   exact zc (r1:=[some v0,some (.int L),some (.ref m),some (.int i),x4,x5]) trivial rfl (WM (itN (by omega) (by omega) rfl) e1)
  |none =>
   rw [hf] at e1
   exact WY (r1:=[some v0,some (.int L),some (.ref m),some (.int i),x4,x5]) trivial rfl (WM (itN (by omega) (by omega) rfl) e1) e
def rsS (st:qC) (L:Int) (F:List ql):qC:=st++QJ (zq L F)++[.l (QU st.length L)]
theorem qH8 {st:qC} {L:Int} {F:List ql} (h5:0≤L):Tb (rsS st L F) (st.length + L.toNat) st.length L (zq L F):=by
 have hrl:(QJ (zq L F)).length=L.toNat:=by unfold QJ;rw [AF];exact (JW L F).1
 refine ⟨?_,JS rfl,JW L F⟩
 unfold rsS
 rw [Af (by rw [AO,hrl];exact AL _),AO,hrl,Bm];rfl
def apr (L:Int) (F:List ql):Option (Int×Int):=apF L (zq L F) (qw L)
theorem qFK {a:Ad} {F:List ql} {L:Int} {st:qC} (h1:2≤L) (h2:L≤5):Wf a [.tup (F.map cP),.int L] st = .ok (apP (apr L F)) (rsS st L F):=by
 obtain ⟨y3,y4,y5,e⟩:=qDw (qH8 (st:=st) (F:=F) (show 0≤L by omega)) (v0 := .tup (F.map cP)) (by omega) h2 (qw L) none none none fun k hk=>upto_mem.mp hk
 refine QK rfl (qW (Ql (qI rfl (qEX h1 h2))) ?_)
 unfold apr
 cases hf:apF L (zq L F) (qw L) with
 |some c=>rw [hf] at e;exact qt (WM (itN (by omega) (by omega) rfl) e)
 |none=>rw [hf] at e;exact qW (WM (itN (by omega) (by omega) rfl) e) (qk rfl)
theorem qEm {a:Ad} {f v:PV} {st:qC} (hp:wS v=true) (hw:WI 2 5 v=false):Wf a [f,v] st = .ex ⟨a.Z1,[]⟩ st:=by
 refine Ww rfl (WJ ?_)
 unfold qv
 rw [wT (l:=[f,v]) (st':=st) rfl,qEq hp hw];rfl
theorem qHz {S:qC} {m n:Nat} {L:Int} {R:List (List Int)} (T:Tb S m n L R) {i:Int} (h0:0≤i) (h1:i < L):∀ (ks:List Int) (x2 x3:Option PV),(∀ k∈ks,0≤k∧k < L) -> ∃ y2 y3,Qo (fun _=>True) (QY 2) qKZ (ks.map PV.int) [some (.ref m),some (.int i),x2,x3] S=match ks.find? (bad R i) with |some k => .rt (cP (i,k)) S |none => .nx [some (.ref m),some (.int i),y2,y3] S
 |[],x2,x3,_=>⟨x2,x3,Qa trivial⟩
 |k::ks,x2,x3,h=>by
  have hk:=h k AI
  obtain ⟨y2,y3,e⟩:=qHz T h0 h1 ks (some (.int k)) (some (.int (rc R i k + rc R 0 0))) fun q hq=>h q (AD _ hq)
  refine ⟨y2,y3,?_⟩
  rw [List.find?_cons]
  have e1:qM Qf (qM gIx (qM gIx (qB 0) (qB 1)) (qB 2)) (qM gIx (qM gIx (qB 0) (vC (.int 0))) (vC (.int 0))) [some (.ref m),some (.int i),some (.int k),x3] S = .ok (.int (rc R i k + rc R 0 0)) S :=
   qR (zE T rfl rfl rfl h0 h1 hk.1 hk.2) (zE T rfl rfl rfl (by omega) (by omega) (by omega) (by omega)) W4
  have e2:vTB (qM gNe (qB 3) (qM Qf (qM gIx (qM gIx (qB 0) (qB 1)) (vC (.int 0))) (qM gIx (qM gIx (qB 0) (vC (.int 0))) (qB 2)))) [some (.ref m),some (.int i),some (.int k),some (.int (rc R i k + rc R 0 0))] S = .ok (bad R i k) S :=
   Qw (qR rfl (qR (zE T rfl rfl rfl h0 h1 (by omega) (by omega)) (zE T rfl rfl rfl (by omega) (by omega) hk.1 hk.2) W4) JJ)
  cases hb:bad R i k with
  |true =>
   rw [hb] at e2
   exact zc (r1:=[some (.ref m),some (.int i),some (.int k),x3]) trivial rfl (qW (Ql e1) (qo e2 (qk (zz (qN rfl (qN rfl qe)) (sz rfl)))))
  |false =>
   rw [hb] at e2
   exact WY (r1:=[some (.ref m),some (.int i),some (.int k),x3]) trivial rfl (qW (Ql e1) (qz e2 rfl)) e
theorem JO {S:qC} {m n:Nat} {L:Int} {R:List (List Int)} (T:Tb S m n L R) (hL:0≤L) (h5:L≤5) {r:QO} (hr:r[0]? = some (some (.ref m))):QM (qA (qH WH (qA (qB 0) qD)) qD) r S = .ok ⟨(qw L).map PV.int,fun _=>True⟩ S :=
 itN hL (by omega) (qN (qI (qN (qCA hr) qe) (za (Z8 T.top) (by unfold QU;rw [AF,Br];omega))) qe)
theorem qEd {S:qC} {m n:Nat} {L:Int} {R:List (List Int)} (T:Tb S m n L R) (hL:0 < L) (h5:L≤5):∀ (is:List Int) (x1 x2 x3:Option PV),(∀ k∈is,0≤k∧k < L) -> ∃ y1 y2 y3,Qo (fun _=>True) (QY 1) qHq (is.map PV.int) [some (.ref m),x1,x2,x3] S=match apF L R is with |some c => .rt (cP c) S |none => .nx [some (.ref m),y1,y2,y3] S
 |[],x1,x2,x3,_=>⟨x1,x2,x3,Qa trivial⟩
 |i::is,x1,x2,x3,h=>by
  have hi:=h i AI
  obtain ⟨z2,z3,e1⟩:=qHz T hi.1 hi.2 (qw L) x2 x3 fun k hk=>upto_mem.mp hk
  obtain ⟨y1,y2,y3,e⟩:=qEd T hL h5 is (some (.int i)) z2 z3 fun q hq=>h q (AD _ hq)
  refine ⟨y1,y2,y3,?_⟩
  unfold apF
  cases hf:(qw L).find? (bad R i) with
  |some k =>
   rw [hf] at e1
   exact zc (r1:=[some (.ref m),some (.int i),x2,x3]) trivial rfl (WM (JO T (by omega) h5 rfl) e1)
  |none =>
   rw [hf] at e1
   exact WY (r1:=[some (.ref m),some (.int i),x2,x3]) trivial rfl (WM (JO T (by omega) h5 rfl) e1) e
theorem qDv {a:Ad} {S:qC} {m n:Nat} {L:Int} {R:List (List Int)} (T:Tb S m n L R) (hL:0 < L) (h5:L≤5):w4 a [.ref m] S = .ok (apP (apF L R (qw L))) S:=by
 obtain ⟨y1,y2,y3,e⟩:=qEd T hL h5 (qw L) none none none fun k hk=>upto_mem.mp hk
 refine QK rfl ?_
 cases hf:apF L R (qw L) with
 |some c=>rw [hf] at e;exact qt (WM (JO T (by omega) h5 rfl) e)
 |none=>rw [hf] at e;exact qW (WM (JO T (by omega) h5 rfl) e) (qk rfl)
theorem qEv {a:Ad} {st:qC} {n:Nat}:qu (n + 1) a [.non,.non] st = .ok (.bl true) st:=by
 refine QK (N:=2) (B:=Qv a (qu n a)) rfl ?_
 unfold Qv
 refine qW (qz (qX (qI (l:=[.non,.tup [.ty "tuple",.ty "list"]]) rfl rfl)) rfl) (qk ?_)
 rfl
theorem jt {a:Ad} {st:qC} {n:Nat} {l m:List PV} (hlm:l.length=m.length) (hl:l.length≤1000) (h:∀ z∈zy l m,∃ u v,z = .tup [u,v]∧qu (n + 1) a [u,v] st = .ok (.bl true) st):qu (n + 2) a [.tup l,.tup m] st = .ok (.bl true) st:=by
 refine QK (N:=2) (B:=Qv a (qu (n + 1) a)) rfl ?_
 unfold Qv
 refine qt (qo (qX (qI (l:=[.tup m,.tup [.ty "tuple",.ty "list"]]) rfl rfl)) (qW (qz (Wl (Qw (qR (qI (l:=[.tup l,.ty "tuple"]) rfl rfl) (qI (l:=[.tup m,.ty "tuple"]) rfl rfl) rfl)) (Qw (qR (qI (l:=[.tup l,.ty "list"]) rfl rfl) (qI (l:=[.tup m,.ty "list"]) rfl rfl) rfl))) rfl) (qk ?_)))
 unfold YB
 rw [qR (p := .int (l.length:Int)) (q := .int (l.length:Int)) (s1:=st) (s2:=st) (R := .ok (.bl true) st) (qI (l:=[.tup l]) rfl (za rfl rfl)) (qI (l:=[.tup m]) rfl (za rfl (by rw [hlm]))) (by rw [WO,At])]
 show qH ZW _ _ _=_
 refine qI (l:=[.lst ((zy l m).map fun p => .bl ((fun _=>true) p))]) (qN (wG (QX (w:=⟨zy l m,fun s=>Wo s (.tup l)=some l∧Wo s (.tup m)=some m⟩) (F:=fun _ => .bl true) rfl ⟨rfl,rfl⟩ (by show (zy l m).length≤_;rw [qC9 hlm];exact Aa hl (by decide)) fun z hz => ?_)) qe) ?_
 ·obtain ⟨u,v,rfl,e⟩:=h z hz
  exact ⟨[some u,some v],rfl,qI (l:=[u,v]) rfl e⟩
 ·rw [yU]
  congr 2
  rw [A9];intro p _;rfl
theorem qEz {lo n hi:Int} {r:QO} {st:qC} {f g h:FE} (e1:f r st = .ok (.int lo) st) (e2:g r st = .ok (.int n) st) (e3:h r st = .ok (.int hi) st):yY gLe gLe f g h r st = .ok (.bl (decide (lo≤n)&&decide (n≤hi))) st:=by
 unfold yY
 rw [e1]
 show (g r st).bind _=_
 rw [e2]
 show ((gLe (.int lo) (.int n) st).bind fun z s3=>match z with | .bl true=>(h r s3).bind fun q s=>gLe (.int n) q s | .bl false=>Rs.ok (.bl false) s3 |_ => .no)=_
 rw [qIN]
 show (match PV.bl (decide (lo≤n)) with | .bl true=>(h r st).bind fun q s=>gLe (.int n) q s | .bl false=>Rs.ok (.bl false) st |_ => .no)=_
 cases decide (lo≤n)
 ·rfl
 ·dsimp only
  rw [e3]
  exact qIN
def okP:PV->Bool
 | .tup l=>Nat.ble l.length 1000&&l.all wS
 |p=>wS p
theorem yb {v:PV} (h:okP v=true):wS v=true:=by cases v <;> first |rfl |exact h
def okV:PV->Bool
 | .tup l=>Nat.ble l.length 1000&&l.all okP
 |p=>wS p
theorem jh {v:PV} (h:okV v=true):wS v=true:=by cases v <;> first |rfl |exact h
theorem YT {a:Ad} {v:PV} {st:qC} (h:wS v=true):Qg (kit a) [v,.ty "tuple"] st = .ok (.bl (match v with | .tup _=>true |_=>false)) st:=by
 cases v <;> first |rfl |cases h
def wq (L:Int):PV->Bool
 | .tup l=>decide ((l.length:Int)=L)&&l.all isInt
 |_=>false
theorem qF0 {a:Ad} {v:PV} {st:qC} (h:wS v=true):zJ a [v] st = .ok (.bl (isInt v)) st:=by
 cases v <;> first |rfl |cases h
theorem jI {a:Ad} {v:PV} {L:Int} {st:qC} (h:okP v=true):Wt a [v,.int L,.int L] st = .ok (.bl (wq L v)) st:=by
 refine QK rfl (qk ?_)
 unfold YB
 rw [qI (l:=[v,.ty "tuple"]) (s1:=st) rfl (YT (yb h))]
 cases v with
 |tup l =>
  have h:(Nat.ble l.length 1000&&l.all wS)=true:=h
  rw [Aj,A9] at h
  show (yY gLe gLe (qB 1) (qH WH (qA (qB 0) qD)) (qB 2) (Q4 3 [.tup l,.int L,.int L]) st).bind _=_
  rw [qEz (lo:=L) (n:=l.length) (hi:=L) rfl (qI rfl (za rfl rfl)) rfl]
  show _=Rs.ok (PV.bl (decide ((l.length:Int)=L)&&l.all isInt)) st
  by_cases q:(l.length:Int)=L
  ·rw [show (decide (L≤(l.length:Int))&&decide ((l.length:Int)≤L))=true by rw [q];simp,Ai q,Bool.true_and]
   show qH ZW _ _ _=_
   refine qI (l:=[.lst (l.map fun p => .bl (isInt p))]) (qN (wG (QX (w:=⟨l,fun _=>True⟩) (F:=fun p => .bl (isInt p)) (Qu rfl) trivial (sz h.1) fun p hp=>⟨[some p],rfl,qI rfl (Yu (h.2 p hp))⟩)) qe) yU
  ·rw [show (decide (L≤(l.length:Int))&&decide ((l.length:Int)≤L))=false by
    rw [Bool.and_eq_false_iff]
    rcases Int.lt_or_le (l.length:Int) L with z |z
    ·exact .inl (Ac (by omega))
    ·exact .inr (Ac (by omega)),Ac q]
   rfl
 |_=>rfl
def wQ:PV->List Int
 | .tup l=>l.map fun p=>match p with | .int i=>i |_=>0
 |_=>[]
theorem ZR {L:Int} {v:PV} (h:wq L v=true):v = .tup ((wQ v).map PV.int)∧((wQ v).length:Int)=L:=by
 cases v with
 |tup l =>
  have h:(decide ((l.length:Int)=L)&&l.all isInt)=true:=h
  rw [Aj,A9] at h
  refine ⟨?_,by show ((l.map _).length:Int)=L;rw [AF];exact Bb h.1⟩
  show PV.tup l=PV.tup ((l.map _).map PV.int)
  rw [A0]
  congr 1
  refine (List.map_id l).symm.trans (BN fun p hp => ?_)
  have:=h.2 p hp
  cases p <;> first |rfl |cases this
 |_=>cases h
theorem qEW (ns:List Int):wu qDU (ns.map PV.int)=some ns:=by
 induction ns with
 |nil=>rfl
 |cons n ns ih=>rw [Ap,wu,ih];rfl
theorem qKu {ns:List Int} {st:qC}:yD [.tup (ns.map PV.int)] st = .ok (.int ns.sum) st:=by
 unfold yD
 dsimp only
 rw [qEW]
theorem qF8 {ns:List Int} {st:qC}:zC [.lst (ns.map PV.int)] st = .ok (.int ns.sum) st:=by
 unfold zC jv
 simp only [asL]
 rw [qEW]
def Y7 (rows:List (List Int)) (k:Int):Int:=(rows.map fun r=>r.getD k.toNat 0).sum
def Y6 (L:Int):PV->Bool
 | .tup l=>decide ((l.length:Int)=L)&&(l.all (wq L)&&(l.all (fun p=>(wQ p).sum==0)&&(qw L).all fun k=>Y7 (l.map wQ) k==0))
 |_=>false
theorem Ja {i:Int} {L:Int} {st:qC}:gNe (.int i) (.int L) st = .ok (.bl (!decide (i=L))) st:=by
 show Rs.ok (PV.bl (!(i==L))) st=_
 by_cases h:i=L
 ·rw [Ai h,B4.mpr h]
 ·rw [Ac h,AH.mpr h]
theorem JL {ns:List Int} {L k:Int} {st:qC} (hl:(ns.length:Int)=L) (h0:0≤k) (h1:k < L):gIx (.tup (ns.map PV.int)) (.int k) st = .ok (.int (ns.getD k.toNat 0)) st :=
 J6 rfl (YE (L:=L) (by omega) h0 h1)
theorem qFn {l:List PV} {L k:Int} {st:qC} {r:QO} {f:FE} (hl:l.length≤1000) (hr:∀ p∈l,wq L p=true) (h0:0≤k) (h1:k < L) (hf:f r st = .ok (.tup l) st) (hk:r[1]? = some (some (.int k))):qH zC (qA (vFz (qc [1] 1 (QA f) (qy 1) [] [] (qM gIx (qB 1) (qB 0)))) qD) r st = .ok (.int (Y7 (l.map wQ) k)) st:=by
 have hcap:zj [1] 1 r=[some (.int k),none]:=by unfold zj;simp [hk]
 have e:=QX (caps:=[1]) (n:=1) (fi:=QA f) (g:=qy 1) (f:=qM gIx (qB 1) (qB 0)) (r:=r) (st:=st) (w:=⟨l,fun _=>True⟩) (F:=fun p => .int ((wQ p).getD k.toNat 0)) (Qu hf) trivial (Aa hl (by decide)) fun p hp=>by
  refine ⟨[some (.int k),some p],by rw [hcap];rfl,?_⟩
  obtain ⟨e1,e2⟩:=ZR (hr p hp)
  have:=JL (st:=st) e2 h0 h1
  rw [← e1] at this
  exact qR rfl rfl this
 refine qI (qN (wG e) qe) ?_
 have:l.map (fun p=>PV.int ((wQ p).getD k.toNat 0))=((l.map wQ).map fun r=>r.getD k.toNat 0).map PV.int:=by rw [A0,A0];rfl
 show zC [.lst (l.map fun p=>PV.int ((wQ p).getD k.toNat 0))] st=_
 rw [this,qF8]
 rfl
theorem qCX {L:Int} {p:PV} {st:qC} (h:wq L p=true):yD [p] st = .ok (.int (wQ p).sum) st:=by
 have:=qKu (ns:=wQ p) (st:=st)
 rw [← (ZR h).1] at this
 exact this
theorem qC4 {a:Ad} {v:PV} {L:Int} {st:qC} (hv:okV v=true) (hL1:2≤L) (hL2:L≤5):Q6 a [.int L,v] st = .ok (.bl (Y6 L v)) st:=by
 refine QK rfl (qW (qBe (qI rfl (qAG hL1 hL2))) ?_)
 have e1:=YT (a:=a) (st:=st) (jh hv)
 cases v with
 |tup l =>
  have e1:Qg (kit a) [.tup l,.ty "tuple"] st = .ok (.bl true) st:=e1
  have hv:(Nat.ble l.length 1000&&l.all okP)=true:=hv
  rw [Aj,A9] at hv
  have hl:l.length≤1000:=Nat.le_of_ble_eq_true hv.1
  have e2:vTB (qM gNe (qH WH (qA (qB 1) qD)) (qB 0)) (Q4 2 [.int L,.tup l]) st = .ok (!decide ((l.length:Int)=L)) st:=Qw (qR (qI (l:=[.tup l]) rfl (za rfl rfl)) rfl Ja)
  show _=RS.rt (PV.bl (decide ((l.length:Int)=L)&&(l.all (wq L)&&(l.all (fun p=>(wQ p).sum==0)&&(qw L).all fun k=>Y7 (l.map wQ) k==0)))) st
  by_cases q:(l.length:Int)=L
  ·rw [Ai q] at e2 ⊢
   refine qW (qz (Wl (w_not (b:=true) (qX (qI (l:=[.tup l,.ty "tuple"]) rfl e1))) e2) rfl) ?_
   have e3:qH ZW (qA (vFz (qc [0] 1 (QA (qB 1)) (qy 1) [] [] (qH (Wt a) (qA (qB 1) (qA (qB 0) (qA (qB 0) qD)))))) qD) (Q4 2 [.int L,.tup l]) st = .ok (.bl (l.all (wq L))) st :=
    qI (l:=[.lst (l.map fun p => .bl (wq L p))]) (qN (wG (QX (w:=⟨l,fun _=>True⟩) (F:=fun p => .bl (wq L p)) (Qu rfl) trivial (Aa hl (by decide)) fun p hp=>⟨[some (.int L),some p],rfl,qI (l:=[p,.int L,.int L]) rfl (jI (hv.2 p hp))⟩)) qe) yU
   cases hr:l.all (wq L) with
   |false=>rw [hr] at e3;exact qt (qo (w_not (b:=false) (qX e3)) (qk rfl))
   |true =>
    rw [hr] at e3
    have hr:=A9.mp hr
    refine qW (qz (w_not (b:=true) (qX e3)) rfl) ?_
    have e4:qH ZW (qA (vFz (qc [] 1 (QA (qB 1)) (qy 0) [] [] (qM gEq (qH yD (qA (qB 0) qD)) (vC (.int 0))))) qD) (Q4 2 [.int L,.tup l]) st = .ok (.bl (l.all fun p=>(wQ p).sum==0)) st :=
     qI (l:=[.lst (l.map fun p => .bl ((wQ p).sum==0))]) (qN (wG (QX (w:=⟨l,fun _=>True⟩) (F:=fun p => .bl ((wQ p).sum==0)) (Qu rfl) trivial (Aa hl (by decide)) fun p hp=>⟨[some p],rfl,qR (qI (l:=[p]) rfl (qCX (hr p hp))) rfl WO⟩)) qe) yU
    cases hs:l.all (fun p=>(wQ p).sum==0) with
    |false=>rw [hs] at e4;exact qt (qo (w_not (b:=false) (qX e4)) (qk rfl))
    |true =>
     rw [hs] at e4
     refine qW (qz (w_not (b:=true) (qX e4)) rfl) (qk ?_)
     let G:PV->Bool:=fun p=>match p with | .int k=>Y7 (l.map wQ) k==0 |_=>false
     refine (qI (l:=[.lst (((qw L).map PV.int).map fun p => .bl (G p))]) (qN (wG (QX (w:=⟨(qw L).map PV.int,fun _=>True⟩) (F:=fun p => .bl (G p)) (itN (by omega) (by omega) rfl) trivial (by rw [AF,QQ];exact w5 (by omega)) fun p hp => ?_)) qe) yU).trans ?_
     ·obtain ⟨k,hk,rfl⟩:=Al.mp hp
      have hk:=upto_mem.mp hk
      exact ⟨[some (.tup l),some (.int k)],rfl,qR (qFn hl hr hk.1 hk.2 rfl rfl) rfl WO⟩
     ·rw [List.all_map];rfl
  ·rw [Ac q] at e2 ⊢
   exact qt (qo (Wl (w_not (b:=true) (qX (qI (l:=[.tup l,.ty "tuple"]) rfl e1))) e2) (qk rfl))
 |non=>exact qt (qo (wB (w_not (b:=false) (qX (qI (l:=[.non,.ty "tuple"]) rfl e1)))) (qk rfl))
 |bl x=>exact qt (qo (wB (w_not (b:=false) (qX (qI (l:=[.bl x,.ty "tuple"]) rfl e1)))) (qk rfl))
 |int x=>exact qt (qo (wB (w_not (b:=false) (qX (qI (l:=[.int x,.ty "tuple"]) rfl e1)))) (qk rfl))
 |str x=>exact qt (qo (wB (w_not (b:=false) (qX (qI (l:=[.str x,.ty "tuple"]) rfl e1)))) (qk rfl))
 |lst x=>exact qt (qo (wB (w_not (b:=false) (qX (qI (l:=[.lst x,.ty "tuple"]) rfl e1)))) (qk rfl))
 |dct=>exact qt (qo (wB (w_not (b:=false) (qX (qI (l:=[.dct,.ty "tuple"]) rfl e1)))) (qk rfl))
 |_=>cases hv
theorem qGM {a:Ad} {p v:PV} {L:Int} {st:qC} (h:okP p=true):Jc a [some (.int L),some v,some p] st=if wq L p=true then .nx [some (.int L),some v,some p] st else .rt (.bl false) st:=by
 have e1:=YT (a:=a) (st:=st) (yb h)
 cases p with
 |tup l =>
  have e1:Qg (kit a) [.tup l,.ty "tuple"] st = .ok (.bl true) st:=e1
  have h:(Nat.ble l.length 1000&&l.all wS)=true:=h
  rw [Aj,A9] at h
  have e2:vTB (qM gNe (qH WH (qA (qB 2) qD)) (qB 0)) [some (.int L),some v,some (.tup l)] st = .ok (!decide ((l.length:Int)=L)) st:=Qw (qR (qI (l:=[.tup l]) rfl (za rfl rfl)) rfl Ja)
  have e3:qH ZW (qA (vFz (qc [] 1 (QA (qB 2)) (qy 0) [] [] (qH (zJ a) (qA (qB 0) qD)))) qD) [some (.int L),some v,some (.tup l)] st = .ok (.bl (l.all isInt)) st :=
   qI (l:=[.lst (l.map fun p => .bl (isInt p))]) (qN (wG (QX (w:=⟨l,fun _=>True⟩) (F:=fun p => .bl (isInt p)) (Qu rfl) trivial (sz h.1) fun p hp=>⟨[some p],rfl,qI rfl (qF0 (h.2 p hp))⟩)) qe) yU
  show _=if (decide ((l.length:Int)=L)&&l.all isInt)=true then _ else _
  unfold Jc
  cases q:decide ((l.length:Int)=L) with
  |false =>
   rw [q] at e2
   exact qo (Wl (w_not (b:=true) (qX (qI (l:=[.tup l,.ty "tuple"]) rfl e1))) (wB e2)) (qk rfl)
  |true =>
   rw [q] at e2
   cases z:l.all isInt with
   |false =>
    rw [z] at e3
    exact qo (Wl (w_not (b:=true) (qX (qI (l:=[.tup l,.ty "tuple"]) rfl e1))) (Wl e2 (w_not (b:=false) (qX e3)))) (qk rfl)
   |true =>
    rw [z] at e3
    exact qz (Wl (w_not (b:=true) (qX (qI (l:=[.tup l,.ty "tuple"]) rfl e1))) (Wl e2 (w_not (b:=true) (qX e3)))) rfl
 |non=>exact qo (wB (w_not (b:=false) (qX (qI (l:=[.non,.ty "tuple"]) rfl e1)))) (qk rfl)
 |bl x=>exact qo (wB (w_not (b:=false) (qX (qI (l:=[.bl x,.ty "tuple"]) rfl e1)))) (qk rfl)
 |int x=>exact qo (wB (w_not (b:=false) (qX (qI (l:=[.int x,.ty "tuple"]) rfl e1)))) (qk rfl)
 |str x=>exact qo (wB (w_not (b:=false) (qX (qI (l:=[.str x,.ty "tuple"]) rfl e1)))) (qk rfl)
 |lst x=>exact qo (wB (w_not (b:=false) (qX (qI (l:=[.lst x,.ty "tuple"]) rfl e1)))) (qk rfl)
 |dct=>exact qo (wB (w_not (b:=false) (qX (qI (l:=[.dct,.ty "tuple"]) rfl e1)))) (qk rfl)
 |_=>cases h
theorem qCg {a:Ad} {v:PV} {L:Int} {st:qC}:∀ (l:List PV) (x2:Option PV),(∀ p∈l,okP p=true) -> ∃ y2,Qo (fun _=>True) (QY 2) (Jc a) l [some (.int L),some v,x2] st=if l.all (wq L)=true then .nx [some (.int L),some v,y2] st else .rt (.bl false) st
 |[],x2,_=>⟨x2,Qa trivial⟩
 |p::l,x2,h=>by
  obtain ⟨y2,e⟩:=qCg (a:=a) (v:=v) (L:=L) (st:=st) l (some p) fun q hq=>h q (AD _ hq)
  have e1:=qGM (a:=a) (v:=v) (L:=L) (st:=st) (h p AI)
  refine ⟨y2,?_⟩
  rw [Cm]
  cases hp:wq L p with
  |false=>rw [hp] at e1;exact zc (r1:=[some (.int L),some v,some p]) trivial rfl e1
  |true=>rw [hp] at e1;exact WY (r1:=[some (.int L),some v,some p]) trivial rfl e1 e
theorem Jz {L:Int}:∀ {l:List PV},(∀ p∈l,wq L p=true)->nrs l=true∧deps l≤1
 |[],_=>⟨rfl,BJ _⟩
 |p::l,h=>by
  obtain ⟨i1,i2⟩:=Jz (l:=l) fun q hq=>h q (AD _ hq)
  obtain ⟨e,_⟩:=ZR (h p AI)
  have k:∀ ns:List Int,nrs (ns.map PV.int)=true∧deps (ns.map PV.int)=0:=fun ns=>by
   induction ns with
   |nil=>exact ⟨rfl,rfl⟩
   |cons n ns ih=>exact ⟨by rw [Ap,nrs,ih.1];rfl,by rw [Ap,deps,ih.2];rfl⟩
  rw [e]
  refine ⟨?_,?_⟩
  ·rw [nrs,i1];show (nrs ((wQ p).map PV.int)&&true)=true;rw [(k _).1];rfl
  ·rw [deps]
   have:dep (.tup ((wQ p).map PV.int))=1:=by show deps ((wQ p).map PV.int) + 1=1;rw [(k _).2]
   omega
theorem qIZ {l:List PV} {st:qC} (h1:nrs l=true) (h2:deps l≤1):gNe (.lst l) (.lst []) st = .ok (.bl (!l.isEmpty)) st:=by
 have h3:Y8 (.lst l) (.lst [])=true:=by
  show (nrs l&&true&&decide (deps l + 1≤y0))=true
  rw [h1,Ai (Aa (CQ h2) (by decide))];rfl
 show (if Y8 (.lst l) (.lst [])=true then Rs.ok (PV.bl (!peq (PV.lst l) (PV.lst []))) st else Rs.no)=_
 rw [AG h3]
 cases l <;> rfl
theorem qHP {l:List PV} {st:qC} (h1:nrs l=true) (h2:deps l≤1):gEq (.lst l) (.lst []) st = .ok (.bl l.isEmpty) st:=by
 have h3:Y8 (.lst l) (.lst [])=true:=by
  show (nrs l&&true&&decide (deps l + 1≤y0))=true
  rw [h1,Ai (Aa (CQ h2) (by decide))];rfl
 show (if Y8 (.lst l) (.lst [])=true then Rs.ok (PV.bl (peq (PV.lst l) (PV.lst []))) st else Rs.no)=_
 rw [AG h3]
 cases l <;> rfl
theorem Z0 {α:Type} {l:List α} {c:α->Bool}:(l.filter fun x => !c x).isEmpty=l.all c:=by
 induction l with
 |nil=>rfl
 |cons x l ih =>
  rw [Bv,Cm]
  cases h:c x <;> simp [ih]
theorem qA8 {a:Ad} {v:PV} {L:Int} {st:qC} (hv:okV v=true) (hL1:2≤L) (hL2:L≤5):Q0 a [.int L,v] st = .ok (.bl (Y6 L v)) st:=by
 refine QK rfl ?_
 have e1:=YT (a:=a) (st:=st) (jh hv)
 cases v with
 |tup l =>
  have e1:Qg (kit a) [.tup l,.ty "tuple"] st = .ok (.bl true) st:=e1
  have hv:(Nat.ble l.length 1000&&l.all okP)=true:=hv
  rw [Aj,A9] at hv
  have hl:l.length≤1000:=Nat.le_of_ble_eq_true hv.1
  have e2:vTB (qM gNe (qH WH (qA (qB 1) qD)) (qB 0)) (Q4 3 [.int L,.tup l]) st = .ok (!decide ((l.length:Int)=L)) st:=Qw (qR (qI (l:=[.tup l]) rfl (za rfl rfl)) rfl Ja)
  show _=RS.rt (PV.bl (decide ((l.length:Int)=L)&&(l.all (wq L)&&(l.all (fun p=>(wQ p).sum==0)&&(qw L).all fun k=>Y7 (l.map wQ) k==0)))) st
  by_cases q:(l.length:Int)=L
  ·rw [Ai q] at e2 ⊢
   refine qW (qz (Wl (w_not (b:=true) (qX (qI (l:=[.tup l,.ty "tuple"]) rfl e1))) e2) rfl) ?_
   obtain ⟨y2,e3⟩:=qCg (a:=a) (v := .tup l) (L:=L) (st:=st) l none hv.2
   cases hr:l.all (wq L) with
   |false=>rw [hr] at e3;exact qt (WM (Qu rfl) e3)
   |true =>
    rw [hr] at e3
    have hr:=A9.mp hr
    refine qW (WM (Qu rfl) e3) ?_
    have hfl:∀ p∈l.filter (fun p => !((wQ p).sum==0)),wq L p=true:=fun p hp=>hr p (List.mem_filter.mp hp).1
    obtain ⟨n1,n2⟩:=Jz hfl
    have e4:vTB (qM gNe (vFz (qc [] 1 (QA (qB 1)) (qy 0) [(vTB (qM gNe (qH yD (qA (qB 0) qD)) (vC (.int 0))))] [] (qB 0))) (vFz (Qe qD))) [some (.int L),some (.tup l),y2] st = .ok (!l.all (fun p=>(wQ p).sum==0)) st:=by
     rw [← Z0]
     refine Qw (qR (wG (Wr (w:=⟨l,fun _=>True⟩) (c:=fun p => !((wQ p).sum==0)) (Qu rfl) trivial (Aa hl (by decide)) fun p hp=>⟨[some p],rfl,Qw (qR (qI (l:=[p]) rfl (qCX (hr p hp))) rfl JJ),rfl⟩)) rfl (qIZ n1 n2))
    cases hs:l.all (fun p=>(wQ p).sum==0) with
    |false=>rw [hs] at e4;exact qt (qo e4 (qk rfl))
    |true =>
     rw [hs] at e4
     refine qW (qz e4 rfl) (qk ?_)
     let G:PV->Bool:=fun p=>match p with | .int k=>Y7 (l.map wQ) k==0 |_=>false
     have e5:qc [1] 1 (QM (qA (qB 0) qD)) (qy 1) [(vTB (qM gNe (qH zC (qA (vFz (qc [1] 1 (QA (qB 0)) (qy 1) [] [] (qM gIx (qB 1) (qB 0)))) qD)) (vC (.int 0))))] [] (qB 1) [some (.int L),some (.tup l),y2] st = .ok (((qw L).map PV.int).filter fun p => !G p) st :=
      Wr (w:=⟨(qw L).map PV.int,fun _=>True⟩) (c:=fun p => !G p) (itN (by omega) (by omega) rfl) trivial (by rw [AF,QQ];exact w5 (by omega)) fun p hp=>by
       obtain ⟨k,hk,rfl⟩:=Al.mp hp
       have hk:=upto_mem.mp hk
       exact ⟨[some (.tup l),some (.int k)],rfl,Qw (qR (qFn hl hr hk.1 hk.2 rfl rfl) rfl JJ),rfl⟩
     have hn:nrs (((qw L).map PV.int).filter fun p => !G p)=true∧deps (((qw L).map PV.int).filter fun p => !G p)≤1:=by
      generalize qw L=us
      induction us with
      |nil=>exact ⟨rfl,BJ _⟩
      |cons u us ih =>
       rw [Ap,Bv]
       split
       ·exact ⟨by rw [nrs,ih.1];rfl,by rw [deps];have:dep (PV.int u)=0:=rfl;omega⟩
       ·exact ih
     refine (qR (wG e5) rfl (qHP hn.1 hn.2)).trans ?_
     rw [Z0,List.all_map]
     rfl
  ·rw [Ac q] at e2 ⊢
   exact qt (qo (Wl (w_not (b:=true) (qX (qI (l:=[.tup l,.ty "tuple"]) rfl e1))) e2) (qk rfl))
 |non=>exact qt (qo (wB (w_not (b:=false) (qX (qI (l:=[.non,.ty "tuple"]) rfl e1)))) (qk rfl))
 |bl x=>exact qt (qo (wB (w_not (b:=false) (qX (qI (l:=[.bl x,.ty "tuple"]) rfl e1)))) (qk rfl))
 |int x=>exact qt (qo (wB (w_not (b:=false) (qX (qI (l:=[.int x,.ty "tuple"]) rfl e1)))) (qk rfl))
 |str x=>exact qt (qo (wB (w_not (b:=false) (qX (qI (l:=[.str x,.ty "tuple"]) rfl e1)))) (qk rfl))
 |lst x=>exact qt (qo (wB (w_not (b:=false) (qX (qI (l:=[.lst x,.ty "tuple"]) rfl e1)))) (qk rfl))
 |dct=>exact qt (qo (wB (w_not (b:=false) (qX (qI (l:=[.dct,.ty "tuple"]) rfl e1)))) (qk rfl))
 |_=>cases hv
def wtF (L:Int) (rows:List (List Int)) (F:List ql):Int:=(F.map fun c=>rc rows (c.1 % L) (c.2 % L)).sum
theorem qEl {l:List PV} {L:Int} {F:List ql} {st:qC} (hL:0 < L) (hF:F.length≤1000) (hl:(l.length:Int)=L) (hr:∀ p∈l,wq L p=true):wtE [some (.tup (F.map cP)),some (.int L),some (.tup l)] st = .ok (.int (wtF L (l.map wQ) F)) st:=by
 unfold wtE
 let G:PV->PV:=fun p => .int (rc (l.map wQ) ((unC p).1 % L) ((unC p).2 % L))
 have e:=QX (caps:=[2,1]) (n:=2) (fi:=QA (qB 0)) (g:=yj 2 (wV (qy 2) (wV (qy 3) yz))) (f:=qM gIx (qM gIx (qB 0) (qM Ws (qB 2) (qB 1))) (qM Ws (qB 3) (qB 1))) (r:=[some (.tup (F.map cP)),some (.int L),some (.tup l)]) (st:=st) (w:=⟨F.map cP,fun _=>True⟩) (F:=G) (Qu rfl) trivial (by rw [AF];exact Aa hF (by decide)) fun p hp=>by
  obtain ⟨c,_,rfl⟩:=Al.mp hp
  have hi:=Qm (x:=c.1) hL
  have hk:=Qm (x:=c.2) hL
  have hil:(c.1 % L).toNat < l.length:=by omega
  refine ⟨[some (.tup l),some (.int L),some (.int c.1),some (.int c.2)],rfl,?_⟩
  obtain ⟨n1,n2⟩:=ZR (hr _ (B9 hil))
  have e1:gIx (.tup l) (.int (c.1 % L)) st = .ok l[(c.1 % L).toNat] st:=by
   refine J6 rfl ?_
   unfold L2.atI
   rw [zn hi.1 (by omega)]
   exact AE hil
  have e2:=JL (st:=st) n2 hk.1 hk.2
  rw [← n1] at e2
  refine (qR (qR rfl (qR rfl rfl (je hL)) e1) (qR rfl rfl (je hL)) e2).trans ?_
  show _=Rs.ok (PV.int (((l.map wQ).getD (c.1 % L).toNat []).getD (c.2 % L).toNat 0)) st
  rw [AK (l:=l.map wQ),Ao,AE hil];rfl
 refine qI (qN (wG e) qe) ?_
 show zC [.lst ((F.map cP).map G)] st=_
 rw [show (F.map cP).map G=(F.map fun c=>rc (l.map wQ) (c.1 % L) (c.2 % L)).map PV.int by rw [A0,A0];rfl,qF8]
 rfl
theorem qAf {L:Int} {v:PV} (h:Y6 L v=true):∃ l,v = .tup l∧(l.length:Int)=L ∧ ∀ p∈l,wq L p=true:=by
 cases v with
 |tup l =>
  have h:(decide ((l.length:Int)=L)&&(l.all (wq L)&&(l.all (fun p=>(wQ p).sum==0)&&(qw L).all fun k=>Y7 (l.map wQ) k==0)))=true:=h
  rw [Aj,Aj] at h
  exact ⟨l,rfl,Bb h.1,A9.mp h.2.1⟩
 |_=>cases h
def Ye:PV->List (List Int)
 | .tup l=>l.map wQ
 |_=>[]
theorem Yv {a:Ad} {v:PV} {L:Int} {F:List ql} {st:qC} (hL1:2≤L) (hL2:L≤5) (hF:F.length≤40) (h:Y6 L v=true):WK a [.tup (F.map cP),.int L,v] st = .ok (.int (wtF L (Ye v) F)) st:=by
 obtain ⟨l,rfl,h1,h2⟩:=qAf h
 exact QK rfl (qk (qEl (by omega) (by omega) h1 h2))
theorem qDG {a:Ad} {v:PV} {L:Int} {F:List ql} {st:qC} (hv:okV v=true) (hL1:2≤L) (hL2:L≤5) (hF:F.length≤40):wW a [.tup (F.map cP),.int L,v] st=if Y6 L v=true then .ok (.int (wtF L (Ye v) F)) st else .ex ⟨a.Z5,[]⟩ st:=by
 have e:=qC4 (a:=a) (st:=st) hv hL1 hL2
 cases h:Y6 L v with
 |true =>
  rw [h] at e
  rw [AG rfl]
  obtain ⟨l,rfl,h1,h2⟩:=qAf h
  exact QK rfl (qW (qz (w_not (b:=true) (qX (qI (l:=[.int L,.tup l]) rfl e))) rfl) (qk (qEl (by omega) (by omega) h1 h2)))
 |false =>
  rw [h] at e
  rw [AN (by simp)]
  refine Ww rfl (WJ (qo (w_not (b:=false) (qX (qI (l:=[.int L,v]) rfl e))) ?_))
  have hj:∃ x,vJ [(vC (.str "weights are ")),(qBZ (qB 1)),(vC (.str " tuples of ")),(qBZ (qB 1)),(vC (.str " whole numbers, each line of them coming to 0"))] Str.empty (Q4 3 [.tup (F.map cP),.int L,v]) st = .ok (.str x) st:=by
   have:L=2∨L=3∨L=4∨L=5:=by omega
   rcases this with rfl |rfl |rfl |rfl <;> exact ⟨_,rfl⟩
  obtain ⟨x,hx⟩:=hj
  unfold yL
  rw [qN hx qe]
  rfl
def lP (r:List Int):PV := .lst (r.map PV.int)
def tP (r:List Int):PV := .tup (r.map PV.int)
def wP (rows:List (List Int)):PV := .tup (rows.map tP)
theorem qAD {a:Ad} {st j:qC} {fi:FI} {M:Int} (h0:0 < 2 * M + 1) (h1:2 * M + 1 < 2 ^ 64) (h2:M < 2 ^ 60):∀ (ks:List PV) (x:Int),∃ (ds:List Int) (y:Int),ds.length=ks.length∧qx (fun _=>True) (Qk ⟨fi,qy 2,[]⟩ (Qx [] (qM zU (qH (qT a) (qA (qB 1) (qA (qM Qf (qM ZE (vC (.int 2)) (qB 0)) (vC (.int 1))) qD))) (qB 0))) [some (.int M),some (.ref st.length),none]) ks (st ++ .l [.int x]::j) = .ok (ds.map PV.int) (st ++ .l [.int y]::j)
 |[],x=>⟨[],x,rfl,WB trivial⟩
 |k::ks,x=>by
  have t1:=QZ (a:=a) (st:=st) (j:=j) (x:=x) (m:=2 * M + 1) h0 h1
  obtain ⟨ds,y,e1,e2⟩:=qAD (a:=a) (st:=st) (j:=j) (fi:=fi) h0 h1 h2 ks (x / (2 * M + 1))
  refine ⟨(x % (2 * M + 1) - M)::ds,y,by rw [AU,AU,e1],?_⟩
  exact Wq (l:=[.int (x % (2 * M + 1) - M)]) trivial (Ze (r':=[some (.int M),some (.ref st.length),some k]) rfl (qR (qI (l:=[.ref st.length,.int (2 * M + 1)]) (qN rfl (qN (qR (qR rfl rfl (qII ⟨by decide,by decide⟩)) rfl W4) qe)) t1) rfl Yh)) e2
theorem ZG {st j:qC} {b o:SO}:(st++b::(j++[o]))[st.length + 1 + j.length]? = some o:=qG4 (by simp)
theorem qCn {st j:qC} {b o o':SO}:(st++b::(j++[o])).set (st.length + 1 + j.length) o'=st++b::(j++[o']):=by
 rw [qH5 (by simp),BQ _ _ (AL _),Bm];rfl
theorem qC0 {a:Ad} {st j:qC} {L M:Int} (hL1:2≤L) (hL2:L≤5) (h0:0 < 2 * M + 1) (h1:2 * M + 1 < 2 ^ 64) (h2:M < 2 ^ 60):∀ (ks:List PV) (x:Int) (rows:List (List Int)) (x4 x5:Option PV),(∀ r∈rows,(r.length:Int)=L)->rows.length + ks.length≤10 -> ∃ (rows':List (List Int)) (y:Int) (y4 y5:Option PV),rows'.length=rows.length + ks.length∧(∀ r∈rows',(r.length:Int)=L) ∧
  Qo (fun _=>True) (QY 4) (qD1 a) ks [some (.ref st.length),some (.int L),some (.int M),some (.ref (st.length + 1 + j.length)),x4,x5] (st ++ .l [.int x]::(j++[.l (rows.map lP)])) = .nx [some (.ref st.length),some (.int L),some (.int M),some (.ref (st.length + 1 + j.length)),y4,y5] (st ++ .l [.int y]::(j++[.l (rows'.map lP)]))
 |[],x,rows,x4,x5,hr,_=>⟨rows,x,x4,x5,rfl,hr,Qa trivial⟩
 |k::ks,x,rows,x4,x5,hr,hb=>by
  rw [AU] at hb
  obtain ⟨ds,y,d1,d2⟩:=qAD (a:=a) (st:=st) (j:=j++[.l (rows.map lP)]) (fi:=QM (qA (qM zU (qB 1) (vC (.int 1))) qD)) h0 h1 h2 ((qw (L - 1)).map PV.int) x
  rw [AF,QQ] at d1
  have hnew:((ds++[0 - ds.sum]).length:Int)=L:=by rw [AO,Ag,d1];omega
  obtain ⟨rows',z,y4,y5,i1,i2,i3⟩:=qC0 (a:=a) (st:=st) (j:=j) hL1 hL2 h0 h1 h2 ks y (rows++[ds++[0 - ds.sum]]) (some k) (some (lP ds)) (fun r h=>by
   rcases Ar.mp h with q |q
   ·exact hr r q
   ·rw [Ak.mp q];exact hnew) (by rw [AO,Ag];omega)
  refine ⟨rows',z,y4,y5,by rw [i1,AO,Ag,AU];omega,i2,?_⟩
  refine WY (r1:=[some (.ref st.length),some (.int L),some (.int M),some (.ref (st.length + 1 + j.length)),some k,x5]) trivial rfl ?_ i3
  have ed:qc [2,0] 1 (QM (qA (qM zU (qB 1) (vC (.int 1))) qD)) (qy 2) [] [] (qM zU (qH (qT a) (qA (qB 1) (qA (qM Qf (qM ZE (vC (.int 2)) (qB 0)) (vC (.int 1))) qD))) (qB 0)) [some (.ref st.length),some (.int L),some (.int M),some (.ref (st.length + 1 + j.length)),some k,x5] (st ++ .l [.int x]::(j++[.l (rows.map lP)])) = .ok (ds.map PV.int) (st ++ .l [.int y]::(j++[.l (rows.map lP)])) :=
   Zr (w:=⟨(qw (L - 1)).map PV.int,fun _=>True⟩) (itN (by omega) (by omega) (qN (qR rfl rfl Yh) qe)) d2 (by rw [AF];exact w5 (by omega))
  have ec:zD (qB 5) (vFz (Qe (qA (qM zU (vC (.int 0)) (qH zC (qA (qB 5) qD))) qD))) [some (.ref st.length),some (.int L),some (.int M),some (.ref (st.length + 1 + j.length)),some k,some (lP ds)] (st ++ .l [.int y]::(j++[.l (rows.map lP)])) = .ok ((ds++[0 - ds.sum]).map PV.int) (st ++ .l [.int y]::(j++[.l (rows.map lP)])):=by
   rw [BX]
   exact yw (l:=ds.map PV.int) (m:=[.int (0 - ds.sum)]) rfl (wG (Ya (qN (qR rfl (qI (l:=[lP ds]) rfl qF8) Yh) qe) (sz rfl))) rfl rfl (by rw [AF];show ds.length + 1≤_;exact w5 (by omega))
  unfold qD1
  refine qW (Ql (wG ed)) ?_
  have:=yJ (fo:=qB 3) (f:=vFz (zD (qB 5) (vFz (Qe (qA (qM zU (vC (.int 0)) (qH zC (qA (qB 5) qD))) qD))))) (r:=[some (.ref st.length),some (.int L),some (.int M),some (.ref (st.length + 1 + j.length)),some k,some (lP ds)]) (st:=st ++ .l [.int y]::(j++[.l (rows.map lP)])) (n:=st.length + 1 + j.length) rfl (qEb ZG) (wG ec) ZG (by rw [AF];exact BY (show rows.length≤10 by omega) (by decide))
  rw [qCn] at this
  rw [BX]
  exact this
theorem qBQ {a:Ad} {st j:qC} {x L:Int} (hL1:2≤L) (hL2:L≤5):∃ (rows:List (List Int)) (y:Int) (g:qC),Sq L rows∧zS a [.ref st.length,.int L] (st ++ .l [.int x]::j) = .ok (wP rows) (st ++ .l [.int y]::(j++g)):=by
 have t1:=QZ (a:=a) (st:=st) (j:=j) (x:=x) (m:=3) (by decide) (by decide)
 have hm:∃ M:Int,0 < 2 * M + 1∧2 * M + 1 < 2 ^ 64∧M < 2 ^ 60∧gIx (.lst [.int 3,.int 20,.int 1000000000000]) (.int (x % 3)) (st ++ .l [.int (x / 3)]::j) = .ok (.int M) (st ++ .l [.int (x / 3)]::j):=by
  have:x % 3=0∨x % 3=1∨x % 3=2:=by omega
  rcases this with h |h |h <;> rw [h]
  ·exact ⟨3,by decide,by decide,by decide,rfl⟩
  ·exact ⟨20,by decide,by decide,by decide,rfl⟩
  ·exact ⟨1000000000000,by decide,by decide,by decide,rfl⟩
 obtain ⟨M,h0,h1,h2,em⟩:=hm
 obtain ⟨rows,y,y4,y5,i1,i2,i3⟩:=qC0 (a:=a) (st:=st) (j:=j) hL1 hL2 h0 h1 h2 ((qw (L - 1)).map PV.int) (x / 3) [] none none (fun r h=>(AY h).elim) (by rw [AF,QQ,Bn];omega)
 rw [Bn,Nat.zero_add,AF,QQ] at i1
 let last:List Int:=(qw L).map fun k=>0 - Y7 rows k
 have hll:(last.length:Int)=L:=by show (((qw L).map _).length:Int)=L;rw [AF,QQ];omega
 have hall:∀ r∈rows++[last],(r.length:Int)=L:=fun r h=>by
  rcases Ar.mp h with q |q
  ·exact i2 r q
  ·rw [Ak.mp q];exact hll
 refine ⟨rows++[last],y,[.l ((rows++[last]).map lP)],⟨by rw [AO,Ag,i1];omega,fun r h=>by have:=hall r h;omega⟩,QK rfl ?_⟩
 unfold ZY
 refine qW (Ql (p := .int M) (qR (p := .lst [.int 3,.int 20,.int 1000000000000]) (q := .int (x % 3)) rfl (qI (l:=[.ref st.length,.int 3]) rfl t1) em)) ?_
 have e1:(st++SO.l [.int (x / 3)]::j).length=st.length + 1 + j.length:=by rw [AO,AU];omega
 have e2:st++SO.l [.int (x / 3)]::j++[SO.l []]=st++SO.l [.int (x / 3)]::(j++[.l []]):=by rw [Ab];rfl
 refine qW (r':=[some (.ref st.length),some (.int L),some (.int M),some (.ref (st.length + 1 + j.length)),none,none]) (s1:=st++SO.l [.int (x / 3)]::(j++[.l []])) ?_ ?_
 ·rw [Zy (l:=[]) (s1:=st++SO.l [.int (x / 3)]::j) rfl,e1,e2];rfl
 refine qW (WM (itN (L:=L - 1) (by omega) (by omega) (qN (qR rfl rfl Yh) qe)) i3) ?_
 have hcol:∀ k,0≤k->k < L->qH zC (qA (vFz (qc [1] 1 (QA (qB 0)) (qy 1) [] [] (qM gIx (qB 1) (qB 0)))) qD) [some (.ref (st.length + 1 + j.length)),some (.int k)] (st ++ .l [.int y]::(j++[.l (rows.map lP)])) = .ok (.int (Y7 rows k)) (st ++ .l [.int y]::(j++[.l (rows.map lP)])):=fun k k0 k1=>by
  let G:PV->PV:=fun p=>match p with | .lst l => .int ((l.map fun p=>match p with | .int i=>i |_=>0).getD k.toNat 0) |_ => .non
  have e:=QX (caps:=[1]) (n:=1) (fi:=QA (qB 0)) (g:=qy 1) (f:=qM gIx (qB 1) (qB 0)) (r:=[some (.ref (st.length + 1 + j.length)),some (.int k)]) (st:=st ++ .l [.int y]::(j++[.l (rows.map lP)])) (w:=⟨rows.map lP,fun s=>s[st.length + 1 + j.length]? = some (.l (rows.map lP))⟩) (F:=G) (Zi rfl ZG) ZG (by rw [AF,i1];exact w5 (by omega)) fun p hp=>by
   obtain ⟨r,hr,rfl⟩:=Al.mp hp
   refine ⟨[some (.int k),some (lP r)],rfl,(qR rfl rfl (J6 rfl (YE (l:=r) (L:=L) (by have:=i2 r hr;omega) k0 k1))).trans ?_⟩
   show _=Rs.ok (PV.int (((r.map PV.int).map fun p=>match p with | .int i=>i |_=>0).getD k.toNat 0)) _
   rw [A0,show ((fun p=>match p with | .int i=>i |_=>0) ∘ PV.int:Int->Int)=id from rfl,List.map_id]
  refine qI (qN (wG e) qe) ?_
  show zC [.lst ((rows.map lP).map G)] _=_
  rw [show (rows.map lP).map G=(rows.map fun r=>r.getD k.toNat 0).map PV.int by
   rw [A0,A0]
   refine BN fun r _ => ?_
   show PV.int (((r.map PV.int).map fun p=>match p with | .int i=>i |_=>0).getD k.toNat 0)=PV.int (r.getD k.toNat 0)
   rw [A0,show ((fun p=>match p with | .int i=>i |_=>0) ∘ PV.int:Int->Int)=id from rfl,List.map_id],qF8]
  rfl
 let G2:PV->PV:=fun p=>match p with | .int k => .int (0 - Y7 rows k) |_ => .non
 have el:qc [3] 1 (QM (qA (qB 1) qD)) (qy 1) [] [] (qM zU (vC (.int 0)) (qH zC (qA (vFz (qc [1] 1 (QA (qB 0)) (qy 1) [] [] (qM gIx (qB 1) (qB 0)))) qD))) [some (.ref st.length),some (.int L),some (.int M),some (.ref (st.length + 1 + j.length)),y4,y5] (st ++ .l [.int y]::(j++[.l (rows.map lP)])) = .ok (last.map PV.int) (st ++ .l [.int y]::(j++[.l (rows.map lP)])):=by
  rw [show last.map PV.int=((qw L).map PV.int).map G2 by show ((qw L).map _).map PV.int=_;rw [A0,A0];rfl]
  refine QX (F:=G2) (itN (by omega) (by omega) rfl) trivial (by rw [AF,QQ];exact w5 (by omega)) fun p hp => ?_
  obtain ⟨k,hk,rfl⟩:=Al.mp hp
  have hk:=upto_mem.mp hk
  exact ⟨[some (.ref (st.length + 1 + j.length)),some (.int k)],rfl,qR rfl (hcol k hk.1 hk.2) Yh⟩
 have ha:=yJ (fo:=qB 3) (f:=vFz (qc [3] 1 (QM (qA (qB 1) qD)) (qy 1) [] [] (qM zU (vC (.int 0)) (qH zC (qA (vFz (qc [1] 1 (QA (qB 0)) (qy 1) [] [] (qM gIx (qB 1) (qB 0)))) qD))))) (r:=[some (.ref st.length),some (.int L),some (.int M),some (.ref (st.length + 1 + j.length)),y4,y5]) (st:=st ++ .l [.int y]::(j++[.l (rows.map lP)])) (n:=st.length + 1 + j.length) rfl (qEb ZG) (wG el) ZG (by rw [AF,i1];exact BY (show (L - 1).toNat≤10 by omega) (by decide))
 rw [qCn,show rows.map lP++[PV.lst (last.map PV.int)]=(rows++[last]).map lP by rw [BX];rfl] at ha
 refine qW ha (qk ?_)
 let G3:PV->PV:=fun p=>match p with | .lst l => .tup l |_ => .non
 have et:=QX (caps:=[]) (n:=1) (fi:=QA (qB 3)) (g:=qy 0) (f:=qH wm (qA (qB 0) qD)) (r:=[some (.ref st.length),some (.int L),some (.int M),some (.ref (st.length + 1 + j.length)),y4,y5]) (st:=st ++ .l [.int y]::(j++[.l ((rows++[last]).map lP)])) (w:=⟨(rows++[last]).map lP,fun s=>s[st.length + 1 + j.length]? = some (.l ((rows++[last]).map lP))⟩) (F:=G3) (Zi rfl ZG) ZG (by rw [AF,AO,Ag,i1];exact w5 (by omega)) fun p hp=>by
  obtain ⟨r,_,rfl⟩:=Al.mp hp
  exact ⟨[some (lP r)],rfl,qI (l:=[lP r]) rfl (zw rfl)⟩
 refine qI (qN (wG et) qe) ((zw rfl).trans ?_)
 show Rs.ok (PV.tup (((rows++[last]).map lP).map G3)) _=Rs.ok (PV.tup ((rows++[last]).map tP)) _
 rw [A0]
 rfl
theorem qBp {l:List PV} {i:Int} {st:qC} (h0:0≤i) (h1:i < l.length):∃ p,p∈l∧gIx (.lst l) (.int i) st = .ok p st:=by
 have hi:i.toNat < l.length:=by omega
 refine ⟨l[i.toNat],B9 hi,J6 rfl ?_⟩
 unfold L2.atI
 rw [zn h0 h1]
 exact AE hi
theorem YQ {l:List PV} {lo hi:Option Int} {p:PV} (h:p∈WU l lo hi):p∈l:=by
 unfold WU at h
 exact CU (CV h)
theorem Wg {l:List PV} {lo hi:Option Int}:(WU l lo hi).length≤l.length:=by
 unfold WU
 rw [Bh,CP];omega
theorem qA9 {l:List PV} {lo hi:Option Int} {s:Int} {p:PV} (h:p∈HT.cutS l lo hi s):p∈l:=by
 unfold HT.cutS at h
 obtain ⟨m,_,e⟩:=CC.mp h
 exact Aw e
theorem qHG:∀ n:Fin 8,Builtin.Slice.slicePlaces (Builtin.Slice.sliceAdjust none none (-1) (n.val:Nat)).1 (Builtin.Slice.sliceAdjust none none (-1) (n.val:Nat)).2 (-1)≤100:=by decide +kernel
theorem Yf {l:List PV} (h:l.length≤7):(HT.cutS l none none (-1)).length≤100:=by
 unfold HT.cutS
 refine Aa (List.length_filterMap_le _ _) ?_
 rw [Br]
 exact qHG ⟨l.length,by omega⟩
theorem j7 {f:FE} {lo hi:FO} {r:QO} {st s1 s2 s3:qC} {l:List PV} {p q:Option Int} (h:f r st = .ok (.tup l) s1) (h1:lo r s1 = .ok p s2) (h2:hi r s2 = .ok q s3):yd f lo hi r st = .ok (.tup (WU l p q)) s3:=by
 unfold yd;rw [h];show (lo r s1).bind _=_;rw [h1];show (hi r s2).bind _=_;rw [h2];rfl
theorem qE0 {f:FE} {r:QO} {st s1:qC} {l:List PV} (h:f r st = .ok (.tup l) s1) (hl:l.length≤7):Jw f Q9 Q9 (wA (qBB (vC (.int 1)))) r st = .ok (.tup (HT.cutS l none none (-1))) s1:=by
 unfold Jw;rw [h]
 show (if (-1:Int) < 0∧(HT.cutS l none none (-1)).length≤sizeLine then Rs.ok (PV.tup (HT.cutS l none none (-1))) s1 else Rs.no)=_
 rw [AG ⟨by decide,Aa (Yf hl) (by decide)⟩]
theorem yZ {l m:List PV} {st:qC} (h:l.length + m.length≤1000):zP (.tup l) (.tup m) st = .ok (.tup (l++m)) st:=by
 unfold zP
 exact AG (Aa h (by decide))
theorem qFS {f:FE} {r:QO} {st s1:qC} {l:List PV} (h:f r st = .ok (.tup l) s1):vFz (jk f) r st = .ok (.lst l) s1:=by
 unfold vFz jk;rw [h];rfl
theorem Y1 {l:List PV} (hl:l.length≤1000) (h:∀ p∈l,wS p=true):okP (.tup l)=true:=by
 show (Nat.ble l.length 1000&&l.all wS)=true
 rw [Aj,A9]
 exact ⟨Nat.ble_eq_true_of_le hl,h⟩
theorem Zl {l:List PV} (hl:l.length≤1000) (h:∀ p∈l,okP p=true):okV (.tup l)=true:=by
 show (Nat.ble l.length 1000&&l.all okP)=true
 rw [Aj,A9]
 exact ⟨Nat.ble_eq_true_of_le hl,h⟩
theorem qIj {a:Ad} {st j:qC} {x:Int}:∃ v,okV v=true∧yk a [.ref st.length] (st ++ .l [.int x]::j) = .ok v (st ++ .l [.int (x / 16)]::j):=by
 have t1:=QZ (a:=a) (st:=st) (j:=j) (x:=x) (m:=16) (by decide) (by decide)
 have hx:=Qm (x:=x) (m:=16) (by decide)
 let l:List PV:=[.non,.bl true,.int 7,.str "",.str "0",.tup [],.lst [],.dct,.tup [.int 1,.int 2],.tup [.int 0],.tup [.int 1,.int 0,.int 0],.int (-1),.tup [.int 0,.int 0],.lst [.tup [.int 0,.int 0]],.bl false,.tup [.tup [.int 0,.int 0],.tup [.int 0,.int 1]]]
 obtain ⟨p,hp,e⟩:=qBp (l:=l) (i:=x % 16) (st:=st ++ .l [.int (x / 16)]::j) hx.1 hx.2
 refine ⟨p,A9.mp (show l.all okV=true from rfl) p hp,QK rfl (qW (Ql (p := .lst l) rfl) (qk (qR rfl (qI (l:=[.ref st.length,.int 16]) rfl t1) e)))⟩
theorem qK1 {α:Type} {P:α->Prop} {a b c d e f:α} (h1:P a) (h2:P b) (h3:P c) (h4:P d) (h5:P e) (h6:P f):∀ p∈[a,b,c,d,e,f],P p:=fun p hp=>by
 simp only [AJ,AY,Bi] at hp
 rcases hp with rfl |rfl |rfl |rfl |rfl |rfl <;> assumption
theorem Wu {P:PV->Prop} {l m:List PV} (h1:∀ p∈l,P p) (h2:∀ p∈m,P p):∀ p∈l++m,P p:=fun p hp=>(Ar.mp hp).elim (h1 p) (h2 p)
theorem YJ {P:PV->Prop} {q:PV} (h:P q):∀ p∈[q],P p:=fun p hp=>by rw [Ak.mp hp];exact h
theorem W2 {ns:List Int}:∀ p∈ns.map PV.int,wS p=true:=fun p hp=>by
 obtain ⟨x,_,rfl⟩:=Al.mp hp;rfl
theorem qGB {r:List Int} (h:r.length≤1000):okP (tP r)=true:=Y1 (by rw [AF];exact h) W2
theorem Yx {L:Int} {rows:List (List Int)} (h:Sq L rows) (h5:L≤5):∀ p∈rows.map tP,okP p=true:=fun p hp=>by
 obtain ⟨r,hr,rfl⟩:=Al.mp hp
 exact qGB (by have:=h.2 r hr;omega)
def qDS (W:List PV) (t:Int) (p:PV):List PV:=WU W none (some t)++[p]++WU W (some (t + 1)) none
theorem qAY {W:List PV} {t:Int} {p:PV}:(qDS W t p).length≤2 * W.length + 1:=by
 unfold qDS
 have a1:=Wg (l:=W) (lo:=none) (hi:=some t)
 have a2:=Wg (l:=W) (lo:=some (t + 1)) (hi:=none)
 rw [AO,AO,Ag];omega
theorem qAz {P:PV->Prop} {W:List PV} {t:Int} {p:PV} (h1:∀ q∈W,P q) (h2:P p):∀ q∈qDS W t p,P q:=Wu (Wu (fun q hq=>h1 q (YQ hq)) (YJ h2)) (fun q hq=>h1 q (YQ hq))
theorem qCF {W:List PV} {t:Int} {p:PV} {f g:FE} {h:FE} {r:QO} {st:qC} (hW:W.length≤5) (h1:f r st = .ok (.tup W) st) (h2:g r st = .ok (.int t) st) (h3:h r st = .ok p st):qM zP (qM zP (yd f Q9 (wA g)) (wY (qA h qD))) (yd f (wA (qM Qf g (vC (.int 1)))) Q9) r st = .ok (.tup (qDS W t p)) st:=by
 have a1:=Wg (l:=W) (lo:=none) (hi:=some t)
 have a2:=Wg (l:=W) (lo:=some (t + 1)) (hi:=none)
 exact qR (qR (j7 h1 rfl (zO h2)) (zz (qN h3 qe) (sz rfl)) (yZ (by rw [Ag];omega))) (j7 h1 (zO (qR h2 rfl W4)) rfl) (yZ (by rw [AO,Ag];omega))
theorem qHD {a:Ad} {st j:qC} {x L:Int} {rows:List (List Int)} (hL1:2≤L) (hL2:L≤5) (hq:Sq L rows):∃ (v:PV) (y:Int),okV v=true∧W7 a [.ref st.length,wP rows] (st ++ .l [.int x]::j) = .ok v (st ++ .l [.int y]::j):=by
 have hrl:((rows.map tP).length:Int)=L:=by rw [AF,hq.1];omega
 have hW:(rows.map tP).length≤5:=by omega
 have hWo:=Yx hq hL2
 have t1:=QZ (a:=a) (st:=st) (j:=j) (x:=x) (m:=L) (by omega) (by omega)
 have t2:=QZ (a:=a) (st:=st) (j:=j) (x:=x / L) (m:=L) (by omega) (by omega)
 have i1:=Qm (x:=x) (m:=L) (by omega)
 have i2:=Qm (x:=x / L) (m:=L) (by omega)
 generalize x % L=at' at t1 i1
 generalize x / L % L=sp at t2 i2
 generalize x / L / L=x2 at t2
 -- the row
 have hat:at'.toNat < rows.length:=by rw [hq.1];omega
 let r:List Int:=rows[at'.toNat]
 have hr:(r.length:Int)=L:=by have:=hq.2 _ (B9 hat);show ((rows[at'.toNat]).length:Int)=L;omega
 have er:∀ S:qC,gIx (wP rows) (.int at') S = .ok (tP r) S:=fun S=>by
  refine J6 rfl ?_
  unfold L2.atI
  rw [zn i1.1 (by omega),Option.bind_some,Ao,AE hat]
  rfl
 have hRl:(r.map PV.int).length≤5:=by rw [AF];omega
 -- something odd
 have t3:=QZ (a:=a) (st:=st) (j:=j) (x:=x2) (m:=9) (by decide) (by decide)
 have i3:=Qm (x:=x2) (m:=9) (by decide)
 let l9:List PV:=[.int (r.getD sp.toNat 0 + 1),.bl true,.non,.str "0",.tup [.int 0],.bl false,.int (10 ^ 39),.int 0,.int (r.getD (0:Int).toNat 0)]
 obtain ⟨o,ho,e9⟩:=qBp (l:=l9) (i:=x2 % 9) (st:=st ++ .l [.int (x2 / 9)]::j) i3.1 i3.2
 have hoP:okP o=true:=A9.mp (show l9.all okP=true from rfl) o ho
 have hoPl:wS o=true:=yb hoP
 let n6:List PV:=[.tup (qDS (r.map PV.int) sp o),.tup (r.map PV.int++[.int 0]),.tup (WU (r.map PV.int) (some 1) none),.lst (r.map PV.int),.tup (HT.cutS (r.map PV.int) none none (-1)),o]
 have h6:∀ p∈n6,okP p=true:=qK1 (Y1 (by have:=qAY (W:=r.map PV.int) (t:=sp) (p:=o);omega) (qAz W2 hoPl)) (Y1 (by rw [AO,Ag];omega) (Wu W2 (YJ rfl))) (Y1 (by have:=Wg (l:=r.map PV.int) (lo:=some 1) (hi:=none);omega) fun q hq=>W2 q (YQ hq)) rfl (Y1 (by have:=Yf (l:=r.map PV.int) (by omega);omega) fun q hq=>W2 q (qA9 hq)) hoP
 let W:=rows.map tP
 let F1:PV->PV:=fun p => .tup (qDS W at' p)
 let l3:List PV:=[.tup (WU W none (some at')++WU W (some (at' + 1)) none),.tup (W++WU W none (some 1)),.tup (HT.cutS W none none (-1))]
 let l2:List PV:=[.lst W,.tup (W++[.tup []])]
 obtain ⟨u,hu,eu⟩:=qIj (a:=a) (st:=st) (j:=j) (x:=x2 / 9)
 have t4:=QZ (a:=a) (st:=st) (j:=j) (x:=x2 / 9 / 16) (m:=12) (by decide) (by decide)
 have i4:=Qm (x:=x2 / 9 / 16) (m:=12) (by decide)
 let l12:List PV:=n6.map F1++l3++l2++[u]
 have c1:=Wg (l:=W) (lo:=none) (hi:=some at')
 have c2:=Wg (l:=W) (lo:=some (at' + 1)) (hi:=none)
 have c3:=Wg (l:=W) (lo:=none) (hi:=some 1)
 have c4:=Yf (l:=W) (show (rows.map tP).length≤7 by omega)
 have hWl:W.length≤5:=hW
 have hWc:∀ lo hi,∀ p∈WU W lo hi,okP p=true:=fun lo hi p hp=>hWo p (YQ hp)
 have h12:∀ p∈l12,okV p=true:=by
  refine Wu (Wu (Wu ?_ ?_) ?_) (YJ hu)
  ·intro p hp
   obtain ⟨z,hz,rfl⟩:=Al.mp hp
   exact Zl (by have:=qAY (W:=W) (t:=at') (p:=z);omega) (qAz hWo (h6 z hz))
  ·intro p hp
   simp only [l3,AJ,AY,Bi] at hp
   rcases hp with rfl |rfl |rfl
   ·exact Zl (by rw [AO];omega) (Wu (hWc _ _) (hWc _ _))
   ·exact Zl (by rw [AO];omega) (Wu hWo (hWc _ _))
   ·exact Zl (by omega) fun q hq=>hWo q (qA9 hq)
  ·intro p hp
   simp only [l2,AJ,AY,Bi] at hp
   rcases hp with rfl |rfl
   ·rfl
   ·exact Zl (by rw [AO,Ag];omega) (Wu hWo (YJ rfl))
 obtain ⟨v,hv,ev⟩:=qBp (l:=l12) (i:=x2 / 9 / 16 % 12) (st:=st ++ .l [.int (x2 / 9 / 16 / 12)]::j) i4.1 i4.2
 refine ⟨v,x2 / 9 / 16 / 12,h12 v hv,QK rfl ?_⟩
 unfold YX
 refine qW (qFI (p := .tup [.int at',.int sp]) (r1:=[some (.ref st.length),some (wP rows),some (.int at'),some (.int sp),none,none,none,none]) (zz (qN (qI (l:=[.ref st.length,.int L]) (qN rfl (qN (qI (l:=[wP rows]) rfl (za rfl hrl)) qe)) t1) (qN (qI (l:=[.ref st.length,.int L]) (qN rfl (qN (qI (l:=[wP rows]) rfl (za rfl hrl)) qe)) t2) qe)) (sz rfl)) rfl) ?_
 refine qW (Ql (qR rfl rfl (er _))) ?_
 have el9:vFz (Qe (qA (qM Qf (qM gIx (qB 4) (qB 3)) (vC (.int 1))) (qA (vC (.bl true)) (qA (vC .non) (qA (vC (.str "0")) (qA (wY (qA (vC (.int 0)) qD)) (qA (vC (.bl false)) (qA (qM qEk (vC (.int 10)) (vC (.int 39))) (qA (vC (.int 0)) (qA (qM gIx (qB 4) (vC (.int 0))) qD)))))))))) [some (.ref st.length),some (wP rows),some (.int at'),some (.int sp),some (tP r),none,none,none] (st ++ .l [.int x2]::j) = .ok (.lst l9) (st ++ .l [.int x2]::j) :=
  wG (Ya (qN (qR (qR rfl rfl (JL hr i2.1 i2.2)) rfl W4) (qN rfl (qN rfl (qN rfl (qN (zz (qN rfl qe) (sz rfl)) (qN rfl (qN (qR rfl rfl rfl) (qN rfl (qN (qR rfl rfl (JL hr (Ba 0) (by omega))) qe))))))))) (sz rfl))
 refine qW (Ql (qR el9 (qI (l:=[.ref st.length,.int 9]) rfl t3) e9)) ?_
 refine qW (Ql (p := .lst n6) (wG (Ya (qN (qCF hRl rfl rfl rfl) (qN (qR rfl (zz (qN rfl qe) (sz rfl)) (yZ (by rw [Ag];omega))) (qN (j7 rfl (zO rfl) rfl) (qN (qFS rfl) (qN (qE0 rfl (by omega)) (qN rfl qe)))))) (sz rfl)))) ?_
 refine qW (Ql (p := .lst (n6.map F1)) (wG (QX (w:=⟨n6,fun _=>True⟩) (F:=F1) (Zz rfl) trivial (sz rfl) fun p hp=>⟨[some (wP rows),some (.int at'),some p],rfl,qCF hW rfl rfl rfl⟩))) ?_
 refine qW (Ql (p := .lst (n6.map F1++l3)) (wG (yw rfl (wG (Ya (qN (qR (j7 rfl rfl (zO rfl)) (j7 rfl (zO (qR rfl rfl W4)) rfl) (yZ (show (WU W none (some at')).length + (WU W (some (at' + 1)) none).length≤1000 by omega))) (qN (qR rfl (j7 rfl rfl (zO rfl)) (yZ (show W.length + (WU W none (some 1)).length≤1000 by omega))) (qN (qE0 rfl (by omega)) qe))) (sz rfl))) rfl rfl (sz rfl)))) ?_
 refine qW (Ql (p := .lst (n6.map F1++l3++l2)) (wG (yw (l:=n6.map F1++l3) rfl (wG (Ya (qN (qFS rfl) (qN (qR rfl (zz (qN (zz qe (sz rfl)) qe) (sz rfl)) (yZ (by rw [Ag];omega))) qe)) (sz rfl))) rfl rfl (sz rfl)))) ?_
 exact qk (qR (wG (yw (l:=n6.map F1++l3++l2) rfl (wG (Ya (qN (qI (l:=[.ref st.length]) rfl eu) qe) (sz rfl))) rfl rfl (sz rfl))) (qI (l:=[.ref st.length,.int 12]) rfl t4) ev)
def yy (R:List (List Int)) (i k v:Int):List (List Int):=R.set i.toNat ((R.getD i.toNat []).set k.toNat v)
theorem zK {L:Int} {R:List (List Int)} {i k v:Int} (h:Sq L R) (h0:0≤i) (h1:i < L):Sq L (yy R i k v):=by
 refine ⟨by unfold yy;rw [Cd];exact h.1,fun r hr => ?_⟩
 rcases List.mem_or_eq_of_mem_set hr with q |q
 ·exact h.2 r q
 ·rw [q,Cd];exact h.row (by omega)
theorem YG {L:Int} {R:List (List Int)} {i k v p q:Int} (h:Sq L R) (h0:0≤i) (h1:i < L) (h2:0≤k) (h3:k < L) (h4:0≤p) (h5:0≤q):rc (yy R i k v) p q=if p=i∧q=k then v else rc R p q:=by
 unfold rc yy
 have hi:i.toNat < R.length:=by rw [h.1];omega
 have hk:k.toNat < (R.getD i.toNat []).length:=by rw [h.row (by omega)];omega
 by_cases hp:p=i
 ·subst hp
  rw [show (R.set p.toNat ((R.getD p.toNat []).set k.toNat v)).getD p.toNat []=(R.getD p.toNat []).set k.toNat v by rw [AK,Av hi];rfl]
  by_cases hq:q=k
  ·subst hq
   rw [AG ⟨rfl,rfl⟩,AK,Av hk];rfl
  ·rw [AN (fun z=>hq z.2),AK,Ax (by omega),← AK]
 ·rw [AN (fun z=>hp z.1),AK (l:=R.set _ _),Ax (by omega),← AK]
theorem qCo {S:qC} {m n:Nat} {L:Int} {R:List (List Int)} (T:Tb S m n L R) (hm:n + L.toNat≤m) {i k v:Int} (h0:0≤i) (h1:i < L) (h2:0≤k) (h3:k < L):∃ o,Wj S (.ref (n + i.toNat)) (.int k) (.int v)=some (S.set (n + i.toNat) o)∧Tb (S.set (n + i.toNat) o) m n L (yy R i k v):=by
 have hr:=qBl T h0 h1
 have hlen:(n + i.toNat) < S.length:=(AQ.mp hr).1
 have hi:i.toNat < R.length:=by rw [T.sq.1];omega
 have hl:(R.getD i.toNat []).length=L.toNat:=T.sq.row (by omega)
 refine ⟨.l (((R.getD i.toNat []).set k.toNat v).map PV.int),?_,?_,?_,zK T.sq h0 h1⟩
 ·rw [qCS hr (j:=k.toNat) (zn h2 (by rw [AF,hl];omega)),map_set]
 ·rw [Ax (by omega)];exact T.top
 ·intro q r hq
  unfold yy at hq
  by_cases e:i.toNat=q
  ·subst e
   rw [Av hi] at hq
   cases hq
   exact Av hlen
  ·rw [Ax e] at hq
   rw [Ax (by omega)]
   exact T.rows q r hq
theorem qGh {fo fi fo2 fi2 f:FE} {r:QO} {st s1 s2 s3 s4 s5 s6 s7:qC} {p o i o2 i2:PV} (h:f r st = .ok p s1) (h2:fo r s1 = .ok o s2) (h3:fi r s2 = .ok i s3) (h4:Wj s3 o i p=some s4) (h5:fo2 r s4 = .ok o2 s5) (h6:fi2 r s5 = .ok i2 s6) (h7:Wj s6 o2 i2 p=some s7):ZU fo fi fo2 fi2 f r st = .nx r s7:=by
 unfold ZU
 rw [h];show (fo r s1).bindS _=_
 rw [h2];show (fi r s2).bindS _=_
 rw [h3];show (match Wj s3 o i p with |some s4=>_ |none=>_)=_
 rw [h4];show (fo2 r s4).bindS _=_
 rw [h5];show (fi2 r s5).bindS _=_
 rw [h6];show (match Wj s6 o2 i2 p with |some s7=>_ |none=>_)=_
 rw [h7]
theorem qB4 {S0:qC} {b:SO} {G:qC} {m n:Nat} {L:Int} {R:List (List Int)} (T:Tb (S0++b::G) m n L R) (hn:S0.length < n) (hm:n + L.toNat≤m) {i k i2 k2 v:Int} (h0:0≤i) (h1:i < L) (h2:0≤k) (h3:k < L) (g0:0≤i2) (g1:i2 < L) (g2:0≤k2) (g3:k2 < L) {r:QO} {fi fk fi2 fk2 f:FE} (hr:r[5]? = some (some (.ref m))) (e:∀ S,f r S = .ok (.int v) S) (e1:∀ S,fi r S = .ok (.int i) S) (e2:∀ S,fk r S = .ok (.int k) S) (e3:∀ S,fi2 r S = .ok (.int i2) S) (e4:∀ S,fk2 r S = .ok (.int k2) S) :
  ∃ G',ZU (qM gIx (qB 5) fi) fk (qM gIx (qB 5) fi2) fk2 f r (S0++b::G) = .nx r (S0++b::G')∧Tb (S0++b::G') m n L (yy (yy R i k v) i2 k2 v):=by
 obtain ⟨o,p1,T1⟩:=qCo T hm (v:=v) h0 h1 h2 h3
 obtain ⟨G1,b1⟩:=J4 (st:=S0) (G:=G) (b:=b) (o:=o) (n:=n + i.toNat) (by omega)
 rw [b1] at p1 T1
 obtain ⟨o2,p2,T2⟩:=qCo T1 hm (v:=v) g0 g1 g2 g3
 obtain ⟨G2,b2⟩:=J4 (st:=S0) (G:=G1) (b:=b) (o:=o2) (n:=n + i2.toNat) (by omega)
 rw [b2] at p2 T2
 exact ⟨G2,qGh (e _) (qR (qCA hr) (e1 _) (qBb T h0 h1)) (e2 _) p1 (qR (qCA hr) (e3 _) (qBb T1 g0 g1)) (e4 _) p2,T2⟩
def wf4 (L i k:Int):List (List Int):=yy (yy (yy (yy (w8 L) 0 0 1) i k 1) 0 k (-1)) i 0 (-1)
def wfP (L:Int) (F:List ql):PV:=match apr L F with
 |some c=>wP (wf4 L c.1 c.2)
 |none => .non
theorem Jp {L:Int} {R:List (List Int)} {c:Int×Int}:∀ {is:List Int},(∀ i∈is,0≤i∧i < L)->apF L R is=some c->(0≤c.1∧c.1 < L)∧(0≤c.2∧c.2 < L)∧bad R c.1 c.2=true
 |[],_,h=>by cases h
 |i::is,hi,h=>by
  unfold apF at h
  cases hf:(qw L).find? (bad R i) with
  |some k =>
   rw [hf] at h
   cases h
   exact ⟨hi i AI,upto_mem.mp (List.mem_of_find?_eq_some hf),List.find?_some hf⟩
  |none =>
   rw [hf] at h
   exact Jp (fun q hq=>hi q (AD _ hq)) h
theorem qGp {R:List (List Int)} {i k:Int} (h:bad R i k=true):i≠0∧k≠0:=by
 unfold bad at h
 refine ⟨fun z => ?_,fun z => ?_⟩
 ·subst z
  rw [show (rc R 0 k + rc R 0 0==rc R 0 0 + rc R 0 k)=true from B4.mpr (Int.add_comm _ _)] at h
  cases h
 ·subst z
  rw [show (rc R i 0 + rc R 0 0==rc R i 0 + rc R 0 0)=true from B4.mpr rfl] at h
  cases h
theorem qD7 (R:List (List Int)):(List.range R.length).map (fun i=>tP (R.getD i []))=R.map tP:=by
 apply List.ext_getElem?
 intro i
 rw [Ao,Ao]
 by_cases h:i < R.length
 ·rw [CA h,AE h,CF,CF,AK,AE h];rfl
 ·rw [BP (by rw [Br];omega),BP (by omega)];rfl
theorem qGd {S:qC} {m n:Nat} {L:Int} {R:List (List Int)} (T:Tb S m n L R) (hL:0 < L) (h5:L≤5) {r:QO} (hr:r[5]? = some (some (.ref m))):qH wm (qA (vFz (qc [] 1 (QA (qB 5)) (qy 0) [] [] (qH wm (qA (qB 0) qD)))) qD) r S = .ok (wP R) S:=by
 let G:PV->PV:=fun p=>match p with | .ref q=>tP (R.getD (q - n) []) |_ => .non
 have e:=QX (caps:=[]) (n:=1) (fi:=QA (qB 5)) (g:=qy 0) (f:=qH wm (qA (qB 0) qD)) (r:=r) (st:=S) (w:=⟨QU n L,fun s=>s[m]? = some (.l (QU n L))⟩) (F:=G) (Zi (qCA hr) T.top) T.top (by unfold QU;rw [AF,Br];exact w5 (by omega)) fun p hp=>by
  unfold QU at hp
  obtain ⟨i,hi,rfl⟩:=Al.mp hp
  have hi:=BW.mp hi
  refine ⟨[some (.ref (n + i))],rfl,(qI (l:=[.ref (n + i)]) rfl (zw (Z8 (qBl T (i:=(i:Int)) (by omega) (by omega))))).trans ?_⟩
  show Rs.ok (PV.tup ((R.getD ((i:Int)).toNat []).map PV.int)) S=Rs.ok (tP (R.getD (n + i - n) [])) S
  rw [BD,CB];rfl
 refine qI (qN (wG e) qe) ((zw rfl).trans ?_)
 show Rs.ok (PV.tup ((QU n L).map G)) S=Rs.ok (PV.tup (R.map tP)) S
 rw [← qD7 R,T.sq.1]
 unfold QU
 rw [A0]
 congr 2
 exact BN fun i _=>by show tP (R.getD (n + i - n) [])=_;rw [CB]
theorem qD6 {st g:qC} {b:SO} {L:Int} {F:List ql}:∃ g',rsS (st++b::g) L F=st++b::g':=⟨g++QJ (zq L F)++[.l (QU (st++b::g).length L)],by unfold rsS;rw [Ab,Ab,Ab];rfl⟩
theorem qB7 {a:Ad} {F:List ql} {L:Int} {st g:qC} {b:SO} (h1:2≤L) (h2:L≤5):∃ g',wO a [.tup (F.map cP),.int L] (st++b::g) = .ok (wfP L F) (st++b::g'):=by
 have ea:=qFK (a:=a) (F:=F) (L:=L) (st:=st++b::g) h1 h2
 obtain ⟨g1,b1⟩:=qD6 (st:=st) (g:=g) (b:=b) (L:=L) (F:=F)
 rw [b1] at ea
 unfold wfP
 cases hf:apr L F with
 |none =>
  rw [hf] at ea
  exact ⟨g1,QK rfl (qW (Ql (qI (l:=[.tup (F.map cP),.int L]) rfl ea)) (qt (qo (Qw (qR (p := .non) (q := .non) rfl rfl rfl)) (qk rfl))))⟩
 |some c =>
  rw [hf] at ea
  obtain ⟨i,k⟩:=c
  obtain ⟨hi,hk,hb⟩:=Jp (c:=(i,k)) (fun q hq=>upto_mem.mp hq) hf
  dsimp only at hi hk
  generalize hS:st++b::g1=S at ea
  have hm:=Yk (L:=L) (fi:=QM (qA (qB 1) qD)) h1 h2 L.toNat ((qw L).map PV.int) S (by rw [AF,QQ])
  have hc:qc [1] 1 (QM (qA (qB 1) qD)) (qy 1) [] [] (vMk (Yq (Qe (qA (vC (.int 0)) qD)) (qB 0))) [some (.tup (F.map cP)),some (.int L),some (cP (i,k)),some (.int i),some (.int k),none] S = .ok (QU S.length L) (S++QJ (w8 L)) :=
   Zr (itN (by omega) (by omega) rfl) hm (by unfold QU;rw [AF,Br];exact w5 (by omega))
  have hl:(S++QJ (w8 L)).length=S.length + L.toNat:=by rw [AO];unfold QJ w8;simp
  have hset:=Zy (i:=5) hc
  rw [hl] at hset
  have T:Tb (S++QJ (w8 L)++[.l (QU S.length L)]) (S.length + L.toNat) S.length L (w8 L):=by
   refine ⟨?_,JS rfl,zA L⟩
   rw [Af (by omega),hl,Bm];rfl
  have hSl:st.length < S.length:=by rw [← hS,AO,AU];omega
  have b2:S++QJ (w8 L)++[.l (QU S.length L)]=st++b::(g1++QJ (w8 L)++[.l (QU S.length L)]):=by rw [← hS,Ab,Ab,Ab];rfl
  rw [b2] at T hset
  obtain ⟨G1,q1,T1⟩:=qB4 T hSl (AL _) (i:=0) (k:=0) (i2:=i) (k2:=k) (v:=1) (r:=[some (.tup (F.map cP)),some (.int L),some (cP (i,k)),some (.int i),some (.int k),some (.ref (S.length + L.toNat))]) (fi:=vC (.int 0)) (fk:=vC (.int 0)) (fi2:=qB 3) (fk2:=qB 4) (f:=vC (.int 1)) (by omega) (by omega) (by omega) (by omega) hi.1 hi.2 hk.1 hk.2 rfl (fun _=>rfl) (fun _=>rfl) (fun _=>rfl) (fun _=>rfl) (fun _=>rfl)
  obtain ⟨G2,q2,T2⟩:=qB4 T1 hSl (AL _) (i:=0) (k:=k) (i2:=i) (k2:=0) (v := -1) (r:=[some (.tup (F.map cP)),some (.int L),some (cP (i,k)),some (.int i),some (.int k),some (.ref (S.length + L.toNat))]) (fi:=vC (.int 0)) (fk:=qB 4) (fi2:=qB 3) (fk2:=vC (.int 0)) (f:=qBB (vC (.int 1))) (by omega) (by omega) hk.1 hk.2 hi.1 hi.2 (by omega) (by omega) rfl (fun _=>rfl) (fun _=>rfl) (fun _=>rfl) (fun _=>rfl) (fun _=>rfl)
  refine ⟨G2,QK rfl (qW (Ql (qI (l:=[.tup (F.map cP),.int L]) rfl ea)) (qW (qz (Qw (qR (p:=cP (i,k)) (q := .non) rfl rfl rfl)) rfl) (qW (qFI (p:=cP (i,k)) (r1:=[some (.tup (F.map cP)),some (.int L),some (cP (i,k)),some (.int i),some (.int k),none]) rfl rfl) (qW hset (qW q1 (qW q2 (qk (qGd T2 (by omega) h2 rfl)))))))) ⟩
theorem qGE:∀ L i k:Fin 6,2≤L.val->1≤i.val->i.val < L.val->1≤k.val->k.val < L.val->Y6 (L.val:Int) (wP (wf4 (L.val:Int) (i.val:Int) (k.val:Int)))=true:=by decide +kernel
theorem qJR {L i k:Int} (hL1:2≤L) (hL2:L≤5) (h1:1≤i) (h2:i < L) (h3:1≤k) (h4:k < L):Y6 L (wP (wf4 L i k))=true:=by
 have:=qGE ⟨L.toNat,by omega⟩ ⟨i.toNat,by omega⟩ ⟨k.toNat,by omega⟩ (by show 2≤L.toNat;omega) (by show 1≤i.toNat;omega) (by show i.toNat < L.toNat;omega) (by show 1≤k.toNat;omega) (by show k.toNat < L.toNat;omega)
 dsimp only at this
 rw [show ((L.toNat:Nat):Int)=L by omega,show ((i.toNat:Nat):Int)=i by omega,show ((k.toNat:Nat):Int)=k by omega] at this
 exact this
theorem qFr {L i k:Int} (hL:0 < L) (h0:0≤i) (h1:i < L):Sq L (wf4 L i k):=zK (zK (zK (zK (zA L) (Ba 0) hL) h0 h1) (Ba 0) hL) h0 h1
theorem qFc {L p q:Int}:rc (w8 L) p q=0:=by
 unfold rc w8
 rw [AK (l:=List.replicate L.toNat (List.replicate L.toNat (0:Int))),BC]
 split
 ·show (List.replicate L.toNat (0:Int)).getD q.toNat 0=0
  rw [AK,BC]
  split <;> rfl
 ·rfl
def ind (p q i k:Int):Int:=if p=i∧q=k then 1 else 0
theorem qIf {L i k p q:Int} (hL:0 < L) (h1:1≤i) (h2:i < L) (h3:1≤k) (h4:k < L) (hp:0≤p) (hq:0≤q):rc (wf4 L i k) p q=ind p q 0 0 + ind p q i k - ind p q 0 k - ind p q i 0:=by
 have s1:=zK (i:=0) (k:=0) (v:=1) (zA L) (Ba 0) hL
 have s2:=zK (i:=i) (k:=k) (v:=1) s1 (by omega) h2
 have s3:=zK (i:=0) (k:=k) (v := -1) s2 (Ba 0) hL
 unfold wf4
 rw [YG s3 (by omega) h2 (Ba 0) hL hp hq,YG s2 (Ba 0) hL (by omega) h4 hp hq,YG s1 (by omega) h2 (by omega) h4 hp hq,YG (zA L) (Ba 0) hL (Ba 0) hL hp hq,qFc]
 unfold ind
 by_cases a1:p=0 <;> by_cases a2:p=i <;> by_cases a3:q=0 <;> by_cases a4:q=k <;> simp [a1,a2,a3,a4] <;> omega
theorem YO {L i k:Int} {c:ql} {F:List ql}:rs L i k (c::F)=ind (c.1 % L) (c.2 % L) i k + rs L i k F:=by
 unfold rs ind
 rw [Bv]
 by_cases q:c.1 % L=i∧c.2 % L=k
 ·rw [AG (by rw [Ai q.1,Ai q.2];rfl),AG q,AU];omega
 ·rw [AN (by rw [Aj];exact fun z=>q ⟨Bb z.1,Bb z.2⟩),AN q];omega
theorem qHo {L i k:Int} (hL:0 < L) (h1:1≤i) (h2:i < L) (h3:1≤k) (h4:k < L):∀ F:List ql,wtF L (wf4 L i k) F=rs L 0 0 F + rs L i k F - rs L 0 k F - rs L i 0 F
 |[]=>rfl
 |c::F=>by
  have ih:=qHo hL h1 h2 h3 h4 F
  have e:wtF L (wf4 L i k) (c::F)=rc (wf4 L i k) (c.1 % L) (c.2 % L) + wtF L (wf4 L i k) F:=by unfold wtF;rw [Ap,List.sum_cons]
  rw [e,ih,qIf hL h1 h2 h3 h4 (Qm hL).1 (Qm hL).1,YO,YO,YO,YO]
  omega
theorem JF {L i k:Int} {F:List ql} (h0:0≤i) (h1:i < L) (h2:0≤k) (h3:k < L):rc (zq L F) i k=rs L i k F:=by
 have:=qFx (L:=L) (F:=F) (i:=i.toNat) (k:=k.toNat) (by omega) (by omega)
 rw [show ((i.toNat:Nat):Int)=i by omega,show ((k.toNat:Nat):Int)=k by omega] at this
 exact this
theorem qFQ (R:List (List Int)):Ye (wP R)=R:=by
 show (R.map tP).map wQ=R
 rw [A0]
 refine (BN fun r _ => ?_).trans (List.map_id R)
 show (r.map PV.int).map _=r
 rw [A0]
 exact List.map_id r
theorem qED {L:Int} {F:List ql} {c:Int×Int} (hL1:2≤L) (hL2:L≤5) (h:apr L F=some c):okV (wfP L F)=true∧Y6 L (wfP L F)=true∧wtF L (Ye (wfP L F)) F≠0:=by
 obtain ⟨i,k⟩:=c
 obtain ⟨hi,hk,hb⟩:=Jp (c:=(i,k)) (fun q hq=>upto_mem.mp hq) h
 obtain ⟨b1,b2⟩:=qGp hb
 dsimp only at hi hk b1 b2 hb
 have hs:=qFr (k:=k) (show 0 < L by omega) hi.1 hi.2
 unfold wfP
 rw [h]
 dsimp only
 refine ⟨Zl (by rw [AF,hs.1];omega) (Yx hs hL2),qJR hL1 hL2 (by omega) hi.2 (by omega) hk.2,?_⟩
 rw [qFQ,qHo (by omega) (by omega) hi.2 (by omega) hk.2]
 unfold bad at hb
 rw [JF hi.1 hi.2 hk.1 hk.2,JF (Ba 0) (by omega) (Ba 0) (by omega),JF hi.1 hi.2 (Ba 0) (by omega),JF (Ba 0) (by omega) hk.1 hk.2] at hb
 have:¬ (rs L i k F + rs L 0 0 F=rs L i 0 F + rs L 0 k F):=by
  intro z
  rw [B4.mpr z] at hb
  cases hb
 omega
theorem qCW {a:Ad} {st:qC} {n:Nat} {b:Bool}:qu (n + 1) a [.bl b,.bl b] st = .ok (.bl true) st:=by
 refine QK (N:=2) (B:=Qv a (qu n a)) rfl ?_
 unfold Qv
 refine qW (qz (qX (qI (l:=[.bl b,.tup [.ty "tuple",.ty "list"]]) rfl rfl)) rfl) (qk ?_)
 cases b <;> rfl
theorem qHb {a:Ad} {st:qC} {n:Nat}:qu (n + 1) a [.str "! weights",.str "! weights"] st = .ok (.bl true) st:=by
 refine QK (N:=2) (B:=Qv a (qu n a)) rfl ?_
 unfold Qv
 refine qW (qz (qX (qI (l:=[.str "! weights",.tup [.ty "tuple",.ty "list"]]) rfl rfl)) rfl) (qk ?_)
 rfl
theorem qCb {l:List PV}:∀ z∈zy l l,∃ u,u∈l∧z = .tup [u,u]:=by
 induction l with
 |nil=>intro z hz;cases hz
 |cons p l ih =>
  intro z hz
  rw [zy] at hz
  rcases AJ.mp hz with rfl |hz
  ·exact ⟨p,AI,rfl⟩
  ·obtain ⟨u,hu,e⟩:=ih z hz
   exact ⟨u,AD _ hu,e⟩
theorem qIY {a:Ad} {st:qC} {L:Int} {R:List (List Int)} (h:Sq L R) (h5:L≤5):qu 3 a [wP R,wP R] st = .ok (.bl true) st :=
 jt rfl (by rw [AF,h.1];omega) fun z hz=>by
  obtain ⟨u,hu,rfl⟩:=qCb z hz
  obtain ⟨r,hr,rfl⟩:=Al.mp hu
  refine ⟨_,_,rfl,jt (n:=0) rfl (by rw [AF,h.2 r hr];omega) fun y hy => ?_⟩
  obtain ⟨q,hq,rfl⟩:=qCb y hy
  obtain ⟨i,_,rfl⟩:=Al.mp hq
  exact ⟨_,_,rfl,qAa⟩
theorem qHd {a:Ad} {st:qC} {L:Int} {F:List ql} (hL1:2≤L) (hL2:L≤5):qu 3 a [wfP L F,wfP L F] st = .ok (.bl true) st:=by
 unfold wfP
 cases h:apr L F with
 |none=>exact qEv
 |some c =>
  obtain ⟨hi,hk,hb⟩:=Jp (fun q hq=>upto_mem.mp hq) h
  exact qIY (qFr (by omega) hi.1 hi.2) hL2
theorem qCq {a:Ad} {f L v z:PV} {st s1:qC} (e:Q6 a [L,v] st = .ok z s1):QH a [.int 0,f,L,v] st = .ok z s1 :=
 QK rfl (Y2 (qt (qo (Qw (qR (p := .int 0) (q := .int 0) rfl rfl rfl)) (qk (qI (l:=[L,v]) rfl e)))))
theorem qGf {a:Ad} {f L v z:PV} {st s1:qC} (e:wW a [f,L,v] st = .ok z s1):QH a [.int 1,f,L,v] st = .ok z s1 :=
 QK rfl (Y2 (qW (qz (Qw (qR (p := .int 1) (q := .int 0) rfl rfl rfl)) rfl) (qt (qo (Qw (qR (p := .int 1) (q := .int 1) rfl rfl rfl)) (qk (qI (l:=[f,L,v]) rfl e))))))
theorem qCe {a:Ad} {f L v z:PV} {st s1:qC} (e:wO a [f,L] st = .ok z s1):QH a [.int 2,f,L,v] st = .ok z s1 :=
 QK rfl (Y2 (qW (qz (Qw (qR (p := .int 2) (q := .int 0) rfl rfl rfl)) rfl) (qW (qz (Qw (qR (p := .int 2) (q := .int 1) rfl rfl rfl)) rfl) (qk (qI (l:=[f,L]) rfl e)))))
theorem qD3 {a:Ad} (hd:Dist a) {st:qC}:qf (qH (WT a) (qA (qB 4) qD)) ((List.replicate 5 none).set 4 (some (.exc a.Z1 []))) st = .rt (.str "! length") st:=qk (qI (l:=[.exc a.Z1 []]) rfl (qAA hd))
theorem qKW {a:Ad} (hd:Dist a) {st:qC}:qf (qH (WT a) (qA (qB 4) qD)) ((List.replicate 5 none).set 4 (some (.exc a.Z5 []))) st = .rt (.str "! weights") st:=qk (qI (l:=[.exc a.Z5 []]) rfl (JM hd))
theorem inL (a:Ad):a.Z1∈Qt a:=by unfold Qt;simp
theorem inW (a:Ad):a.Z5∈Qt a:=by unfold Qt;simp
theorem qGP {a:Ad} (hd:Dist a) {f L v:PV} {st:qC} (e:Q6 a [L,v] st = .ex ⟨a.Z1,[]⟩ st):QH a [.int 0,f,L,v] st = .ok (.str "! length") st :=
 QK rfl (yH (x:=⟨a.Z1,[]⟩) (WJ (qo (Qw (qR (p := .int 0) (q := .int 0) rfl rfl rfl)) (Z1 (qI (l:=[L,v]) rfl e)))) (inL a) (qD3 hd))
theorem qGW {a:Ad} (hd:Dist a) {f L v:PV} {st:qC} (e:wW a [f,L,v] st = .ex ⟨a.Z1,[]⟩ st):QH a [.int 1,f,L,v] st = .ok (.str "! length") st :=
 QK rfl (yH (x:=⟨a.Z1,[]⟩) (qW (qz (Qw (qR (p := .int 1) (q := .int 0) rfl rfl rfl)) rfl) (WJ (qo (Qw (qR (p := .int 1) (q := .int 1) rfl rfl rfl)) (Z1 (qI (l:=[f,L,v]) rfl e))))) (inL a) (qD3 hd))
theorem qHO {a:Ad} (hd:Dist a) {f L v:PV} {st:qC} (e:wW a [f,L,v] st = .ex ⟨a.Z5,[]⟩ st):QH a [.int 1,f,L,v] st = .ok (.str "! weights") st :=
 QK rfl (yH (x:=⟨a.Z5,[]⟩) (qW (qz (Qw (qR (p := .int 1) (q := .int 0) rfl rfl rfl)) rfl) (WJ (qo (Qw (qR (p := .int 1) (q := .int 1) rfl rfl rfl)) (Z1 (qI (l:=[f,L,v]) rfl e))))) (inW a) (qKW hd))
theorem qGv {a:Ad} (hd:Dist a) {f L v:PV} {st:qC} (e:wO a [f,L] st = .ex ⟨a.Z1,[]⟩ st):QH a [.int 2,f,L,v] st = .ok (.str "! length") st :=
 QK rfl (yH (x:=⟨a.Z1,[]⟩) (qW (qz (Qw (qR (p := .int 2) (q := .int 0) rfl rfl rfl)) rfl) (qW (qz (Qw (qR (p := .int 2) (q := .int 1) rfl rfl rfl)) rfl) (Z1 (qI (l:=[f,L]) rfl e)))) (inL a) (qD3 hd))
theorem qFb {a:Ad} {v w:PV} {st:qC} (hp:wS v=true) (hw:WI 2 5 v=false):Q6 a [v,w] st = .ex ⟨a.Z1,[]⟩ st :=
 Ww rfl (WJ (jZ (qI (l:=[v]) rfl (qCx hp hw))))
theorem qDD {a:Ad} {f v w:PV} {st:qC} (hp:wS v=true) (hw:WI 2 5 v=false):wW a [f,v,w] st = .ex ⟨a.Z1,[]⟩ st:=by
 refine Ww rfl (WJ ?_)
 unfold Q2 ww Qr
 rw [qI (l:=[v,w]) (s1:=st) rfl (qFb hp hw)];rfl
theorem qGt {a:Ad} {f v:PV} {st:qC} (hp:wS v=true) (hw:WI 2 5 v=false):wO a [f,v] st = .ex ⟨a.Z1,[]⟩ st:=by
 refine Ww rfl (WJ ?_)
 unfold qv
 rw [qI (l:=[f,v]) (s1:=st) rfl (qEm hp hw)];rfl
theorem YY {a:Ad} {st j:qC} {fi:FI} {L:Int} {rows:List (List Int)} (hL1:2≤L) (hL2:L≤5) (hq:Sq L rows):∀ (ks:List PV) (x:Int),∃ (vs:List PV) (y:Int),vs.length=ks.length∧(∀ v∈vs,okV v=true)∧qx (fun _=>True) (Qk ⟨fi,qy 2,[]⟩ (Qx [] (qH (W7 a) (qA (qB 0) (qA (qB 1) qD)))) [some (.ref st.length),some (wP rows),none]) ks (st ++ .l [.int x]::j) = .ok vs (st ++ .l [.int y]::j)
 |[],x=>⟨[],x,rfl,fun v h=>(AY h).elim,WB trivial⟩
 |k::ks,x=>by
  obtain ⟨v,y,hv,e⟩:=qHD (a:=a) (st:=st) (j:=j) (x:=x) hL1 hL2 hq
  obtain ⟨vs,z,h1,h2,e2⟩:=YY (a:=a) (st:=st) (j:=j) (fi:=fi) hL1 hL2 hq ks y
  refine ⟨v::vs,z,by rw [AU,AU,h1],fun u hu => ?_,?_⟩
  ·rcases AJ.mp hu with rfl |hu
   ·exact hv
   ·exact h2 u hu
  ·exact Wq (l:=[v]) trivial (Ze (r':=[some (.ref st.length),some (wP rows),some k]) rfl (qI (l:=[.ref st.length,wP rows]) rfl e)) e2
theorem qKQ {a:Ad} (hd:Dist a) {F:List ql} {L:Int} {S:qC} {v:PV} {x0 x1 x2 x5 x7 x8 x9 x10:Option PV} (hL1:2≤L) (hL2:L≤5) (hF:F.length≤40) (hv:okV v=true):∃ y7 y8,qBU a [x0,x1,x2,some (.int L),some (.tup (F.map cP)),x5,some v,x7,x8,x9,x10] S = .nx [x0,x1,x2,some (.int L),some (.tup (F.map cP)),x5,some v,y7,y8,x9,x10] S:=by
 have e1:=qA8 (a:=a) (st:=S) hv hL1 hL2
 have e2:=qC4 (a:=a) (st:=S) hv hL1 hL2
 have e3:=qDG (a:=a) (F:=F) (st:=S) hv hL1 hL2 hF
 cases h:Y6 L v with
 |true =>
  have e4:=Yv (a:=a) (F:=F) (st:=S) hL1 hL2 hF h
  rw [h] at e1 e2
  rw [AG h] at e3
  refine ⟨some (.bl true),some (.int (wtF L (Ye v) F)),?_⟩
  exact qW (Ql (qI (l:=[.int L,v]) rfl e1)) (qW (Ql (qCP (qX (b:=true) rfl) (qI (l:=[.tup (F.map cP),.int L,v]) rfl e4))) (qW (qz (w_not (b:=true) (qX (qI (l:=[.bl true,.bl true]) (qN (qI (l:=[.int 0,.tup (F.map cP),.int L,v]) rfl (qCq e2)) (qN rfl qe)) qCW))) rfl) (qz (w_not (b:=true) (qX (qI (qN (qI (l:=[.int 1,.tup (F.map cP),.int L,v]) rfl (qGf e3)) (qN rfl qe)) qAa))) rfl)))
 |false =>
  rw [h] at e1 e2
  rw [AN (by rw [h];simp)] at e3
  refine ⟨some (.bl false),some (.str "! weights"),?_⟩
  exact qW (Ql (qI (l:=[.int L,v]) rfl e1)) (qW (Ql (qCl (qX (b:=false) rfl) rfl)) (qW (qz (w_not (b:=true) (qX (qI (l:=[.bl false,.bl false]) (qN (qI (l:=[.int 0,.tup (F.map cP),.int L,v]) rfl (qCq e2)) (qN rfl qe)) qCW))) rfl) (qz (w_not (b:=true) (qX (qI (qN (qI (l:=[.int 1,.tup (F.map cP),.int L,v]) rfl (qHO hd e3)) (qN rfl qe)) qHb))) rfl)))
theorem qCr {a:Ad} (hd:Dist a) {F:List ql} {L:Int} {S:qC} {x0 x1 x2 x5 x9 x10:Option PV} (hL1:2≤L) (hL2:L≤5) (hF:F.length≤40):∀ (vs:List PV) (x6 x7 x8:Option PV),(∀ v∈vs,okV v=true) -> ∃ y6 y7 y8,Qo (fun _=>True) (QY 6) (qBU a) vs [x0,x1,x2,some (.int L),some (.tup (F.map cP)),x5,x6,x7,x8,x9,x10] S = .nx [x0,x1,x2,some (.int L),some (.tup (F.map cP)),x5,y6,y7,y8,x9,x10] S
 |[],x6,x7,x8,_=>⟨x6,x7,x8,Qa trivial⟩
 |v::vs,x6,x7,x8,h=>by
  obtain ⟨z7,z8,e⟩:=qKQ (a:=a) hd (F:=F) (L:=L) (S:=S) (x0:=x0) (x1:=x1) (x2:=x2) (x5:=x5) (x7:=x7) (x8:=x8) (x9:=x9) (x10:=x10) hL1 hL2 hF (h v AI)
  obtain ⟨y6,y7,y8,e2⟩:=qCr hd (F:=F) (L:=L) (S:=S) (x0:=x0) (x1:=x1) (x2:=x2) (x5:=x5) (x9:=x9) (x10:=x10) hL1 hL2 hF vs (some v) z7 z8 fun u hu=>h u (AD _ hu)
  exact ⟨y6,y7,y8,WY trivial rfl e e2⟩
theorem qFp {st g X:qC} {b:SO}:∃ g',(st++b::g)++X=st++b::g':=⟨g++X,by rw [Ab];rfl⟩
theorem qHX {a:Ad} (hd:Dist a) {ns:List Int} {k:Int} {st:qC} {x2 x3 x4 x5 x6 x7 x8 x9 x10:Option PV} (h0:0≤k):∃ y2 y3 y4 y5 y6 y7 y8 y9 y10 st',Z7 a [some (.lst (ns.map PV.int)),some (.int k),x2,x3,x4,x5,x6,x7,x8,x9,x10] st = .nx [some (.lst (ns.map PV.int)),some (.int k),y2,y3,y4,y5,y6,y7,y8,y9,y10] st':=by
 obtain ⟨x,ex⟩:=qIq (a:=a) (ns:=ns) (k:=k) (st:=st) h0
 have t1:=QZ (a:=a) (st:=st) (j:=[]) (x:=x) (m:=4) (by decide) (by decide)
 have hL:=Qm (x:=x) (m:=4) (by decide)
 have hL1:2≤2 + x % 4:=by omega
 have hL2:2 + x % 4≤5:=by omega
 generalize hLe:2 + x % 4=L at hL1 hL2
 obtain ⟨F,y,g,hF,ef⟩:=qE1 (a:=a) (st:=st) (j:=[]) (x:=x / 4) hL1 hL2
 rw [Ce] at ef
 obtain ⟨rows,y1,g1,hq,ew⟩:=qBQ (a:=a) (st:=st) (j:=g) (x:=y) hL1 hL2
 generalize hg1:g++g1=G1 at ew
 obtain ⟨vs,y2,hvl,hvs,ev⟩:=YY (a:=a) (st:=st) (j:=G1) (fi:=QM (qA (vC (.int 4)) qD)) hL1 hL2 hq ((qw 4).map PV.int) y1
 have hvl:vs.length=4:=hvl
 have hWv:okV (wP rows)=true:=Zl (by rw [AF,hq.1];omega) (Yx hq hL2)
 have hall:∀ v∈wP rows::vs,okV v=true:=fun v hv=>by
  rcases AJ.mp hv with rfl |hv
  ·exact hWv
  ·exact hvs v hv
 have ei:QA (vFz (zD (vFz (Qe (qA (qB 5) qD))) (vFz (qc [2,5] 1 (QM (qA (vC (.int 4)) qD)) (qy 2) [] [] (qH (W7 a) (qA (qB 0) (qA (qB 1) qD))))))) [some (.lst (ns.map PV.int)),some (.int k),some (.ref st.length),some (.int L),some (.tup (F.map cP)),some (wP rows),x6,x7,x8,x9,x10] (st ++ .l [.int y1]::G1) = .ok ⟨wP rows::vs,fun _=>True⟩ (st ++ .l [.int y2]::G1) :=
  Zz (wG (yw (l:=[wP rows]) (m:=vs) (wG (Ya (qN rfl qe) (sz rfl))) (wG (Zr (w:=⟨(qw 4).map PV.int,fun _=>True⟩) (itN (by decide) (by decide) rfl) ev (by rw [hvl];exact sz rfl))) rfl rfl (by rw [hvl];exact sz rfl)))
 obtain ⟨z6,z7,z8,et⟩:=qCr (a:=a) hd (F:=F) (L:=L) (S:=st ++ .l [.int y2]::G1) (x0:=some (.lst (ns.map PV.int))) (x1:=some (.int k)) (x2:=some (.ref st.length)) (x5:=some (wP rows)) (x9:=x9) (x10:=x10) hL1 hL2 hF.len (wP rows::vs) x6 x7 x8 hall
 obtain ⟨G2,e2⟩:=qB7 (a:=a) (F:=F) (L:=L) (st:=st) (g:=G1) (b := .l [.int y2]) hL1 hL2
 generalize hS:st++SO.l [.int y2]::G2=S at e2
 have er:=qDs (a:=a) (F:=F) (L:=L) (st:=S) hL1 hL2 hF.len
 have T:Tb (S++SO.l (QU (S.length + 1) L)::QJ (zq L F)) S.length (S.length + 1) L (zq L F):=by
  refine ⟨by rw [Af (AL _),Bm];rfl,?_,JW L F⟩
  have:=JS (A:=S++[SO.l (QU (S.length + 1) L)]) (B:=[]) (R:=zq L F) (n:=S.length + 1) (by simp)
  rw [A6,Ab] at this
  exact this
 obtain ⟨G3,b3⟩:=qFp (st:=st) (g:=G2) (X:=SO.l (QU (S.length + 1) L)::QJ (zq L F)) (b := .l [.int y2])
 rw [hS] at b3
 have ea:=qDv (a:=a) T (by omega) hL2
 rw [b3] at er ea
 have ea:w4 a [.ref S.length] (st++SO.l [.int y2]::G3) = .ok (apP (apr L F)) (st++SO.l [.int y2]::G3):=ea
 have ecalls:qH (w4 a) (qA (qH (Wh a) (qA (qB 4) (qA (qB 3) qD))) qD) [some (.lst (ns.map PV.int)),some (.int k),some (.ref st.length),some (.int L),some (.tup (F.map cP)),some (wP rows),z6,z7,z8,some (wfP L F),x10] S = .ok (apP (apr L F)) (st++SO.l [.int y2]::G3) :=
  qI (qN (qI (l:=[.tup (F.map cP),.int L]) rfl er) qe) ea
 have ed:Q2 (vTB (qM (Jf false) (qH (w4 a) (qA (qH (Wh a) (qA (qB 4) (qA (qB 3) qD))) qD)) (vC .non))) (Q2 (vTB (qM (Jf true) (qB 9) (vC .non))) (qf (vC (.bl false))) Qq) (Q2 (ZV (ww (Qr (qH (Q0 a) (qA (qB 3) (qA (qB 9) qD))))) (vTB (qM gEq (qH (WK a) (qA (qB 4) (qA (qB 3) (qA (qB 9) qD)))) (vC (.int 0))))) (qf (vC (.bl false))) Qq) [some (.lst (ns.map PV.int)),some (.int k),some (.ref st.length),some (.int L),some (.tup (F.map cP)),some (wP rows),z6,z7,z8,some (wfP L F),x10] S = .nx [some (.lst (ns.map PV.int)),some (.int k),some (.ref st.length),some (.int L),some (.tup (F.map cP)),some (wP rows),z6,z7,z8,some (wfP L F),x10] (st++SO.l [.int y2]::G3):=by
  cases hf:apr L F with
  |none =>
   have hw:wfP L F = .non:=by unfold wfP;rw [hf]
   rw [hf] at ecalls
   rw [hw] at ecalls ⊢
   exact qo (Qw (qR (p := .non) (q := .non) ecalls rfl rfl)) (qz (Qw (qR (p := .non) (q := .non) rfl rfl rfl)) rfl)
  |some c =>
   obtain ⟨o1,o2,o3⟩:=qED hL1 hL2 hf
   rw [hf] at ecalls
   have a1:=qA8 (a:=a) (st:=st++SO.l [.int y2]::G3) o1 hL1 hL2
   rw [o2] at a1
   have a2:=Yv (a:=a) (F:=F) (st:=st++SO.l [.int y2]::G3) hL1 hL2 hF.len o2
   exact qz (Qw (qR (p:=cP c) (q := .non) ecalls rfl rfl)) (qz (Wl (w_not (b:=true) (qX (qI (l:=[.int L,wfP L F]) rfl a1))) (Qw (qR (qI (l:=[.tup (F.map cP),.int L,wfP L F]) rfl a2) rfl (by rw [WO,AH.mpr o3])))) rfl)
 obtain ⟨G4,e4⟩:=qB7 (a:=a) (F:=F) (L:=L) (st:=st) (g:=G3) (b := .l [.int y2]) hL1 hL2
 obtain ⟨v,pv,nv,eno⟩:=JN (a:=a) (st:=st) (j:=G4) (x:=y2)
 refine ⟨some (.ref st.length),some (.int L),some (.tup (F.map cP)),some (wP rows),z6,z7,z8,some (wfP L F),some v,st ++ .l [.int (y2 / 10)]::G4,?_⟩
 unfold Z7
 refine qW (Ql (p := .ref st.length) (s1:=st++[.l [.int x]]) (qI (qN rfl (qN rfl qe)) ex)) ?_
 refine qW (Ql (p := .int L) (qR rfl (qI (l:=[.ref st.length,.int 4]) rfl t1) (by rw [W4,hLe]))) ?_
 refine qW (Ql (qI (l:=[.ref st.length,.int L]) rfl ef)) ?_
 refine qW (Ql (qI (l:=[.ref st.length,.int L]) rfl ew)) ?_
 refine qW (WM ei et) ?_
 refine qW (Ql (qI (l:=[.int 2,.tup (F.map cP),.int L,.non]) rfl (qCe e2))) ?_
 refine qW ed ?_
 refine qW (qz (w_not (b:=true) (qX (qI (qN (qI (l:=[.int 2,.tup (F.map cP),.int L,.non]) rfl (qCe e4)) (qN rfl qe)) (qHd hL1 hL2)))) rfl) ?_
 refine qW (Ql (qI (l:=[.ref st.length]) rfl eno)) ?_
 have hc:qc [4,10] 1 (QM (qA (vC (.int 3)) qD)) (qy 2) [] [] (qH (QH a) (qA (qB 2) (qA (qB 0) (qA (qB 1) (qA (vC .non) qD))))) [some (.lst (ns.map PV.int)),some (.int k),some (.ref st.length),some (.int L),some (.tup (F.map cP)),some (wP rows),z6,z7,z8,some (wfP L F),some v] (st ++ .l [.int (y2 / 10)]::G4) = .ok [.str "! length",.str "! length",.str "! length"] (st ++ .l [.int (y2 / 10)]::G4) :=
  Zr (w:=⟨(qw 3).map PV.int,fun _=>True⟩) (itN (by decide) (by decide) rfl) (Wq (l:=[.str "! length"]) (m:=[.str "! length",.str "! length"]) (ps:=[.int 1,.int 2]) trivial (Ze (r':=[some (.tup (F.map cP)),some v,some (.int 0)]) rfl (qI (l:=[.int 0,.tup (F.map cP),v,.non]) rfl (qGP hd (qFb pv nv)))) (Wq (l:=[.str "! length"]) (m:=[.str "! length"]) (ps:=[.int 2]) trivial (Ze (r':=[some (.tup (F.map cP)),some v,some (.int 1)]) rfl (qI (l:=[.int 1,.tup (F.map cP),v,.non]) rfl (qGW hd (qDD pv nv)))) (Wq (l:=[.str "! length"]) (m:=[]) (ps:=[]) trivial (Ze (r':=[some (.tup (F.map cP)),some v,some (.int 2)]) rfl (qI (l:=[.int 2,.tup (F.map cP),v,.non]) rfl (qGv hd (qGt pv nv)))) (WB trivial)))) (sz rfl)
 exact qz (Qw (qR (wG hc) rfl rfl)) rfl
theorem qAk {a:Ad} (hd:Dist a) {ns:List Int}:∀ (ks:List Int) (x1 x2 x3 x4 x5 x6 x7 x8 x9 x10:Option PV) (st:qC),(∀ k∈ks,0≤k) -> ∃ e st',Qo (fun _=>True) (QY 1) (Z7 a) (ks.map PV.int) [some (.lst (ns.map PV.int)),x1,x2,x3,x4,x5,x6,x7,x8,x9,x10] st = .nx e st'
 |[],x1,x2,x3,x4,x5,x6,x7,x8,x9,x10,st,_=>⟨_,st,Qa trivial⟩
 |k::ks,x1,x2,x3,x4,x5,x6,x7,x8,x9,x10,st,h=>by
  obtain ⟨y2,y3,y4,y5,y6,y7,y8,y9,y10,st1,e⟩:=qHX (a:=a) hd (ns:=ns) (k:=k) (st:=st) (x2:=x2) (x3:=x3) (x4:=x4) (x5:=x5) (x6:=x6) (x7:=x7) (x8:=x8) (x9:=x9) (x10:=x10) (h k AI)
  obtain ⟨e',st',e2⟩:=qAk hd (ns:=ns) ks (some (.int k)) y2 y3 y4 y5 y6 y7 y8 y9 y10 st1 fun q hq=>h q (AD _ hq)
  exact ⟨e',st',WY trivial rfl e e2⟩
theorem law_true:∀ (a:Ad) (ns:List Int),Dist a->ns.length≤63->(∀ k∈ns,Builtin.Int.intBits k≤2 ^ 20) -> ∃ st,qAM a [.lst (ns.map PV.int)] [] = .ok (.bl true) st:=by
 intro a ns hd hl hb
 obtain ⟨n,hn0,hn4,hn⟩:∃ n:Int,0≤n∧n≤5∧qH qDy (qA (vC (.int 1)) (qA (qH qFC (qA (qH WH (qA (qB 0) qD)) (qA (vC (.int 5)) qD))) qD)) (Q4 11 [.lst (ns.map PV.int)]) [] = .ok (.int n) []:=by
  refine ⟨if (if (5:Int) < ns.length then 5 else (ns.length:Int)) > 1 then (if (5:Int) < ns.length then 5 else (ns.length:Int)) else 1,?_,?_,?_⟩
  ·split <;> (try split) <;> omega
  ·split <;> (try split) <;> omega
  ·exact qI (qN rfl (qN (qI (l:=[.int ns.length,.int 5]) (qN (qI (qN rfl qe) (za (l:=ns.map PV.int) rfl (by rw [AF]))) (qN rfl qe)) rfl) qe)) rfl
 obtain ⟨e,st',h⟩:=qAk hd (qw n) none none none none none none none none none none [] fun k hk=>by have:=upto_mem.mp hk;omega
 exact ⟨st',QK rfl (qW (WM (itN hn0 (by omega) (qN hn qe)) h) (qk rfl))⟩
end K53
end
section

end
noncomputable section
namespace K53
open PySem PySem.Spec PyProof.Rows L2 EX EV
theorem qGw {a:Ad} {x:Addr} {c:Value} {b:Bool} (h:kit a (.ref x) c=some b):x∈Qt a:=by
 cases c with
 |ref d =>
  have h:(if x∈Qt a∧d∈a.kinds then some (x==d) else none)=some b:=h
  split at h
  ·rename_i hx;exact hx.1
  ·cases h
 |type T =>
  have h:(if x∈Qt a∧T = "ValueError" then some true else none)=some b:=h
  split at h
  ·rename_i hx;exact hx.1
  ·cases h
 |_=>cases h
theorem qDJ {K:W.Frag}:∀ p∈kitTab,W.kitOne K (.type p.1.1) (.type p.1.2)=some p.2:=by
 intro p hp
 unfold kitTab at hp
 simp only [AJ,AY,Bi] at hp
 rcases hp with rfl |rfl |rfl |rfl |rfl |rfl |rfl |rfl |rfl |rfl |rfl |rfl |rfl |rfl |rfl |rfl |rfl |rfl |rfl |rfl |rfl |rfl |rfl |rfl |rfl |rfl |rfl |rfl <;> rfl
theorem qAn {s T:String} {b:Bool}:∀ {l:List ((String×String)×Bool)},l.lookup (s,T)=some b->((s,T),b)∈l
 |[],h=>by cases h
 |(q,k)::l,h=>by
  rw [A4] at h
  split at h
  ·rename_i e;cases h;rw [eq_of_beq e];exact AI
  ·exact AD _ (qAn h)
theorem qF5 {K:W.Frag} {s T:String} {b:Bool} (h:qJr s T=some b):W.kitOne K (.type s) (.type T)=some b:=qDJ _ (qAn h)
theorem QT {a:Ad} (h:Dist a):a.Z1≠a.Z2∧a.Z1≠a.Z3∧a.Z1≠a.Z4∧a.Z1≠a.Z5∧a.Z1≠a.Z6∧a.Z1≠a.Z7∧a.Z1≠a.Z8∧a.Z1≠a.Z9∧a.Z1≠a.Z10∧a.Z1≠a.Z11:=by
 have nd:=h.nd
 unfold Ad.kinds at nd
 simp only [BM,AJ,AY,not_or,Bi] at nd
 refine ⟨?_,?_,?_,?_,?_,?_,?_,?_,?_,?_⟩ <;> (intro z;simp only [z,not_true_eq_false,false_and,and_false] at nd)
theorem QI {a:Ad} (h:Dist a):a.Z5≠a.Z1∧a.Z5≠a.Z2∧a.Z5≠a.Z3∧a.Z5≠a.Z4∧a.Z5≠a.Z6∧a.Z5≠a.Z7∧a.Z5≠a.Z8∧a.Z5≠a.Z9∧a.Z5≠a.Z10∧a.Z5≠a.Z11:=by
 have nd:=h.nd
 unfold Ad.kinds at nd
 simp only [BM,AJ,AY,not_or,Bi] at nd
 refine ⟨?_,?_,?_,?_,?_,?_,?_,?_,?_,?_⟩ <;> (intro z;simp only [z,not_true_eq_false,false_and,and_false] at nd)
def Ji (e:DictEntry):Bool:=match e.key with
 | .str _ _=>true
 |_=>false
theorem YH {K:W.Frag} {N:Addr} {c:Value} {dd:Option Addr} {es:Array DictEntry} {ep:Nat} {sl:Array (Option Value)} (h:K.lookup N=some ⟨c,dd,.dict es ep,sl⟩) (hl:es.toList.all Ji=true):W.nsOkIn K N=true:=by
 unfold W.nsOkIn
 rw [show List.lookup N K=_ from h]
 show (es.all fun e=>match e.key with | .str _ _=>true |_=>false)=true
 rw [← Array.all_toList]
 exact hl
theorem qGT {K:W.Frag} {B:Addr} {cdB:ClassData} {cB:Value} {dB:Option Addr} {slB:Array (Option Value)} (hB:K.lookup B=some ⟨cB,dB,.cls cdB,slB⟩) (hnB:W.nsOkIn K cdB.ns=true) (hiB:W.nsIn K cdB.ns "__init__" = some none):W.tailIn K bmV (.ref B::bmV)=true:=by
 rw [W.tailIn.eq_2,show List.lookup B K=_ from hB]
 dsimp only
 rw [hnB,hiB]
 rfl
theorem qFY {K:W.Frag} {C B:Addr} {dd:Option Addr} {cd cdB:ClassData} {sl:Array (Option Value)} {k0 k1 k2 k3 k5:Option Value} {cB:Value} {dB:Option Addr} {slB:Array (Option Value)} (hC:K.lookup C=some ⟨.type "type",dd,.cls cd,sl⟩) (hm:cd.mro = .ref C :: .ref B::bmV)
  (hs:sl.toList=[k0,k1,k2,k3,some (.builtin "ValueError.__new__"),k5]) (hD:cd.hasDel=false) (hn:W.nsOkIn K cd.ns=true) (hi:W.nsIn K cd.ns "__init__" = some none) (hB:K.lookup B=some ⟨cB,dB,.cls cdB,slB⟩) (hnB:W.nsOkIn K cdB.ns=true) (hiB:W.nsIn K cdB.ns "__init__" = some none) :
  W.excIn K C bmV "ValueError.__new__" = true:=by
 have t:=qGT hB hnB hiB
 obtain ⟨nm,bs,mro,ns,qn,hd,sn,sb,ab,co,del⟩:=cd
 obtain ⟨sl⟩:=sl
 have hm:mro=_:=hm
 have hs:sl=_:=hs
 have hD:del=false:=hD
 subst hm;subst hs;subst hD
 unfold W.excIn
 rw [show List.lookup C K=_ from hC]
 show (C==C&&("ValueError.__new__" == "ValueError.__new__") && !false&&W.tailIn K bmV (.ref B::bmV)&&W.nsOkIn K ns&&(W.nsIn K ns "__init__" == some none))=true
 rw [t,show W.nsOkIn K ns=true from hn,show W.nsIn K ns "__init__" = some none from hi]
 simp
theorem qGu {P:Program} {w:World} {K:W.Frag} {mg:Str->Option Value} {base:Heap} {CX:CXT} {k:Nat} {f:Addr} {fd:FuncData} {ps:List Str} {sp sp':Sp} (F:FnOk P w K mg base CX k f fd ps sp) (h:∀ vs H Q E,sp' vs H Q E->sp vs H Q E):FnOk P w K mg base CX k f fd ps sp' :=
 ⟨fun vs H Q E q=>F.len vs H Q E (h vs H Q E q),fun A outer s H args us vs Q E hr e b v q=>F.run A outer s H args us vs Q E hr e b v (h vs H Q E q)⟩
def spL (K:W.Frag):Sp:=fun vs H Q E => ∀ a,Dist a->spG K 1 (qAM a) vs H Q E
theorem all_mk {l:W.OpenLaw} {w:World} {K:W.Frag} {h:Heap} {mg:Str->Option Value} {fa:Addr} (X:K.In h) (G:h.Ns mainGlobals mg) (hfa:mg "law" = some (.ref fa))
  {c_Z0 c_Z1 c_Z2 c_Z3 c_Z4 c_Z5 c_Z6 c_Z7 c_Z8 c_Z9 c_Z10 c_Z11 ff0 ff1 ff2 ff3 ff4 ff5 ff6 ff7 ff8 ff9 ff10 ff11 ff12 ff13 ff14 ff15 ff16 ff17 ff18 ff19 ff20 ff21 ff22 ff23 ff24 ff25 ff26 ff27 ff28:Addr}
  {t_LEAST_LENGTH:Tok}
  {t_MOST_LENGTH:Tok}
  {ddB:Option Addr} {cdB:ClassData} {slB:Array (Option Value)}
  {NB:Addr} {cNB:Value} {dNB:Option Addr} {esB:Array DictEntry} {epB:Nat} {sNB:Array (Option Value)}
  {xdd_Z1:Option Addr} {xcd_Z1:ClassData} {xsl_Z1:Array (Option Value)} {xk0_Z1 xk1_Z1 xk2_Z1 xk3_Z1 xk5_Z1:Option Value} {xN_Z1:Addr} {xc_Z1:Value} {xd2_Z1:Option Addr} {xes_Z1:Array DictEntry} {xep_Z1:Nat} {xs2_Z1:Array (Option Value)}
  {xdd_Z5:Option Addr} {xcd_Z5:ClassData} {xsl_Z5:Array (Option Value)} {xk0_Z5 xk1_Z5 xk2_Z5 xk3_Z5 xk5_Z5:Option Value} {xN_Z5:Addr} {xc_Z5:Value} {xd2_Z5:Option Addr} {xes_Z5:Array DictEntry} {xep_Z5:Nat} {xs2_Z5:Array (Option Value)}
  (aa0:W.nsIn K mainGlobals "is_whole" = some (some (.ref ff0)))
  (ll0:K.lookup ff0=some ⟨oc0,od0,.func (W.fnOf "is_whole" "is_whole" (qd WR) (qZ WR) (qJ WR) .none kV0 dc0 pm0 an0 cd0 ct0),sl0⟩)
  (dd0:W.codeIn K cd0 "is_whole" = true)
  (kk0:W.keepIn K (.ref ff0)=true)
  (aa1:W.nsIn K mainGlobals "is_whole_within" = some (some (.ref ff1)))
  (ll1:K.lookup ff1=some ⟨oc1,od1,.func (W.fnOf "is_whole_within" "is_whole_within" (qd Qh) (qZ Qh) (qJ Qh) .none kV1 dc1 pm1 an1 cd1 ct1),sl1⟩)
  (dd1:W.codeIn K cd1 "is_whole_within" = true)
  (kk1:W.keepIn K (.ref ff1)=true)
  (aa2:W.nsIn K mainGlobals "are_wholes" = some (some (.ref ff2)))
  (ll2:K.lookup ff2=some ⟨oc2,od2,.func (W.fnOf "are_wholes" "are_wholes" (qd wb) (qZ wb) (qJ wb) .none kV2 dc2 pm2 an2 cd2 ct2),sl2⟩)
  (dd2:W.codeIn K cd2 "are_wholes" = true)
  (kk2:W.keepIn K (.ref ff2)=true)
  (aa3:W.nsIn K mainGlobals "is_length" = some (some (.ref ff3)))
  (ll3:K.lookup ff3=some ⟨oc3,od3,.func (W.fnOf "is_length" "is_length" (qd w6) (qZ w6) (qJ w6) .none kV3 dc3 pm3 an3 cd3 ct3),sl3⟩)
  (dd3:W.codeIn K cd3 "is_length" = true)
  (kk3:W.keepIn K (.ref ff3)=true)
  (aa4:W.nsIn K mainGlobals "need_length" = some (some (.ref ff4)))
  (ll4:K.lookup ff4=some ⟨oc4,od4,.func (W.fnOf "need_length" "need_length" (qd Q7) (qZ Q7) (qJ Q7) .none kV4 dc4 pm4 an4 cd4 ct4),sl4⟩)
  (dd4:W.codeIn K cd4 "need_length" = true)
  (kk4:W.keepIn K (.ref ff4)=true)
  (aa5:W.nsIn K mainGlobals "rests" = some (some (.ref ff5)))
  (ll5:K.lookup ff5=some ⟨oc5,od5,.func (W.fnOf "rests" "rests" (qd ZT) (qZ ZT) (qJ ZT) .none kV5 dc5 pm5 an5 cd5 ct5),sl5⟩)
  (dd5:W.codeIn K cd5 "rests" = true)
  (kk5:W.keepIn K (.ref ff5)=true)
  (aa6:W.nsIn K mainGlobals "first_apart" = some (some (.ref ff6)))
  (ll6:K.lookup ff6=some ⟨oc6,od6,.func (W.fnOf "first_apart" "first_apart" (qd wL) (qZ wL) (qJ wL) .none kV6 dc6 pm6 an6 cd6 ct6),sl6⟩)
  (dd6:W.codeIn K cd6 "first_apart" = true)
  (kk6:W.keepIn K (.ref ff6)=true)
  (aa7:W.nsIn K mainGlobals "are_weights" = some (some (.ref ff7)))
  (ll7:K.lookup ff7=some ⟨oc7,od7,.func (W.fnOf "are_weights" "are_weights" (qd wM) (qZ wM) (qJ wM) .none kV7 dc7 pm7 an7 cd7 ct7),sl7⟩)
  (dd7:W.codeIn K cd7 "are_weights" = true)
  (kk7:W.keepIn K (.ref ff7)=true)
  (aa8:W.nsIn K mainGlobals "weight_of" = some (some (.ref ff8)))
  (ll8:K.lookup ff8=some ⟨oc8,od8,.func (W.fnOf "weight_of" "weight_of" (qd wp) (qZ wp) (qJ wp) .none kV8 dc8 pm8 an8 cd8 ct8),sl8⟩)
  (dd8:W.codeIn K cd8 "weight_of" = true)
  (kk8:W.keepIn K (.ref ff8)=true)
  (aa9:W.nsIn K mainGlobals "weights_for" = some (some (.ref ff9)))
  (ll9:K.lookup ff9=some ⟨oc9,od9,.func (W.fnOf "weights_for" "weights_for" (qd wK) (qZ wK) (qJ wK) .none kV9 dc9 pm9 an9 cd9 ct9),sl9⟩)
  (dd9:W.codeIn K cd9 "weights_for" = true)
  (kk9:W.keepIn K (.ref ff9)=true)
  (aa10:W.nsIn K mainGlobals "_law_cell" = some (some (.ref ff10)))
  (ll10:K.lookup ff10=some ⟨oc10,od10,.func (W.fnOf "_law_cell" "_law_cell" (qd Wa) (qZ Wa) (qJ Wa) .none kV10 dc10 pm10 an10 cd10 ct10),sl10⟩)
  (dd10:W.codeIn K cd10 "_law_cell" = true)
  (kk10:W.keepIn K (.ref ff10)=true)
  (aa11:W.nsIn K mainGlobals "_law_box" = some (some (.ref ff11)))
  (ll11:K.lookup ff11=some ⟨oc11,od11,.func (W.fnOf "_law_box" "_law_box" (qd Wy) (qZ Wy) (qJ Wy) .none kV11 dc11 pm11 an11 cd11 ct11),sl11⟩)
  (dd11:W.codeIn K cd11 "_law_box" = true)
  (kk11:W.keepIn K (.ref ff11)=true)
  (aa12:W.nsIn K mainGlobals "_law_take" = some (some (.ref ff12)))
  (ll12:K.lookup ff12=some ⟨oc12,od12,.func (W.fnOf "_law_take" "_law_take" (qd WW) (qZ WW) (qJ WW) .none kV12 dc12 pm12 an12 cd12 ct12),sl12⟩)
  (dd12:W.codeIn K cd12 "_law_take" = true)
  (kk12:W.keepIn K (.ref ff12)=true)
  (aa13:W.nsIn K mainGlobals "_law_whole" = some (some (.ref ff13)))
  (ll13:K.lookup ff13=some ⟨oc13,od13,.func (W.fnOf "_law_whole" "_law_whole" (qd wz) (qZ wz) (qJ wz) .none kV13 dc13 pm13 an13 cd13 ct13),sl13⟩)
  (dd13:W.codeIn K cd13 "_law_whole" = true)
  (kk13:W.keepIn K (.ref ff13)=true)
  (aa14:W.nsIn K mainGlobals "_law_odd" = some (some (.ref ff14)))
  (ll14:K.lookup ff14=some ⟨oc14,od14,.func (W.fnOf "_law_odd" "_law_odd" (qd Wz) (qZ Wz) (qJ Wz) .none kV14 dc14 pm14 an14 cd14 ct14),sl14⟩)
  (dd14:W.codeIn K cd14 "_law_odd" = true)
  (kk14:W.keepIn K (.ref ff14)=true)
  (aa15:W.nsIn K mainGlobals "_law_kind" = some (some (.ref ff15)))
  (ll15:K.lookup ff15=some ⟨oc15,od15,.func (W.fnOf "_law_kind" "_law_kind" (qd Wd) (qZ Wd) (qJ Wd) .none kV15 dc15 pm15 an15 cd15 ct15),sl15⟩)
  (dd15:W.codeIn K cd15 "_law_kind" = true)
  (kk15:W.keepIn K (.ref ff15)=true)
  (aa16:W.nsIn K mainGlobals "_law_same" = some (some (.ref ff16)))
  (ll16:K.lookup ff16=some ⟨oc16,od16,.func (W.fnOf "_law_same" "_law_same" (qd WX) (qZ WX) (qJ WX) .none kV16 dc16 pm16 an16 cd16 ct16),sl16⟩)
  (dd16:W.codeIn K cd16 "_law_same" = true)
  (kk16:W.keepIn K (.ref ff16)=true)
  (aa17:W.nsIn K mainGlobals "_law_no_length" = some (some (.ref ff17)))
  (ll17:K.lookup ff17=some ⟨oc17,od17,.func (W.fnOf "_law_no_length" "_law_no_length" (qd Qz) (qZ Qz) (qJ Qz) .none kV17 dc17 pm17 an17 cd17 ct17),sl17⟩)
  (dd17:W.codeIn K cd17 "_law_no_length" = true)
  (kk17:W.keepIn K (.ref ff17)=true)
  (aa18:W.nsIn K mainGlobals "_law_cover" = some (some (.ref ff18)))
  (ll18:K.lookup ff18=some ⟨oc18,od18,.func (W.fnOf "_law_cover" "_law_cover" (qd wt) (qZ wt) (qJ wt) .none kV18 dc18 pm18 an18 cd18 ct18),sl18⟩)
  (dd18:W.codeIn K cd18 "_law_cover" = true)
  (kk18:W.keepIn K (.ref ff18)=true)
  (aa19:W.nsIn K mainGlobals "_law_put" = some (some (.ref ff19)))
  (ll19:K.lookup ff19=some ⟨oc19,od19,.func (W.fnOf "_law_put" "_law_put" (qd Wv) (qZ Wv) (qJ Wv) .none kV19 dc19 pm19 an19 cd19 ct19),sl19⟩)
  (dd19:W.codeIn K cd19 "_law_put" = true)
  (kk19:W.keepIn K (.ref ff19)=true)
  (aa20:W.nsIn K mainGlobals "_law_floor" = some (some (.ref ff20)))
  (ll20:K.lookup ff20=some ⟨oc20,od20,.func (W.fnOf "_law_floor" "_law_floor" (qd WA) (qZ WA) (qJ WA) .none kV20 dc20 pm20 an20 cd20 ct20),sl20⟩)
  (dd20:W.codeIn K cd20 "_law_floor" = true)
  (kk20:W.keepIn K (.ref ff20)=true)
  (aa21:W.nsIn K mainGlobals "_law_rests" = some (some (.ref ff21)))
  (ll21:K.lookup ff21=some ⟨oc21,od21,.func (W.fnOf "_law_rests" "_law_rests" (qd w9) (qZ w9) (qJ w9) .none kV21 dc21 pm21 an21 cd21 ct21),sl21⟩)
  (dd21:W.codeIn K cd21 "_law_rests" = true)
  (kk21:W.keepIn K (.ref ff21)=true)
  (aa22:W.nsIn K mainGlobals "_law_apart" = some (some (.ref ff22)))
  (ll22:K.lookup ff22=some ⟨oc22,od22,.func (W.fnOf "_law_apart" "_law_apart" (qd wo) (qZ wo) (qJ wo) .none kV22 dc22 pm22 an22 cd22 ct22),sl22⟩)
  (dd22:W.codeIn K cd22 "_law_apart" = true)
  (kk22:W.keepIn K (.ref ff22)=true)
  (aa23:W.nsIn K mainGlobals "_law_are_weights" = some (some (.ref ff23)))
  (ll23:K.lookup ff23=some ⟨oc23,od23,.func (W.fnOf "_law_are_weights" "_law_are_weights" (qd Qj) (qZ Qj) (qJ Qj) .none kV23 dc23 pm23 an23 cd23 ct23),sl23⟩)
  (dd23:W.codeIn K cd23 "_law_are_weights" = true)
  (kk23:W.keepIn K (.ref ff23)=true)
  (aa24:W.nsIn K mainGlobals "_law_weight" = some (some (.ref ff24)))
  (ll24:K.lookup ff24=some ⟨oc24,od24,.func (W.fnOf "_law_weight" "_law_weight" (qd wX) (qZ wX) (qJ wX) .none kV24 dc24 pm24 an24 cd24 ct24),sl24⟩)
  (dd24:W.codeIn K cd24 "_law_weight" = true)
  (kk24:W.keepIn K (.ref ff24)=true)
  (aa25:W.nsIn K mainGlobals "_law_weights" = some (some (.ref ff25)))
  (ll25:K.lookup ff25=some ⟨oc25,od25,.func (W.fnOf "_law_weights" "_law_weights" (qd wN) (qZ wN) (qJ wN) .none kV25 dc25 pm25 an25 cd25 ct25),sl25⟩)
  (dd25:W.codeIn K cd25 "_law_weights" = true)
  (kk25:W.keepIn K (.ref ff25)=true)
  (aa26:W.nsIn K mainGlobals "_law_bent" = some (some (.ref ff26)))
  (ll26:K.lookup ff26=some ⟨oc26,od26,.func (W.fnOf "_law_bent" "_law_bent" (qd WZ) (qZ WZ) (qJ WZ) .none kV26 dc26 pm26 an26 cd26 ct26),sl26⟩)
  (dd26:W.codeIn K cd26 "_law_bent" = true)
  (kk26:W.keepIn K (.ref ff26)=true)
  (aa27:W.nsIn K mainGlobals "_law_asked" = some (some (.ref ff27)))
  (ll27:K.lookup ff27=some ⟨oc27,od27,.func (W.fnOf "_law_asked" "_law_asked" (qd wU) (qZ wU) (qJ wU) .none kV27 dc27 pm27 an27 cd27 ct27),sl27⟩)
  (dd27:W.codeIn K cd27 "_law_asked" = true)
  (kk27:W.keepIn K (.ref ff27)=true)
  (aa28:W.nsIn K mainGlobals "law" = some (some (.ref ff28)))
  (ll28:K.lookup ff28=some ⟨oc28,od28,.func (W.fnOf "law" "law" (qd z9) (qZ z9) (qJ z9) .none kV28 dc28 pm28 an28 cd28 ct28),sl28⟩)
  (dd28:W.codeIn K cd28 "law" = true)
  (kk28:W.keepIn K (.ref ff28)=true)
  (n_ValueError:W.nsIn K mainGlobals "ValueError" = some none)
  (n_all:W.nsIn K mainGlobals "all" = some none)
  (n_bool:W.nsIn K mainGlobals "bool" = some none)
  (n_int:W.nsIn K mainGlobals "int" = some none)
  (n_isinstance:W.nsIn K mainGlobals "isinstance" = some none)
  (n_len:W.nsIn K mainGlobals "len" = some none)
  (n_list:W.nsIn K mainGlobals "list" = some none)
  (n_max:W.nsIn K mainGlobals "max" = some none)
  (n_min:W.nsIn K mainGlobals "min" = some none)
  (n_range:W.nsIn K mainGlobals "range" = some none)
  (n_set:W.nsIn K mainGlobals "set" = some none)
  (n_sorted:W.nsIn K mainGlobals "sorted" = some none)
  (n_sum:W.nsIn K mainGlobals "sum" = some none)
  (n_tuple:W.nsIn K mainGlobals "tuple" = some none)
  (n_zip:W.nsIn K mainGlobals "zip" = some none)
  (g_LEAST_LENGTH:W.nsIn K mainGlobals "LEAST_LENGTH" = some (some (.int 2 t_LEAST_LENGTH)))
  (g_MOST_LENGTH:W.nsIn K mainGlobals "MOST_LENGTH" = some (some (.int 5 t_MOST_LENGTH)))
  (q_Z0:W.nsIn K mainGlobals "BarError" = some (some (.ref c_Z0)))
  (q_Z1:W.nsIn K mainGlobals "NoLength" = some (some (.ref c_Z1)))
  (q_Z2:W.nsIn K mainGlobals "NoNumber" = some (some (.ref c_Z2)))
  (q_Z3:W.nsIn K mainGlobals "NoBars" = some (some (.ref c_Z3)))
  (q_Z4:W.nsIn K mainGlobals "NoBox" = some (some (.ref c_Z4)))
  (q_Z5:W.nsIn K mainGlobals "NoWeights" = some (some (.ref c_Z5)))
  (q_Z6:W.nsIn K mainGlobals "NoSorts" = some (some (.ref c_Z6)))
  (q_Z7:W.nsIn K mainGlobals "NoTurn" = some (some (.ref c_Z7)))
  (q_Z8:W.nsIn K mainGlobals "NoPlace" = some (some (.ref c_Z8)))
  (q_Z9:W.nsIn K mainGlobals "NoText" = some (some (.ref c_Z9)))
  (q_Z10:W.nsIn K mainGlobals "NoRow" = some (some (.ref c_Z10)))
  (q_Z11:W.nsIn K mainGlobals "TooMany" = some (some (.ref c_Z11)))
  (oB:K.lookup c_Z0=some ⟨.type "type",ddB,.cls cdB,slB⟩)
  (nB:cdB.ns=NB)
  (oNB:K.lookup NB=some ⟨cNB,dNB,.dict esB epB,sNB⟩)
  (eNB:esB.toList.all Ji=true)
  (iNB:W.nsIn K NB "__init__" = some none)
  (bB:W.mroIn K c_Z0 (.type "BaseException")=some true)
  (xl_Z1:K.lookup c_Z1=some ⟨.type "type",xdd_Z1,.cls xcd_Z1,xsl_Z1⟩)
  (xm_Z1:xcd_Z1.mro = .ref c_Z1 :: .ref c_Z0::bmV)
  (xs_Z1:xsl_Z1.toList=[xk0_Z1,xk1_Z1,xk2_Z1,xk3_Z1,some (.builtin "ValueError.__new__"),xk5_Z1])
  (xd_Z1:xcd_Z1.hasDel=false)
  (xn_Z1:xcd_Z1.ns=xN_Z1)
  (xo_Z1:K.lookup xN_Z1=some ⟨xc_Z1,xd2_Z1,.dict xes_Z1 xep_Z1,xs2_Z1⟩)
  (xe_Z1:xes_Z1.toList.all Ji=true)
  (xi_Z1:W.nsIn K xN_Z1 "__init__" = some none)
  (e_Z1:W.mroIn K c_Z1 (.ref c_Z0)=some true)
  (v_Z1:W.kitOne K (.ref c_Z1) (.type "ValueError")=some true)
  (w_Z1_Z1:W.kitOne K (.ref c_Z1) (.ref c_Z1)=some true)
  (w_Z1_Z2:W.kitOne K (.ref c_Z1) (.ref c_Z2)=some false)
  (w_Z1_Z3:W.kitOne K (.ref c_Z1) (.ref c_Z3)=some false)
  (w_Z1_Z4:W.kitOne K (.ref c_Z1) (.ref c_Z4)=some false)
  (w_Z1_Z5:W.kitOne K (.ref c_Z1) (.ref c_Z5)=some false)
  (w_Z1_Z6:W.kitOne K (.ref c_Z1) (.ref c_Z6)=some false)
  (w_Z1_Z7:W.kitOne K (.ref c_Z1) (.ref c_Z7)=some false)
  (w_Z1_Z8:W.kitOne K (.ref c_Z1) (.ref c_Z8)=some false)
  (w_Z1_Z9:W.kitOne K (.ref c_Z1) (.ref c_Z9)=some false)
  (w_Z1_Z10:W.kitOne K (.ref c_Z1) (.ref c_Z10)=some false)
  (w_Z1_Z11:W.kitOne K (.ref c_Z1) (.ref c_Z11)=some false)
  (ga_Z1:W.findIn K (.ref c_Z1) "__getattribute__" = some (some (.builtin "BaseException.__getattribute__")))
  (gn_Z1:W.findIn K (.ref c_Z1) "__getattr__" = some none)
  (fo_Z1:∀ od,W.findObj K c_Z1 od "__class__" = some (.bind (.builtin "getset_descriptor.__get__") (.builtin "object.__class__")))
  (mo_Z1:W.mroIn K c_Z1 (.type "object")=some true)
  (mb_Z1:W.mroIn K c_Z1 (.type "BaseException")=some true)
  (xl_Z5:K.lookup c_Z5=some ⟨.type "type",xdd_Z5,.cls xcd_Z5,xsl_Z5⟩)
  (xm_Z5:xcd_Z5.mro = .ref c_Z5 :: .ref c_Z0::bmV)
  (xs_Z5:xsl_Z5.toList=[xk0_Z5,xk1_Z5,xk2_Z5,xk3_Z5,some (.builtin "ValueError.__new__"),xk5_Z5])
  (xd_Z5:xcd_Z5.hasDel=false)
  (xn_Z5:xcd_Z5.ns=xN_Z5)
  (xo_Z5:K.lookup xN_Z5=some ⟨xc_Z5,xd2_Z5,.dict xes_Z5 xep_Z5,xs2_Z5⟩)
  (xe_Z5:xes_Z5.toList.all Ji=true)
  (xi_Z5:W.nsIn K xN_Z5 "__init__" = some none)
  (e_Z5:W.mroIn K c_Z5 (.ref c_Z0)=some true)
  (v_Z5:W.kitOne K (.ref c_Z5) (.type "ValueError")=some true)
  (w_Z5_Z1:W.kitOne K (.ref c_Z5) (.ref c_Z1)=some false)
  (w_Z5_Z2:W.kitOne K (.ref c_Z5) (.ref c_Z2)=some false)
  (w_Z5_Z3:W.kitOne K (.ref c_Z5) (.ref c_Z3)=some false)
  (w_Z5_Z4:W.kitOne K (.ref c_Z5) (.ref c_Z4)=some false)
  (w_Z5_Z5:W.kitOne K (.ref c_Z5) (.ref c_Z5)=some true)
  (w_Z5_Z6:W.kitOne K (.ref c_Z5) (.ref c_Z6)=some false)
  (w_Z5_Z7:W.kitOne K (.ref c_Z5) (.ref c_Z7)=some false)
  (w_Z5_Z8:W.kitOne K (.ref c_Z5) (.ref c_Z8)=some false)
  (w_Z5_Z9:W.kitOne K (.ref c_Z5) (.ref c_Z9)=some false)
  (w_Z5_Z10:W.kitOne K (.ref c_Z5) (.ref c_Z10)=some false)
  (w_Z5_Z11:W.kitOne K (.ref c_Z5) (.ref c_Z11)=some false)
  (ga_Z5:W.findIn K (.ref c_Z5) "__getattribute__" = some (some (.builtin "BaseException.__getattribute__")))
  (gn_Z5:W.findIn K (.ref c_Z5) "__getattr__" = some none)
  (fo_Z5:∀ od,W.findObj K c_Z5 od "__class__" = some (.bind (.builtin "getset_descriptor.__get__") (.builtin "object.__class__")))
  (mo_Z5:W.mroIn K c_Z5 (.type "object")=some true)
  (mb_Z5:W.mroIn K c_Z5 (.type "BaseException")=some true)
  (ds:Dist ⟨c_Z0,c_Z1,c_Z2,c_Z3,c_Z4,c_Z5,c_Z6,c_Z7,c_Z8,c_Z9,c_Z10,c_Z11,ff0,ff1,ff2,ff3,ff4,ff5,ff6,ff7,ff8,ff9,ff10,ff11,ff12,ff13,ff14,ff15,ff16,ff17,ff18,ff19,ff20,ff21,ff22,ff23,ff24,ff25,ff26,ff27,ff28⟩) :
  ∃ fd:FuncData,(∀ (s:Shared) (v:Value),BindsTo s fd ⟨[v],[]⟩ [("_law_script",v)]) ∧ ∀ base:Heap,K.In base->base.Ns mainGlobals mg->FnOk l.prog w K mg base (CXF l.prog w) 10 fa fd ["_law_script"] (spL K):=by
 have e:ff28=fa:=Value.ref.inj (Am ((AW X G aa28).symm.trans hfa))
 subst e
 have V:Env K mg ⟨c_Z0,c_Z1,c_Z2,c_Z3,c_Z4,c_Z5,c_Z6,c_Z7,c_Z8,c_Z9,c_Z10,c_Z11,ff0,ff1,ff2,ff3,ff4,ff5,ff6,ff7,ff8,ff9,ff10,ff11,ff12,ff13,ff14,ff15,ff16,ff17,ff18,ff19,ff20,ff21,ff22,ff23,ff24,ff25,ff26,ff27,ff28⟩:=by
  refine { kit:=⟨fun t c b hk => ?_,fun x c b hk => ?_⟩,n_ValueError:=Az X G n_ValueError,n_all:=Az X G n_all,n_bool:=Az X G n_bool,n_int:=Az X G n_int,n_isinstance:=Az X G n_isinstance,n_len:=Az X G n_len,n_list:=Az X G n_list,n_max:=Az X G n_max,n_min:=Az X G n_min,n_range:=Az X G n_range,n_set:=Az X G n_set,n_sorted:=Az X G n_sorted,n_sum:=Az X G n_sum,n_tuple:=Az X G n_tuple,n_zip:=Az X G n_zip,c_LEAST_LENGTH:=⟨_,AW X G g_LEAST_LENGTH⟩,c_MOST_LENGTH:=⟨_,AW X G g_MOST_LENGTH⟩,k_Z0:=AW X G q_Z0,k_Z1:=AW X G q_Z1,k_Z2:=AW X G q_Z2,k_Z3:=AW X G q_Z3,k_Z4:=AW X G q_Z4,k_Z5:=AW X G q_Z5,k_Z6:=AW X G q_Z6,k_Z7:=AW X G q_Z7,k_Z8:=AW X G q_Z8,k_Z9:=AW X G q_Z9,k_Z10:=AW X G q_Z10,k_Z11:=AW X G q_Z11,x_Z1:=qFY xl_Z1 xm_Z1 xs_Z1 xd_Z1 (by rw [xn_Z1];exact YH xo_Z1 xe_Z1) (by rw [xn_Z1];exact xi_Z1) oB (by rw [nB];exact YH oNB eNB) (by rw [nB];exact iNB),e_Z1:=e_Z1,x_Z5:=qFY xl_Z5 xm_Z5 xs_Z5 xd_Z5 (by rw [xn_Z5];exact YH xo_Z5 xe_Z5) (by rw [xn_Z5];exact xi_Z5) oB (by rw [nB];exact YH oNB eNB) (by rw [nB];exact iNB),e_Z5:=e_Z5,o_Z0:=⟨_,_,_,oB⟩,b_Z0:=bB,m_is_whole:=AW X G aa0,f_is_whole:=⟨_,QS (st:=WR) ll0 dd0 kk0⟩,m_is_whole_within:=AW X G aa1,f_is_whole_within:=⟨_,QS (st:=Qh) ll1 dd1 kk1⟩,m_are_wholes:=AW X G aa2,f_are_wholes:=⟨_,QS (st:=wb) ll2 dd2 kk2⟩,m_is_length:=AW X G aa3,f_is_length:=⟨_,QS (st:=w6) ll3 dd3 kk3⟩,m_need_length:=AW X G aa4,f_need_length:=⟨_,QS (st:=Q7) ll4 dd4 kk4⟩,m_rests:=AW X G aa5,f_rests:=⟨_,QS (st:=ZT) ll5 dd5 kk5⟩,m_first_apart:=AW X G aa6,f_first_apart:=⟨_,QS (st:=wL) ll6 dd6 kk6⟩,m_are_weights:=AW X G aa7,f_are_weights:=⟨_,QS (st:=wM) ll7 dd7 kk7⟩,m_weight_of:=AW X G aa8,f_weight_of:=⟨_,QS (st:=wp) ll8 dd8 kk8⟩,m_weights_for:=AW X G aa9,f_weights_for:=⟨_,QS (st:=wK) ll9 dd9 kk9⟩,m_law_cell:=AW X G aa10,f_law_cell:=⟨_,QS (st:=Wa) ll10 dd10 kk10⟩,m_law_box:=AW X G aa11,f_law_box:=⟨_,QS (st:=Wy) ll11 dd11 kk11⟩,m_law_take:=AW X G aa12,f_law_take:=⟨_,QS (st:=WW) ll12 dd12 kk12⟩,m_law_whole:=AW X G aa13,f_law_whole:=⟨_,QS (st:=wz) ll13 dd13 kk13⟩,m_law_odd:=AW X G aa14,f_law_odd:=⟨_,QS (st:=Wz) ll14 dd14 kk14⟩,m_law_kind:=AW X G aa15,f_law_kind:=⟨_,QS (st:=Wd) ll15 dd15 kk15⟩,m_law_same:=AW X G aa16,f_law_same:=⟨_,QS (st:=WX) ll16 dd16 kk16⟩,m_law_no_length:=AW X G aa17,f_law_no_length:=⟨_,QS (st:=Qz) ll17 dd17 kk17⟩,m_law_cover:=AW X G aa18,f_law_cover:=⟨_,QS (st:=wt) ll18 dd18 kk18⟩,m_law_put:=AW X G aa19,f_law_put:=⟨_,QS (st:=Wv) ll19 dd19 kk19⟩,m_law_floor:=AW X G aa20,f_law_floor:=⟨_,QS (st:=WA) ll20 dd20 kk20⟩,m_law_rests:=AW X G aa21,f_law_rests:=⟨_,QS (st:=w9) ll21 dd21 kk21⟩,m_law_apart:=AW X G aa22,f_law_apart:=⟨_,QS (st:=wo) ll22 dd22 kk22⟩,m_law_are_weights:=AW X G aa23,f_law_are_weights:=⟨_,QS (st:=Qj) ll23 dd23 kk23⟩,m_law_weight:=AW X G aa24,f_law_weight:=⟨_,QS (st:=wX) ll24 dd24 kk24⟩,m_law_weights:=AW X G aa25,f_law_weights:=⟨_,QS (st:=wN) ll25 dd25 kk25⟩,m_law_bent:=AW X G aa26,f_law_bent:=⟨_,QS (st:=WZ) ll26 dd26 kk26⟩,m_law_asked:=AW X G aa27,f_law_asked:=⟨_,QS (st:=wU) ll27 dd27 kk27⟩,m_law:=AW X G aa28,f_law:=⟨_,QS (st:=z9) ll28 dd28 kk28⟩ }
  ·have hnd:=ds.nd
   unfold kit at hk
   split at hk
   ·exact qF5 hk
   ·split at hk
    ·rename_i x d hx
     cases hk
     have hx1:=hx.1
     have hx2:=hx.2
     unfold Qt at hx1
     unfold Ad.kinds at hx2
     simp only [AJ,AY,Bi] at hx1 hx2
     rcases hx1 with e1 |e1
     ·rcases hx2 with e2 |e2 |e2 |e2 |e2 |e2 |e2 |e2 |e2 |e2 |e2
      ·rw [e1,e2,At];exact w_Z1_Z1
      ·rw [e1,e2,show (c_Z1==c_Z2)=false from AH.mpr (QT ds).1];exact w_Z1_Z2
      ·rw [e1,e2,show (c_Z1==c_Z3)=false from AH.mpr (QT ds).2.1];exact w_Z1_Z3
      ·rw [e1,e2,show (c_Z1==c_Z4)=false from AH.mpr (QT ds).2.2.1];exact w_Z1_Z4
      ·rw [e1,e2,show (c_Z1==c_Z5)=false from AH.mpr (QT ds).2.2.2.1];exact w_Z1_Z5
      ·rw [e1,e2,show (c_Z1==c_Z6)=false from AH.mpr (QT ds).2.2.2.2.1];exact w_Z1_Z6
      ·rw [e1,e2,show (c_Z1==c_Z7)=false from AH.mpr (QT ds).2.2.2.2.2.1];exact w_Z1_Z7
      ·rw [e1,e2,show (c_Z1==c_Z8)=false from AH.mpr (QT ds).2.2.2.2.2.2.1];exact w_Z1_Z8
      ·rw [e1,e2,show (c_Z1==c_Z9)=false from AH.mpr (QT ds).2.2.2.2.2.2.2.1];exact w_Z1_Z9
      ·rw [e1,e2,show (c_Z1==c_Z10)=false from AH.mpr (QT ds).2.2.2.2.2.2.2.2.1];exact w_Z1_Z10
      ·rw [e1,e2,show (c_Z1==c_Z11)=false from AH.mpr (QT ds).2.2.2.2.2.2.2.2.2];exact w_Z1_Z11
     ·rcases hx2 with e2 |e2 |e2 |e2 |e2 |e2 |e2 |e2 |e2 |e2 |e2
      ·rw [e1,e2,show (c_Z5==c_Z1)=false from AH.mpr (QI ds).1];exact w_Z5_Z1
      ·rw [e1,e2,show (c_Z5==c_Z2)=false from AH.mpr (QI ds).2.1];exact w_Z5_Z2
      ·rw [e1,e2,show (c_Z5==c_Z3)=false from AH.mpr (QI ds).2.2.1];exact w_Z5_Z3
      ·rw [e1,e2,show (c_Z5==c_Z4)=false from AH.mpr (QI ds).2.2.2.1];exact w_Z5_Z4
      ·rw [e1,e2,At];exact w_Z5_Z5
      ·rw [e1,e2,show (c_Z5==c_Z6)=false from AH.mpr (QI ds).2.2.2.2.1];exact w_Z5_Z6
      ·rw [e1,e2,show (c_Z5==c_Z7)=false from AH.mpr (QI ds).2.2.2.2.2.1];exact w_Z5_Z7
      ·rw [e1,e2,show (c_Z5==c_Z8)=false from AH.mpr (QI ds).2.2.2.2.2.2.1];exact w_Z5_Z8
      ·rw [e1,e2,show (c_Z5==c_Z9)=false from AH.mpr (QI ds).2.2.2.2.2.2.2.1];exact w_Z5_Z9
      ·rw [e1,e2,show (c_Z5==c_Z10)=false from AH.mpr (QI ds).2.2.2.2.2.2.2.2.1];exact w_Z5_Z10
      ·rw [e1,e2,show (c_Z5==c_Z11)=false from AH.mpr (QI ds).2.2.2.2.2.2.2.2.2];exact w_Z5_Z11
    ·cases hk
   ·split at hk
    ·rename_i x T hx
     cases hk
     have hx1:=hx.1
     have hx2:=hx.2
     subst hx2
     unfold Qt at hx1
     simp only [AJ,AY,Bi] at hx1
     rcases hx1 with e1 |e1
     ·rw [e1];exact v_Z1
     ·rw [e1];exact v_Z5
    ·cases hk
   ·cases hk
  ·have hm:=qGw hk
   unfold Qt at hm
   simp only [AJ,AY,Bi] at hm
   rcases hm with e1 |e1
   ·rw [e1];exact ⟨ga_Z1,gn_Z1,fo_Z1,mo_Z1,mb_Z1⟩
   ·rw [e1];exact ⟨ga_Z5,gn_Z5,fo_Z5,mo_Z5,mb_Z5⟩
 refine ⟨W.fnOf "law" "law" (qd z9) (qZ z9) (qJ z9) .none kV28 dc28 pm28 an28 cd28 ct28,fun s v => .of_eq rfl,fun base _ _ => ?_⟩
 exact qGu (qKi V (QS (st:=z9) ll28 dd28 kk28)) fun vs H Q E q=>q _ ds
theorem qD9 {l:W.OpenLaw} {n k:Nat} {q:Program} {loose:List Str} {XP:(Str->Option Value)->Heap->Prop} {YP:World->Heap->Prop} {d:DefRec} {K:Params->W.Frag} {CX:World->CXT} {sp:World->Sp} {x:Str}
  (hn:l.most=some n) (hn2:n≤sizeLine) (hdf:d.params.defaults=[]) (hr:Room k callerA)
  (hY:∀ (w:World) (h:Heap),YP w h->(K w.params).In h)
  (F:∀ (w:World) (mg:Str->Option Value) (fa:Addr) (h:Heap),(K w.params).In h->h.Ns mainGlobals mg->XP mg h->mg d.name=some (.ref fa) ->
   ∃ fd:FuncData,(∀ (s:Shared) (u:Value),BindsTo s fd ⟨[u],[]⟩ [(x,u)]) ∧
    ∀ base:Heap,(K w.params).In base->base.Ns mainGlobals mg->FnOk l.prog w (K w.params) mg base (CX w) k fa fd [x] (sp w))
  (hsp:∀ (w:World) (H:Hp) (a:Addr) (ns:List Int),ns.length≤n->(∀ k∈ns,Builtin.Int.intBits k≤2 ^ 20)->qJM H->SqL (K w.params) H a (ns.map V.int)->sp w [.ref a] H (fun v _=>v = .bl true) fun _ _ _=>False)
  (hCX:∀ (w:World) (H:Hp) (s:Shared) (e:Value) (s':Shared),CX w [] H s (fun _ _ _=>False) e s'->False) :
  W.WalkO q loose XP YP l.row.toRowW d [] (fun f vs=>PySem.call f vs):=by
 refine Att.attach_callB hn hdf fun w s₀ s₁ mg mb fa o pm cd doc a vs ns G Y ho hd hcd hmg hobj hints hlen hbits hg => ?_
 have KX:=hY w _ Y
 obtain ⟨fd,hb,hF⟩:=F w mg fa _ KX G.T.g G.X hmg
 exact qE8 KX G.T.g G.T.b G.T.builtins G.T.nolimit hg hobj hints (Aa hlen hn2) hr hF hb (fun H hO hS=>hsp w H a ns hlen hbits hO hS) fun H e s'=>hCX w H s₁ e s'
theorem ZJ {K:W.Frag} {H:Hp} {b:Bz}:∀ ns:List Int,RVs K H b (ns.map PV.int) (ns.map V.int)
 |[]=>RVs.nil
 |n::ns=>RVs.cons wC (ZJ ns)
theorem qFE (key:∀ (a:Ad) (ns:List Int),Dist a->ns.length≤63->(∀ k∈ns,Builtin.Int.intBits k≤2 ^ 20) -> ∃ st,qAM a [.lst (ns.map PV.int)] [] = .ok (.bl true) st) {K:W.Frag} {H:Hp} {a:Addr} {ns:List Int} (hl:ns.length≤63) (hb:∀ k∈ns,Builtin.Int.intBits k≤2 ^ 20) (hS:SqL K H a (ns.map V.int)):spL K [.ref a] H (fun v _=>v = .bl true) fun _ _ _=>False:=by
 intro ad hd
 obtain ⟨st,e⟩:=key ad ns hd hl hb
 refine ⟨rfl,⟨[],[]⟩,[.lst (ns.map PV.int)],[],⟨rfl,List.nodup_nil,fun i x h=>by simp at h,fun a ha=>(AY ha).elim,fun a ha=>(AY ha).elim⟩,RVs.cons ?_ RVs.nil,?_⟩
 ·unfold RV
  exact ⟨a,_,rfl,hS.imp (fun h=>⟨h,AY,AY⟩) id,ZJ ns⟩
 ·rw [e]
  intro v H' b' _ _ r
  unfold RV at r
  exact r
theorem walk31 (key:∀ (a:Ad) (ns:List Int),Dist a->ns.length≤63->(∀ k∈ns,Builtin.Int.intBits k≤2 ^ 20) -> ∃ st,qAM a [.lst (ns.map PV.int)] [] = .ok (.bl true) st) {l:W.OpenLaw} {q:Program} {loose:List Str} {XP:(Str->Option Value)->Heap->Prop} {YP:World->Heap->Prop} {d:DefRec} {K:Params->W.Frag} (hn:l.most=some 63) (hdf:d.params.defaults=[])
  (hY:∀ (w:World) (h:Heap),YP w h->(K w.params).In h)
  (F:∀ (w:World) (mg:Str->Option Value) (fa:Addr) (h:Heap),(K w.params).In h->h.Ns mainGlobals mg->XP mg h->mg d.name=some (.ref fa) ->
   ∃ fd:FuncData,(∀ (s:Shared) (u:Value),BindsTo s fd ⟨[u],[]⟩ [("_law_script",u)]) ∧ ∀ base:Heap,(K w.params).In base->base.Ns mainGlobals mg->FnOk l.prog w (K w.params) mg base (CXF l.prog w) 10 fa fd ["_law_script"] (spL (K w.params))) :
  W.WalkO q loose XP YP l.row.toRowW d [] (fun f vs=>PySem.call f vs) :=
 qD9 (n:=63) (k:=10) (x := "_law_script") (CX:=fun w=>CXF l.prog w) (sp:=fun w=>spL (K w.params)) hn (by decide) hdf ⟨fun _=>rfl,by decide,by decide,rfl⟩ hY F (fun _ _ a ns hl hb _ hS=>qFE key hl hb hS) fun _ _ _ _ _ z=>by
  obtain ⟨_,_,_,_,_,_,_,_,_,_,_,_,q⟩:=z
  exact q
end K53
end
section
namespace PySem.W.Fast
def tw8803307125574149739:=0
def tw15568688611682998563:=0
def tw14781507948002011758:=0
def tw8085339342281003486:=0
def tw2990767724884239414:=0
def tw7065882491249882146:=0
def tw241949451571999502:=0
def tw4132691661830383584:=0
def tw12120376688950287624:=0
def tw8460616807524308243:=0
def tw1453999728653899177:=0
def tw10153831526717302232:=0
def tw2754030805616531577:=0
def tw13718540841865316649:=0
def tw7923118927465702149:=0
def tw4565143071507320742:=0
def tw13016043648657575445:=0
def tw15382603290548960437:=0
def tw15297325197179996722:=0
def tw15171399017849954042:=0
def tw5886443973646684509:=0
def tw2592348969021045264:=0
def tw9730717213717203783:=0
def tw10299872784552995755:=0
def tw16111300074911099428:=0
def tw15897602562905019106:=0
def tw318440880791703512:=0
def tw15113205698594453385:=0
def tw13602942797872554346:=0
def tw8064577694418883851:=0
def tw12518256329120734203:=0
def tw1334586041062692763:=0
def tw14028521686128833213:=0
def tw1678117297387709220:=0
def tw792241390114042224:=0
def tw9703138395202408860:=0
def tw15402422230623692858:=0
def tw12619201799429467966:=0
def tw6519592257984529440:=0
def tw1020614372705445383:=0
def tw15870289251291291185:=0
def tw9576444525013276358:=0
def tw10769830236464049896:=0
def tw8186521487540348132:=0
def tw13319105102657605856:=0
def tw14619360434908434293:=0
def tw14940775540965397547:=0
def tw6321404407486052304:=0
def tw1313668924251599034:=0
def tw6678746802724835294:=0
def tw9223131519651090132:=0
def tw6479170552365425468:=0
end PySem.W.Fast
open PySem PySem.W PyProof.Rows
set_option maxRecDepth 100000 in
set_option maxHeartbeats 0 in
theorem PySem.Challenge.cw_barfloors_k53_weights_holds : PySem.Challenge.rw_barfloors_k53_weights.Holds := by
  w_on; o_law; k_head; (case hw => w_witness2)
  k_fill
  refine K53.walk31 K53.law_true (l := PySem.Challenge.rw_barfloors_k53_weights) rfl rfl (fun w h Y => PySem.W.kIn_of Y) ?F
  case F =>
    intro w mg fa h KX G XX hmg
    refine' K53.all_mk KX G hmg ?zzA ?zzB ?zzC ?zzD ?zzE ?zzF ?zzG ?zzH ?zzI ?zzJ ?zzK ?zzL ?zzM ?zzN ?zzO ?zzP ?zzQ ?zzR ?zzS ?zzT ?zzU ?zzV ?zzW ?zzX ?zzY ?zzZ ?zza ?zzb ?zzc ?zzd ?zze ?zzf ?zzg ?zzh ?zzi ?zzj ?zzk ?zzl ?zzm ?zzn ?zzo ?zzp ?zzq ?zzr ?zzs ?zzt ?zzu ?zzv ?zzw ?zzx ?zzy ?zzz ?zyA ?zyB ?zyC ?zyD ?zyE ?zyF ?zyG ?zyH ?zyI ?zyJ ?zyK ?zyL ?zyM ?zyN ?zyO ?zyP ?zyQ ?zyR ?zyS ?zyT ?zyU ?zyV ?zyW ?zyX ?zyY ?zyZ ?zya ?zyb ?zyc ?zyd ?zye ?zyf ?zyg ?zyh ?zyi ?zyj ?zyk ?zyl ?zym ?zyn ?zyo ?zyp ?zyq ?zyr ?zys ?zyt ?zyu ?zyv ?zyw ?zyx ?zyy ?zyz ?zxA ?zxB ?zxC ?zxD ?zxE ?zxF ?zxG ?zxH ?zxI ?zxJ ?zxK ?zxL ?zxM ?zxN ?zxO ?zxP ?zxQ ?zxR ?zxS ?zxT ?zxU ?zxV ?zxW ?zxX ?zxY ?zxZ ?zxa ?zxb ?zxc ?zxd ?zxe ?zxf ?zxg ?zxh ?zxi ?zxj ?zxk ?zxl ?zxm ?zxn ?zxo ?zxp ?zxq ?zxr ?zxs ?zxt ?zxu ?zxv ?zxw ?zxx ?zxy ?zxz ?zwA ?zwB ?zwC ?zwD ?zwE ?zwF ?zwG ?zwH ?zwI ?zwJ ?zwK ?zwL ?zwM ?zwN ?zwO ?zwP ?zwQ ?zwR ?zwS ?zwT ?zwU ?zwV ?zwW ?zwX ?zwY ?zwZ ?zwa ?zwb ?zwc ?zwd ?zwe ?zwf ?zwg ?zwh ?zwi ?zwj ?zwk ?zwl ?zwm ?zwn ?zwo ?zwp ?zwq ?zwr ?zws ?zwt ?zwu ?zwv
    (case zzA|zzB|zzC|zzD|zzE|zzF|zzG|zzH|zzI|zzJ|zzK|zzL|zzM|zzN|zzO|zzP|zzQ|zzR|zzS|zzT|zzU|zzV|zzW|zzX|zzY|zzZ|zza|zzb|zzc|zzd|zze|zzf|zzg|zzh|zzi|zzj|zzk|zzl|zzm|zzn|zzo|zzp|zzq|zzr|zzs|zzt|zzu|zzv|zzw|zzx|zzy|zzz|zyA|zyB|zyC|zyD|zyE|zyF|zyG|zyH|zyI|zyJ|zyK|zyL|zyM|zyN|zyO|zyP|zyQ|zyR|zyS|zyT|zyU|zyV|zyW|zyX|zyY|zyZ|zya|zyb|zyc|zyd|zye|zyf|zyg|zyh|zyi|zyj|zyk|zyl|zym|zyn|zyo|zyp|zyq|zyr|zys|zyt|zyu|zyv|zyw|zyx|zyy|zyz|zxA|zxB|zxC|zxD|zxE|zxF|zxG|zxH|zxI|zxJ|zxK|zxL|zxM|zxN|zxO|zxP|zxQ|zxR|zxS|zxT|zxU|zxV|zxW|zxX|zxY|zxZ|zxa|zxb|zxc|zxd|zxe|zxf|zxg|zxh|zxi|zxj|zxk|zxl|zxm|zxn|zxo|zxp => k_is)
    (case zxq => rfl)
    (case zxr => k_is)
    (case zxs => rfl)
    (case zxt|zxu|zxv => k_is)
    (case zxw|zxx|zxy|zxz => rfl)
    (case zwA => k_is)
    (case zwB => rfl)
    (case zwC|zwD => k_is)
    (case zwE|zwF|zwG|zwH|zwI|zwJ|zwK|zwL|zwM|zwN|zwO|zwP => rfl)
    (case zwQ|zwR => k_is)
    (case zwS => (intro od; rfl))
    (case zwT|zwU|zwV => k_is)
    (case zwW|zwX|zwY|zwZ => rfl)
    (case zwa => k_is)
    (case zwb => rfl)
    (case zwc|zwd => k_is)
    (case zwe|zwf|zwg|zwh|zwi|zwj|zwk|zwl|zwm|zwn|zwo|zwp => rfl)
    (case zwq|zwr => k_is)
    (case zws => (intro od; rfl))
    (case zwt|zwu => k_is)
    (case zwv => decide)
end
