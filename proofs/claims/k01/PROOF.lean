import PyProof.Rows.All
import Wide.All
import OpenK.AllK
import Wide.FinOn
import PyProof.EqAt
import PyProof.EqKinds
import PyProof.TupleCall
import Lean
import PyProof.NeKinds
import PyProof.Rows.RuleDivmod
import PyProof.Rows.FactsN_divmod
import PyProof.DictItems
import KE.KPairComp
import PyProof.Draws
import PySem.Challenge.RW_barfloors_k01_floors_and_bars
theorem AA:type_of% @PySem.wpAny_bind:=@PySem.wpAny_bind
theorem AB:type_of% @PySem.wpAny_pure:=@PySem.wpAny_pure
theorem AC:type_of% @PySem.Heap.get?_push_of_some:=@PySem.Heap.get?_push_of_some
theorem AD:type_of% @List.mem_cons:=@List.mem_cons
theorem AE:type_of% @List.mem_cons_of_mem:=@List.mem_cons_of_mem
theorem AF:type_of% @if_pos:=@if_pos
theorem AG:type_of% @beq_eq_false_iff_ne:=@beq_eq_false_iff_ne
theorem AH:type_of% @List.mem_cons_self:=@List.mem_cons_self
theorem AI:type_of% @List.length_map:=@List.length_map
theorem AJ:type_of% @if_neg:=@if_neg
theorem AK:type_of% @PySem.Heap.lt_size:=@PySem.Heap.lt_size
theorem AL:type_of% @List.getElem?_eq_getElem:=@List.getElem?_eq_getElem
theorem AM:type_of% @Nat.le_refl:=@Nat.le_refl
theorem AN:type_of% @Array.getD_eq_getD_getElem?:=@Array.getD_eq_getD_getElem?
theorem AO:type_of% @List.size_toArray:=@List.size_toArray
theorem AQ:type_of% @List.getElem?_eq_some_iff:=@List.getElem?_eq_some_iff
theorem AR:type_of% @List.not_mem_nil:=@List.not_mem_nil
theorem AS:type_of% @Array.getElem?_eq_getElem:=@Array.getElem?_eq_getElem
theorem AT:type_of% @PySem.Heap.get?_push_size:=@PySem.Heap.get?_push_size
theorem AU:type_of% @List.length_cons:=@List.length_cons
theorem AV:type_of% @Nat.ne_of_lt:=@Nat.ne_of_lt
theorem AW:type_of% @Array.length_toList:=@Array.length_toList
theorem AX:type_of% @decide_eq_false:=@decide_eq_false
theorem AY:type_of% @PySem.W.mg_of:=@PySem.W.mg_of
theorem AZ:type_of% @List.length_append:=@List.length_append
theorem Aa:type_of% @PySem.Heap.get?_update_other:=@PySem.Heap.get?_update_other
theorem Ab:type_of% @Bool.and_eq_true:=@Bool.and_eq_true
theorem Ac:type_of% @Nat.le_trans:=@Nat.le_trans
theorem Ae:type_of% @PySem.wpAny_holding:=@PySem.wpAny_holding
theorem Af:type_of% @decide_eq_true:=@decide_eq_true
theorem Ag:type_of% @List.mem_map:=@List.mem_map
theorem Ah:type_of% @PySem.wpAny_of_eq:=@PySem.wpAny_of_eq
theorem Ai:type_of% @Option.some.inj:=@Option.some.inj
theorem Aj:type_of% @beq_self_eq_true:=@beq_self_eq_true
theorem Ak:type_of% @List.getElem?_append_left:=@List.getElem?_append_left
theorem Al:type_of% @List.getD_eq_getElem?_getD:=@List.getD_eq_getElem?_getD
theorem Am:type_of% @PySem.wpAny_field:=@PySem.wpAny_field
theorem An:type_of% @List.map_cons:=@List.map_cons
theorem Ao:type_of% @Nat.lt_of_lt_of_le:=@Nat.lt_of_lt_of_le
theorem Ap:type_of% @List.lookup_cons:=@List.lookup_cons
theorem Aq:type_of% @List.length_singleton:=@List.length_singleton
theorem Ar:type_of% @List.mem_of_getElem?:=@List.mem_of_getElem?
theorem As:type_of% @PySem.Heap.get?_update_self:=@PySem.Heap.get?_update_self
theorem At:type_of% @List.mem_singleton:=@List.mem_singleton
theorem Au:type_of% @List.all_eq_true:=@List.all_eq_true
theorem Av:type_of% @PySem.W.mg_none_of:=@PySem.W.mg_none_of
theorem Aw:type_of% @List.getElem?_append_right:=@List.getElem?_append_right
theorem Ax:type_of% @List.mem_append:=@List.mem_append
theorem Ay:type_of% @PySem.wpAny_callSpecial?_slot:=@PySem.wpAny_callSpecial?_slot
theorem Az:type_of% @PySem.wpAny_newObj_type:=@PySem.wpAny_newObj_type
theorem A0:type_of% @Array.getElem?_toList:=@Array.getElem?_toList
theorem A1:type_of% @List.map_map:=@List.map_map
theorem A2:type_of% @PySem.wpAny_call_entry:=@PySem.wpAny_call_entry
theorem A3:type_of% @PySem.Heap.size_push:=@PySem.Heap.size_push
theorem A4:type_of% @List.append_assoc:=@List.append_assoc
theorem A5:type_of% @PySem.wpAny_setState_of:=@PySem.wpAny_setState_of
theorem A6:type_of% @Bool.false_eq_true:=@Bool.false_eq_true
theorem A7:type_of% @List.mem_append_right:=@List.mem_append_right
theorem A8:type_of% @List.getElem?_set_self:=@List.getElem?_set_self
theorem A9:type_of% @PySem.Obj.data_mapFields:=@PySem.Obj.data_mapFields
theorem BA:type_of% @List.append_nil:=@List.append_nil
theorem BB:type_of% @Nat.lt_succ_of_lt:=@Nat.lt_succ_of_lt
theorem BC:type_of% @or_false:=@or_false
theorem BD:type_of% @List.nodup_cons:=@List.nodup_cons
theorem BE:type_of% @PySem.wpAny_isInstance:=@PySem.wpAny_isInstance
theorem BF:type_of% @List.filterMap_cons:=@List.filterMap_cons
theorem BG:type_of% @List.getElem?_map:=@List.getElem?_map
theorem BH:type_of% @PyProof.Rows.slot_tuple_getitem:=@PyProof.Rows.slot_tuple_getitem
theorem BI:type_of% @List.mem_range:=@List.mem_range
theorem BJ:type_of% @List.getElem?_set_ne:=@List.getElem?_set_ne
theorem BK:type_of% @beq_iff_eq:=@beq_iff_eq
theorem BL:type_of% @PySem.wpAny_setField:=@PySem.wpAny_setField
theorem BM:type_of% @PySem.wpAny_seqItems:=@PySem.wpAny_seqItems
theorem BN:type_of% @Nat.not_lt_zero:=@Nat.not_lt_zero
theorem BO:type_of% @Bool.false_ne_true:=@Bool.false_ne_true
theorem BP:type_of% @List.zip_cons_cons:=@List.zip_cons_cons
theorem BQ:type_of% @List.pairwise_cons:=@List.pairwise_cons
theorem BR:type_of% @decide_eq_true_iff:=@decide_eq_true_iff
theorem BS:type_of% @List.getElem?_of_mem:=@List.getElem?_of_mem
theorem BT:type_of% @PySem.F.slot_tuple_iterator_next:=@PySem.F.slot_tuple_iterator_next
theorem BU:type_of% @Array.getElem?_eq_some_iff:=@Array.getElem?_eq_some_iff
theorem BV:type_of% @Nat.zero_le:=@Nat.zero_le
theorem BW:type_of% @Int.toNat_natCast:=@Int.toNat_natCast
theorem BX:type_of% @PySem.wpAny_loadPart_at:=@PySem.wpAny_loadPart_at
theorem BY:type_of% @PySem.wpAny_Call_Name_kw:=@PySem.wpAny_Call_Name_kw
theorem BZ:type_of% @PySem.wpAny_typeOf:=@PySem.wpAny_typeOf
theorem Ba:type_of% @Nat.lt_irrefl:=@Nat.lt_irrefl
theorem Bb:type_of% @PySem.wpAny_mono:=@PySem.wpAny_mono
theorem Bc:type_of% @PySem.codeAny_call_builtin:=@PySem.codeAny_call_builtin
theorem Bd:type_of% @PySem.codeAny_builtin:=@PySem.codeAny_builtin
theorem Be:type_of% @PyProof.Rows.callWith_type1:=@PyProof.Rows.callWith_type1
theorem Bf:type_of% @PyProof.Rows.KeyOrd.kle_refl:=@PyProof.Rows.KeyOrd.kle_refl
theorem Bg:type_of% @PySem.mem_of_lookup:=@PySem.mem_of_lookup
theorem Bh:type_of% @PySem.W.looks_mroIn:=@PySem.W.looks_mroIn
theorem Bi:type_of% @PySem.sizeLine_eq:=@PySem.sizeLine_eq
theorem Bj:type_of% @PySem.wpAny_attempt:=@PySem.wpAny_attempt
theorem Bk:type_of% @PySem.wpAny_call:=@PySem.wpAny_call
theorem Bl:type_of% @List.length_take:=@List.length_take
theorem Bm:type_of% @if_false:=@if_false
theorem Bn:type_of% @PySem.Obj.isFreed_of_fields:=@PySem.Obj.isFreed_of_fields
theorem Bo:type_of% @List.getElem?_eq_none:=@List.getElem?_eq_none
theorem Bp:type_of% @PySem.Around.under_plainId:=@PySem.Around.under_plainId
theorem Bq:type_of% @PySem.wpAny_truthy_bool:=@PySem.wpAny_truthy_bool
theorem Br:type_of% @List.pairwise_map:=@List.pairwise_map
theorem Bs:type_of% @List.getElem?_replicate:=@List.getElem?_replicate
theorem Bt:type_of% @Bool.and_false:=@Bool.and_false
theorem Bu:type_of% @Nat.le_add_right:=@Nat.le_add_right
theorem Bv:type_of% @PySem.Heap.size_update:=@PySem.Heap.size_update
theorem Bw:type_of% @List.mem_filterMap:=@List.mem_filterMap
theorem B1:type_of% @PySem.wpAny_setField_rec:=@PySem.wpAny_setField_rec
theorem B2:type_of% @beq_false_of_ne:=@beq_false_of_ne
theorem B3:type_of% @List.length_nil:=@List.length_nil
theorem B4:type_of% @PySem.Calls.Name_function_global:=@PySem.Calls.Name_function_global
theorem B5:type_of% @congrArg:=@congrArg
theorem B6:type_of% @PySem.wpAny_standAt:=@PySem.wpAny_standAt
theorem B7:type_of% @PySem.wpAny_rule:=@PySem.wpAny_rule
theorem B8:type_of% @PySem.W.looks_findIn:=@PySem.W.looks_findIn
theorem B9:type_of% @List.take_succ_eq_append_getElem:=@List.take_succ_eq_append_getElem
theorem CA:type_of% @PySem.wpAny_askSetting:=@PySem.wpAny_askSetting
theorem CB:type_of% @List.getElem_mem:=@List.getElem_mem
theorem CC:type_of% @List.map_congr_left:=@List.map_congr_left
theorem CD:type_of% @Nat.lt_of_le_of_lt:=@Nat.lt_of_le_of_lt
theorem CF:type_of% @List.map_append:=@List.map_append
theorem CG:type_of% @Nat.le_succ:=@Nat.le_succ
theorem CH:type_of% @List.take_of_length_le:=@List.take_of_length_le
theorem CI:type_of% @PySem.Obj.cls_mapFields:=@PySem.Obj.cls_mapFields
theorem CJ:type_of% @PySem.wpAny_pyIter_list:=@PySem.wpAny_pyIter_list
theorem CK:type_of% @Nat.le_of_lt_succ:=@Nat.le_of_lt_succ
theorem CL:type_of% @PyProof.Rows.KeyOrd.kle_of_klt:=@PyProof.Rows.KeyOrd.kle_of_klt
theorem CM:type_of% @Nat.ne_of_gt:=@Nat.ne_of_gt
theorem CN:type_of% @List.set_append_right:=@List.set_append_right
theorem CP:type_of% @List.mem_append_left:=@List.mem_append_left
theorem CQ:type_of% @Array.mem_toList_iff:=@Array.mem_toList_iff
theorem CS:type_of% @List.length_drop:=@List.length_drop
theorem CT:type_of% @PySem.F.excBase_ValueError:=@PySem.F.excBase_ValueError
theorem CU:type_of% @List.mem_of_mem_drop:=@List.mem_of_mem_drop
theorem CV:type_of% @List.mem_of_mem_take:=@List.mem_of_mem_take
theorem CW:type_of% @PyProof.Rows.KeyOrd.kle_trans:=@PyProof.Rows.KeyOrd.kle_trans
theorem CY:type_of% @if_true:=@if_true
theorem CZ:type_of% @Prod.mk.inj:=@Prod.mk.inj
theorem Ca:type_of% @PySem.Heap.SameBut.update:=@PySem.Heap.SameBut.update
theorem Cb:type_of% @List.forIn_cons:=@List.forIn_cons
theorem Cc:type_of% @PySem.wpAny_specialOf:=@PySem.wpAny_specialOf
theorem Cd:type_of% @List.foldl_cons:=@List.foldl_cons
theorem Ce:type_of% @Nat.le_of_lt:=@Nat.le_of_lt
theorem Cf:type_of% @PySem.Calls.spliced_cons:=@PySem.Calls.spliced_cons
theorem Cg:type_of% @PySem.Code.quiet_builtin:=@PySem.Code.quiet_builtin
theorem Ch:type_of% @PySem.isSubtype_stop:=@PySem.isSubtype_stop
theorem Ci:type_of% @Bool.false_and:=@Bool.false_and
theorem Cj:type_of% @PySem.wpAny_newList:=@PySem.wpAny_newList
theorem Ck:type_of% @Bool.and_true:=@Bool.and_true
theorem Cm:type_of% @Bool.true_and:=@Bool.true_and
set_option Elab.async false
set_option linter.all false
set_option maxRecDepth 100000
set_option maxHeartbeats 0
section
namespace EX
open PySem PySem.Spec PyProof.Rows
theorem Jj:entryFor table "proto.unchain" = some Builtin.«proto.unchain» := entryFor_of_fast (by kernel_rfl)
def Hnd (A:Around) (h:Heap):Prop := ∀ v,A.handled=some v -> ∃ ea oe vs,v=Value.ref ea∧h.get? ea=some oe∧oe.data = .fields vs∧vs[2]? = some .none
section
variable {prog:Program} {w:World} {A:Around} {E:Value->Shared->Prop} {s:Shared}
theorem qAw {e v:Value} {ea:Addr} {oe:Obj} {vs:Array Value} {Q:Value->Shared->Prop} (ho:s.heap.get? ea=some oe) (hd:oe.data = .fields vs) (h2:vs[2]? = some .none) (hq:Q .none s) :
  wpAny (model prog w) A (runValue (.builtin "proto.unchain" ⟨[e,.ref ea,v,.bool false],[]⟩)) Q E s:=by
 refine wpAny_runValue (Bd Jj ?_);unfold Builtin.«proto.unchain»;dsimp only;refine AA (Am ho hd h2 ?_);rw [AF (show (Value.none==Value.none)=true by rfl)]
 refine AA (AB (AB ?_));exact hq
theorem qBr {α:Type} {e:Addr} {oe:Obj} {vs:Array Value} {Q:α->Shared->Prop} (hn:Hnd A s.heap) (he:s.heap.get? e=some oe) (hd:oe.data = .fields vs) (hsz:2 < vs.size) (hne:∀ ea,A.handled=some (.ref ea)->ea≠e)
  (h:∀ h' o',Heap.SameBut e s.heap h'->h'.get? e=some o'->o'.cls=oe.cls->E (.ref e) { s with heap:=h' }):wpAny (model prog w) A (raiseNew (.ref e):Sem α) Q E s:=by
 unfold raiseNew;refine AA (wpAny_handled ?_);cases hh:A.handled with
 |none=>exact AA (AB (wpAny_throw (h s.heap oe (.refl ..) he rfl)))
 |some v =>
  obtain ⟨ea,o,ws,rfl,ho,hdo,h2⟩:=hn v hh;have hne':=hne ea hh;have hb:(Value.ref ea != Value.ref e)=true:=by rw [bne_iff_ne];intro z;cases z;exact hne' rfl
  dsimp only;rw [AF hb];refine AA (Ae (qAw ho hdo h2 ?_));refine AA (BL (x:=Value.ref ea) he hd hsz (wpAny_throw ?_));exact h _ _ (Ca ..) (As _ he (Bn (A9 hd _))) (CI ..)
theorem zT {α:Type} {Q:α->Shared->Prop} (hn:Hnd A s.heap) (h:∀ h' e,(∀ b o,s.heap.get? b=some o->h'.get? b=some o)->(∃ o',h'.get? e=some o'∧o'.cls = .type "StopIteration")->E (.ref e) { s with heap:=h' }) :
  wpAny (model prog w) A (newExc (.type "StopIteration") [] >>= fun e=>(raiseNew e:Sem α)) Q E s:=by
 refine AA ?_;unfold newExc newTuple;refine AA (Az ?_ (by size_fits))
 refine AA (m:=firstArgMember _ _) (Ah (a:=Value.none) (by first |rfl |(simp only [firstArgMember];rfl)) ?_)
 refine Az ?_ (by size_fits)
 have up:∀ {b o},s.heap.get? b=some o->((s.heap.push { cls := .type "tuple",data := .seq ([]:List Value).toArray }).push { cls := .type "StopIteration",data := .fields (#[.ref s.heap.objs.size,.none,.none,.none,.bool false,.none]++ownMembersOf (.type "StopIteration") []) }).get? b=some o:=fun q=>AC _ (AC _ q);refine qBr (oe:={ cls := .type "StopIteration",data := .fields (#[.ref s.heap.objs.size,.none,.none,.none,.bool false,.none]++ownMembersOf (.type "StopIteration") []) }) ?_ (AT _ rfl) rfl (by simp [ownMembersOf]) (fun ea hea => ?_) fun h' o' sb ho' hc=>h h' _ (fun b o q => ?_) ⟨o',ho',hc⟩
 ·intro v hv;obtain ⟨ea,oe,vs,e1,e2,e3⟩:=hn v hv;exact ⟨ea,oe,vs,e1,up e2,e3⟩
 ·obtain ⟨ea',oe,vs,e1,e2,e3⟩:=hn _ hea;cases e1;exact AV (Nat.lt_trans (AK e2) (by simp))
 ·exact (sb.2 b (AV (Nat.lt_trans (AK q) (by simp)))).trans (up q)
theorem list_end {it l:Addr} {i:Nat} {items} {Q:Option Value->Shared->Prop} (hn:Hnd A s.heap) (z1:s.heap.IsListIter it l i) (z2:s.heap.IsList l items) (z3:items[i]? = none) (z4:∀ v,A.handled=some v->v ≠ .ref it)
  (hQ:∀ h',(∀ b o,b≠it->s.heap.get? b=some o->h'.get? b=some o)->Q none { s with heap:=h' }):wpAny (model prog w) A (pyNext (.ref it)) Q E s:=by
 obtain ⟨ob,g1,g2,g3⟩:=id z1;obtain ⟨ol,g4,_,nl,g5⟩:=z2;unfold pyNext;refine AA (Bj (Ay (name:=Str.ofString "__next__") z1.typeIs slot_listiter_next (A2 slot_listiter_next z1.typeIs entry_listiter_next ?_ (args_listiter_next _))));change wpAny _ A.in1 (field (Value.ref it) 0 >>= _) _ _ s;refine AA (Am g1 g3 (x:=Value.ref l) rfl ?_);change wpAny _ A.in1 (if (Value.ref l==Value.none)=true then _ else _) _ _ s;rw [AJ (fun z:(Value.ref l==Value.none)=true=>BO z)];change wpAny _ A.in1 (field (Value.ref it) 1 >>= _) _ _ s;refine AA (Am g1 g3 (x:=Value.int i 0) rfl ?_);change wpAny _ A.in1 (seqItems? (Value.ref l) >>= _) _ _ s;refine AA (BM g4 g5 ?_);simp only [BW,z3];refine AA (B7 (AA (BL g1 g3 (by simp) ?_)))
 refine zT (A:=A.in1) ?_ fun h' e k ht => ?_
 ·intro v hv;obtain ⟨ea,oe,vs,e1,e2,e3⟩:=hn v hv;refine ⟨ea,oe,vs,e1,?_,e3⟩;have hne:ea≠it:=fun z=>z4 v hv (by rw [e1,z])
  exact (Aa _ _ (Ne.symm hne)).trans e2
 ·refine AA (BE (T := "StopIteration") (b:=true) ht Ch ?_);exact AB (hQ _ fun b o' hb q=>k b o' ((Aa _ _ (Ne.symm hb)).trans q))
theorem tuple_end {it l:Addr} {i:Nat} {items} {Q:Option Value->Shared->Prop} (hn:Hnd A s.heap) (z1:s.heap.IsTupleIter it l i) (z2:s.heap.IsTuple l items) (z3:items[i]? = none) (z4:∀ v,A.handled=some v->v ≠ .ref it)
  (hQ:∀ h',(∀ b o,b≠it->s.heap.get? b=some o->h'.get? b=some o)->Q none { s with heap:=h' }):wpAny (model prog w) A (pyNext (.ref it)) Q E s:=by
 obtain ⟨ob,g1,g2,g3⟩:=id z1;obtain ⟨ol,g4,_,nl,g5⟩:=z2;unfold pyNext;refine AA (Bj (Ay (name:=Str.ofString "__next__") z1.typeIs BT (A2 BT z1.typeIs F.entry_tuple_iterator_next ?_ (F.args_tuple_iterator_next_1 _))));change wpAny _ A.in1 (field (Value.ref it) 0 >>= _) _ _ s;refine AA (Am g1 g3 (x:=Value.ref l) rfl ?_);change wpAny _ A.in1 (if (Value.ref l==Value.none)=true then _ else _) _ _ s;rw [AJ (fun z:(Value.ref l==Value.none)=true=>BO z)];change wpAny _ A.in1 (field (Value.ref it) 1 >>= _) _ _ s;refine AA (Am g1 g3 (x:=Value.int i 0) rfl ?_);change wpAny _ A.in1 (seqItems? (Value.ref l) >>= _) _ _ s;refine AA (BM g4 g5 ?_);simp only [BW,z3];refine AA (B7 (AA (BL g1 g3 (by simp) ?_)))
 refine zT (A:=A.in1) ?_ fun h' e k ht => ?_
 ·intro v hv;obtain ⟨ea,oe,vs,e1,e2,e3⟩:=hn v hv;refine ⟨ea,oe,vs,e1,?_,e3⟩;have hne:ea≠it:=fun z=>z4 v hv (by rw [e1,z])
  exact (Aa _ _ (Ne.symm hne)).trans e2
 ·refine AA (BE (T := "StopIteration") (b:=true) ht Ch ?_);exact AB (hQ _ fun b o' hb q=>k b o' ((Aa _ _ (Ne.symm hb)).trans q))
theorem range_end {it:Addr} {x left step:Int} {Q:Option Value->Shared->Prop} (hn:Hnd A s.heap) (z1:IsRangeIter s.heap it x left step) (z2:left≤0)
  (hQ:∀ h',(∀ b o,s.heap.get? b=some o->h'.get? b=some o)->Q none { s with heap:=h' }):wpAny (model prog w) A (pyNext (.ref it)) Q E s:=by have z0:s.TypeIs (.ref it) "range_iterator" := ⟨_,z1,rfl⟩;unfold pyNext;refine AA (Bj (Ay (name:=Str.ofString "__next__") z0 F.slot_range_iterator_next (A2 F.slot_range_iterator_next z0 F.entry_range_iterator_next ?_ (F.args_range_iterator_next_1 _))));change wpAny _ A.in1 (field (Value.ref it) 0 >>= _) _ _ s;refine AA (Am z1 rfl (x:=rawInt x) rfl ?_);change wpAny _ A.in1 (field (Value.ref it) 1 >>= _) _ _ s;refine AA (Am z1 rfl (x:=rawInt left) rfl ?_);change wpAny _ A.in1 (field (Value.ref it) 2 >>= _) _ _ s;refine AA (Am z1 rfl (x:=rawInt step) rfl ?_);change wpAny _ A.in1 (if left≤0 then _ else _) _ _ s;rw [AF z2];refine AA (B7 (AA ?_));refine zT (A:=A.in1) hn fun h' e k ht => ?_;refine AA (BE (T := "StopIteration") (b:=true) ht Ch ?_);exact AB (hQ _ k)
end
end EX
end
section
namespace L2
open PySem PySem.Spec PyProof.Rows
abbrev Key:=Sum Int Str
def qHo:Key->Value->Bool
 | .inl k,v=>Value.isInt k v
 | .inr x,v=>Value.isStrOf x v
def qK9 (w:World):Key->Int
 | .inl k=>hashInt k
 | .inr x=>hashStr w x
theorem Qr:∀ {k:Key} {v:Value},qHo k v=true->(∃ i t,k=Sum.inl i∧v=Value.int i t)∨(∃ x t,k=Sum.inr x∧v=Value.str x t)
 | .inl i,v,h=>by obtain ⟨t,e⟩:=Value.isInt_shape (k:=i) (v:=v) h;exact .inl ⟨i,t,rfl,e⟩
 | .inr x,v,h=>by obtain ⟨t,e⟩:=Value.isStrOf_shape (x:=x) (v:=v) h;exact .inr ⟨x,t,rfl,e⟩
theorem qJG (a b:Int):decide ((Sum.inl a:Key)=Sum.inl b)=(a==b):=by
 by_cases e:a=b
 ·subst e;simp
 ·have h:¬ (Sum.inl a:Key)=Sum.inl b:=fun q=>e (Sum.inl.inj q);rw [AX h];exact (AG.mpr e).symm
theorem qIl (a b:Str):decide ((Sum.inr a:Key)=Sum.inr b)=decide (a=b):=by
 by_cases e:a=b
 ·subst e;simp
 ·have h:¬ (Sum.inr a:Key)=Sum.inr b:=fun q=>e (Sum.inr.inj q);rw [AX h,AX e]
theorem qI1 (a:Int) (b:Str):decide ((Sum.inl a:Key)=Sum.inr b)=false:=AX (fun q=>nomatch q)
theorem qJX (a:Str) (b:Int):decide ((Sum.inr a:Key)=Sum.inl b)=false:=AX (fun q=>nomatch q)
def JR (prog:Program) (w:World):PySem.KeyKind prog w Key where
 is:=qHo
 hash:=qK9 w
 inj:=fun v a b ha hb=>by
  rcases Qr ha with ⟨i,t,rfl,rfl⟩ |⟨x,t,rfl,rfl⟩
  ·rcases Qr hb with ⟨j,u,rfl,e⟩ |⟨y,u,rfl,e⟩
   ·injection e with e1 _;rw [e1]
   ·exact nomatch e
  ·rcases Qr hb with ⟨j,u,rfl,e⟩ |⟨y,u,rfl,e⟩
   ·exact nomatch e
   ·injection e with e1 _;rw [e1]
 byValue:=fun k v h=>by rcases Qr h with ⟨i,t,rfl,rfl⟩ |⟨x,t,rfl,rfl⟩ <;> rfl
 pyHash:=fun hv h=>by
  rcases Qr hv with ⟨i,t,rfl,rfl⟩ |⟨x,t,rfl,rfl⟩
  ·exact wpAny_pyHash_int h
  ·exact wpAny_pyHash_str h
 eqBool:=fun hu hv h=>by
  rcases Qr hu with ⟨i,t,rfl,rfl⟩ |⟨x,t,rfl,rfl⟩
  ·rcases Qr hv with ⟨j,u,rfl,rfl⟩ |⟨y,u,rfl,rfl⟩
   ·rw [qJG] at h;exact wpAny_eqBool_int h
   ·rw [qI1] at h;exact SeqAt.EqAt.int_str i t y u _ _ _ _ h
  ·rcases Qr hv with ⟨j,u,rfl,rfl⟩ |⟨y,u,rfl,rfl⟩
   ·rw [qJX] at h;exact SeqAt.EqAt.str_int x t j u _ _ _ _ h
   ·rw [qIl] at h;exact wpAny_eqBool_str h
 «strs» := fun k x t v h=>by
  rcases Qr h with ⟨i,u,rfl,e⟩ |⟨y,u,rfl,e⟩
  ·exact nomatch e
  ·injection e with e1 _;subst e1;cases v <;> rfl
end L2
namespace L2
open PySem PySem.Spec PyProof.Rows
inductive V where
 |non |bl (b:Bool) |int (i:Int) |str (x:Str) |byt (b:Array UInt8) |flt (b:UInt64) |ref (a:Addr) |ty (n:String)
 deriving DecidableEq
def RelV:V->Value->Prop
 | .non,u=>u=Value.none
 | .bl b,u=>u=Value.bool b
 | .int i,u => ∃ t,u=Value.int i t
 | .str x,u => ∃ t,u=Value.str x t
 | .byt b,u => ∃ t,u=Value.bytes b t
 | .flt b,u => ∃ t,u=Value.float b t
 | .ref a,u=>u=Value.ref a
 | .ty n,u=>u=Value.type n
abbrev Vals:List V->List Value->Prop:=Paired RelV
theorem Vals.length {xs:List V} {us:List Value} (r:Vals xs us):xs.length=us.length:=Paired.length r
theorem Vals.get:∀ {xs:List V} {us:List Value} {i:Nat} {x:V},Vals xs us->xs[i]? = some x -> ∃ u,us[i]? = some u∧RelV x u
 |_,_,_,_,.nil,e=>by simp at e
 |_,_,0,_,.cons r _,e=>by simp at e;subst e;exact ⟨_,rfl,r⟩
 |_,_,i + 1,x,.cons _ t,e=>by
  obtain ⟨u,h1,h2⟩:=Vals.get (i:=i) (x:=x) t (by simpa using e)
  exact ⟨u,by simpa using h1,h2⟩
theorem Vals.set {x:V} {u:Value} (r:RelV x u):∀ {xs:List V} {us:List Value} (i:Nat),Vals xs us->Vals (xs.set i x) (us.set i u)
 |_,_,_,.nil => .nil
 |_,_,0,.cons _ t => .cons r t
 |_,_,i + 1,.cons q t => .cons q (Vals.set r i t)
theorem Vals.append:∀ {xs ys:List V} {us ws:List Value},Vals xs us->Vals ys ws->Vals (xs++ys) (us++ws)
 |_,_,_,_,.nil,s=>s
 |_,_,_,_,.cons r t,s => .cons r (Vals.append t s)
theorem Vals.take:∀ {xs:List V} {us:List Value} (n:Nat),Vals xs us->Vals (xs.take n) (us.take n)
 |_,_,0,_ => .nil
 |_,_,_ + 1,.nil => .nil
 |_,_,n + 1,.cons r t => .cons r (Vals.take n t)
theorem Vals.drop:∀ {xs:List V} {us:List Value} (n:Nat),Vals xs us->Vals (xs.drop n) (us.drop n)
 |_,_,0,r=>r
 |_,_,_ + 1,.nil => .nil
 |_,_,n + 1,.cons _ t=>Vals.drop n t
def RelO:Option V->Option Value->Prop
 |some v,some u=>RelV v u
 |none,none=>True
 |_,_=>False
def KV {κ:Type}:List (κ×V)->List (κ×Value)->Prop:=Paired fun (p:κ×V) (q:κ×Value)=>p.1=q.1∧RelV p.2 q.2
def kV:Key->V
 | .inl i => .int i
 | .inr x => .str x
inductive HO where
 /-- a list -/
 |lst (xs:List V)
 /-- a tuple (never changes) -/
 |tup (xs:List V)
 /-- a dict whose keys are ints and texts;one whose keys are tuples of ints and texts (the empty one is both) -/
 |dK (kvs:List (Key×V)) |dT (kvs:List (List Key×V))
 /-- a set of ints: its members,its size -/
 |set (S:Int->Bool) (n:Nat)
 /-- an instance of the class at C,its dict at dx,its attributes -/
 |ins (C dx:Addr) (fs:List (Str×V))
 /-- the dict of the instance at x -/
 |own (x:Addr)
 /-- the dict of an exception -/
 |xd (fs:List (Str×V))
 /-- a bound method,f of x -/
 |met (f x:Addr)
 /-- a range object lo,lo + 1,.. below hi -/
 |rng (lo hi:Int)
 /-- a thing that is known to the object (the script;a dict while a loop walks it): read,never written while it is so -/
 |frz (o:Obj) (u:HO)
 /-- a code object's table -/
 |tbl (ps:Array Value)
 /-- any other thing,by what is true of its one object (a def of one's own: SetO a S n:=HO.ext fun h => ..) -/
 |ext (φ:Heap->Prop)
abbrev Hp:=Addr->Option HO
def upd (H:Hp) (a:Addr) (o:HO):Hp:=fun b=>if b=a then some o else H b
theorem qw {H:Hp} {a:Addr} {o:HO}:upd H a o a=some o:=by unfold upd;rw [AF rfl]
theorem qS {H:Hp} {a b:Addr} {o:HO} (h:b≠a):upd H a o b=H b:=by unfold upd;rw [AJ h]
theorem qT {H:Hp} {a b:Addr} {o:HO} (h:H a=some o) (h':H b=none):a≠b:=by intro e;subst e;rw [h] at h';cases h'
section
variable (P:Program) (w:World)
def ObjOk (H:Hp) (h:Heap) (a:Addr):HO->Prop
 | .lst xs=>xs.length≤sizeLine ∧ ∃ (its:List Value) (n:Nat),Vals xs its∧h.get? a=some { cls := .type "list",data := .seq its.toArray n }
 | .tup xs=>xs.length≤sizeLine ∧ ∃ its:List Value,Vals xs its∧IsTup h a its.toArray
 | .dK kvs=>kvs.length≤sizeLine∧(a==sysModules)=false ∧ ∃ vs,KV kvs vs∧h.DictOf (JR P w) a vs
 | .dT kvs=>kvs.length≤sizeLine∧(a==sysModules)=false ∧ ∃ xs:List (List Key×Addr×Value),
   Paired (fun (p:List Key×V) (q:List Key×Addr×Value)=>p.1=q.1∧H q.2.1=some (.tup (p.1.map kV))∧RelV p.2 q.2.2) kvs xs ∧
   ∃ o es ep,h.get? a=some o∧o.ExactDict∧o.data = .dict es ep∧es.toList=xs.map (entryOfKey (tupleKind (JR P w)))∧(xs.map (·.1)).Nodup
 | .set S n=>h.SetOf (intKind P w) a S n
 | .ins C dx fs=>H dx=some (.own a)∧fs.length≤1000∧dx≠a∧h.get? a=some (W.instObj C dx) ∧
   ∃ mA,h.Ns1 dx mA∧(∀ f,RelO (fs.lookup f) (mA f))∧PySem.Within mA (fs.map (·.1))
 | .own _ => ∃ o,h.get? a=some o
 | .xd fs => ∃ mA,h.Ns1 a mA ∧ ∀ f,RelO (fs.lookup f) (mA f)
 | .rng lo hi => ∃ t u v,h.get? a=some { cls := .type "range",data := .fields #[.int lo t,.int hi u,.int 1 v] }
 | .frz o u=>h.get? a=some o∧ObjOk H h a u
 | .tbl ps=>h.get? a=some { cls := .none,data := .fields ps }
 | .met f x=>h.get? a=some (W.methodObj (.ref f) (.ref x))
 | .ext φ=>φ h∧(∃ o,h.get? a=some o) ∧ ∀ h1 h2:Heap,φ h1->(∀ o,h1.get? a=some o->h2.get? a=some o)->φ h2
def HOk (H:Hp) (h:Heap):Prop := ∀ a o,H a=some o->ObjOk P w H h a o
end
section
variable {P:Program} {w:World} {H H':Hp} {h h':Heap} {a:Addr} {o:HO}
theorem ObjOk.lt (x:ObjOk P w H h a o):a < h.objs.size:=by
 cases o with
 |lst xs=>obtain ⟨_,_,_,_,e⟩:=x;exact AK e
 |tup xs=>obtain ⟨_,_,_,p⟩:=x;exact p.lt
 |dK kvs=>obtain ⟨_,_,_,_,o,_,_,e,_⟩:=x;exact AK e
 |dT kvs=>obtain ⟨_,_,_,_,o,_,_,e,_⟩:=x;exact AK e
 |set S n=>obtain ⟨o,_,_,_,e,_⟩:=x;exact AK e
 |ins C dx fs=>obtain ⟨_,_,_,e,_⟩:=x;exact AK e
 |own y=>obtain ⟨_,e⟩:=x;exact AK e
 |xd fs=>obtain ⟨_,⟨_,_,_,e,_⟩,_⟩:=x;exact AK e
 |rng lo hi=>obtain ⟨_,_,_,e⟩:=x;exact AK e
 |frz ob u=>obtain ⟨e,_⟩:=x;exact AK e
 |tbl ps=>exact AK (show h.get? a=some _ from x)
 |met f y=>exact AK (show h.get? a=some _ from x)
 |ext φ=>obtain ⟨_,⟨_,e⟩,_⟩:=x;exact AK e
theorem Paired.mapP {α β:Type} {F G:α->β->Prop}:∀ {l₁:List α} {l₂:List β},Paired F l₁ l₂->(∀ a b,F a b->G a b)->Paired G l₁ l₂
 |_,_,.nil,_ => .nil
 |_,_,.cons r t,f => .cons (f _ _ r) (Paired.mapP t f)
theorem ObjOk.stay (x:ObjOk P w H h a o) (k:∀ b u,(b=a∨H b=some (.own a))->h.get? b=some u->h'.get? b=some u)
  (ho:∀ b,H b=some (.own a)->H' b=some (.own a)) (ht:∀ b xs,H b=some (.tup xs)->H' b=some (.tup xs)):ObjOk P w H' h' a o:=by
 induction o with
 |lst xs=>obtain ⟨z,its,n,r,e⟩:=x;exact ⟨z,its,n,r,k _ _ (.inl rfl) e⟩
 |tup xs=>obtain ⟨z,its,r,ob,e,c⟩:=x;exact ⟨z,its,r,ob,k _ _ (.inl rfl) e,c⟩
 |dK kvs=>obtain ⟨z,y,vs,r,ob,es,ep,e,c⟩:=x;exact ⟨z,y,vs,r,ob,es,ep,k _ _ (.inl rfl) e,c⟩
 |dT kvs =>obtain ⟨z,y,xs,r,ob,es,ep,e,c⟩:=x;exact ⟨z,y,xs,Paired.mapP r fun p q z=>⟨z.1,ht _ _ z.2.1,z.2.2⟩,ob,es,ep,k _ _ (.inl rfl) e,c⟩
 |set S n=>obtain ⟨ob,es,ep,t,e,c⟩:=x;exact ⟨ob,es,ep,t,k _ _ (.inl rfl) e,c⟩
 |ins C dx fs =>obtain ⟨d,z,ne,e,mA,⟨od,es,ep,e2,c⟩,r⟩:=x;exact ⟨ho _ d,z,ne,k _ _ (.inl rfl) e,mA,⟨od,es,ep,k _ _ (.inr d) e2,c⟩,r⟩
 |own y=>obtain ⟨ob,e⟩:=x;exact ⟨ob,k _ _ (.inl rfl) e⟩
 |xd fs=>obtain ⟨mA,⟨od,es,ep,e,c⟩,r⟩:=x;exact ⟨mA,⟨od,es,ep,k _ _ (.inl rfl) e,c⟩,r⟩
 |rng lo hi=>obtain ⟨t,u,v,e⟩:=x;exact ⟨t,u,v,k _ _ (.inl rfl) e⟩
 |frz ob u ih=>obtain ⟨e,q⟩:=x;exact ⟨k _ _ (.inl rfl) e,ih q⟩
 |tbl ps =>have e:h.get? a=some { cls := .none,data := .fields ps }:=x;show h'.get? a=some { cls := .none,data := .fields ps };exact k a _ (.inl rfl) e
 |met f y =>have e:h.get? a=some (W.methodObj (.ref f) (.ref y)):=x;show h'.get? a=some (W.methodObj (.ref f) (.ref y));exact k a _ (.inl rfl) e
 |ext φ=>obtain ⟨p,⟨o,e⟩,st⟩:=x;exact ⟨st _ _ p fun o q=>k _ _ (.inl rfl) q,⟨o,k _ _ (.inl rfl) e⟩,st⟩
theorem HOk.lt (x:HOk P w H h) (e:H a=some o):a < h.objs.size:=(x a o e).lt
theorem HOk.fresh (x:HOk P w H h) (e:h.objs.size≤a):H a=none:=by
 cases q:H a with
 |none=>rfl
 |some u=>exact absurd (Ao (x.lt q) e) (Ba _)
theorem HOk.kept (x:HOk P w H h) (k:∀ b u,h.get? b=some u->h'.get? b=some u):HOk P w H h':=fun a o e =>
 (x a o e).stay (fun b u _ q=>k b u q) (fun _ q=>q) fun _ _ q=>q
theorem HOk.laid (x:HOk P w H h) (k:∀ b u,h.get? b=some u->h'.get? b=some u) (hp:h.objs.size≤a) (new:ObjOk P w (upd H a o) h' a o):HOk P w (upd H a o) h':=fun b u e=>by
 have hn:=x.fresh hp;by_cases hb:b=a
 ·subst hb;rw [qw] at e;cases e;exact new
 ·rw [qS hb] at e;exact (x b u e).stay (fun c v _ q=>k c v q) (fun c q=>by rw [qS (qT q hn)];exact q) fun c xs q=>by rw [qS (qT q hn)];exact q
end
def Rd (H:Hp) (a:Addr) (u:HO):Prop:=H a=some u ∨ ∃ o,H a=some (.frz o u)
theorem Rd.ok {P:Program} {w:World} {H:Hp} {h:Heap} {a:Addr} {u:HO} (r:Rd H a u) (x:HOk P w H h):ObjOk P w H h a u:=by
 rcases r with r |⟨o,r⟩
 ·exact x a u r
 ·obtain ⟨_,q⟩:=x a _ r;exact q
def Mut:Option HO->Prop
 |some (.lst _)=>True
 |some (.dK _)=>True
 |some (.dT _)=>True
 |some (.set _ _)=>True
 |some (.ins _ _ _)=>True
 |some (.ext _)=>True
 |_=>False
section
variable {P:Program} {w:World} {H:Hp} {h h':Heap} {x e:Addr} {o':HO}
theorem HOk.write (ok:HOk P w H h) (mu:Mut (H x)) (he:e=x∨H e=some (.own x)) (k:∀ b u,b≠e->h.get? b=some u->h'.get? b=some u) (heo:∃ u,h'.get? e=some u)
  (new:ObjOk P w (upd H x o') h' x o'):HOk P w (upd H x o') h':=fun b u q=>by
 have nown:∀ c y,H c=some (.own y)->c≠x:=fun c y r z=>by subst z;rw [r] at mu;exact mu
 have ntup:∀ c xs,H c=some (.tup xs)->c≠x:=fun c xs r z=>by subst z;rw [r] at mu;exact mu
 by_cases hb:b=x
 ·subst hb;rw [qw] at q;cases q;exact new
 ·rw [qS hb] at q;by_cases hbe:b=e
  ·have q':H b=some (.own x):=by
    rcases he with z |z
    ·exact absurd (hbe.trans z) hb
    ·rw [hbe];exact z
   rw [q] at q';cases q';obtain ⟨v,hv⟩:=heo;exact ⟨v,by rw [hbe];exact hv⟩
  ·refine (ok b u q).stay (fun c v hc r=>k c v ?_ r) (fun c r=>by rw [qS (nown c b r)];exact r) fun c xs r=>by rw [qS (ntup c xs r)];exact r
   rcases hc with rfl |hc
   ·exact hbe
   ·rintro rfl
    rcases he with z |z
    ·exact nown c b hc z
    ·rw [hc] at z;cases z;exact hb rfl
end
structure Un (fs ex:List Addr) (H H':Hp) (h h':Heap):Prop where
 keep:∀ b o,h.get? b=some o->H b=none->b ∉ fs->b ∉ ex->h'.get? b=some o
 slot:∀ b o,h.get? b=some o->H b=none->b∈fs->b ∉ ex -> ∃ sl,h'.get? b=some { o with slots:=sl }
 free:∀ b o,h.get? b=some o->H b=none->b ∉ ex->H' b=none
 there:∀ b o,h.get? b=some o->b ∉ ex -> ∃ o',h'.get? b=some o'
 tups:∀ b xs,H b=some (.tup xs)->H' b=some (.tup xs)
 frzs:∀ b o u,H b=some (.frz o u)->H' b=some (.frz o u)
 tbls:∀ b ps,H b=some (.tbl ps) -> ∃ more,H' b=some (.tbl (ps++more))
section
variable {fs fs' ex ex':List Addr} {H H1 H2:Hp} {h h1 h2 h':Heap} {a x e:Addr} {o:HO}
theorem Un.any (u:Un fs ex H H1 h h1) {b:Addr} {ob:Obj} (q:h.get? b=some ob) (n:H b=none) (hx:b ∉ ex):∃ sl,h1.get? b=some { ob with slots:=sl }:=by
 by_cases hb:b∈fs
 ·exact u.slot b ob q n hb hx
 ·exact ⟨ob.slots,u.keep b ob q n hb hx⟩
theorem Un.kept (k:∀ b u,h.get? b=some u->h'.get? b=some u):Un fs ex H H h h' :=
 ⟨fun b ob q _ _ _=>k b ob q,fun b ob q _ _ _=>⟨ob.slots,k b ob q⟩,fun _ _ _ n _=>n,fun b ob q _=>⟨ob,k b ob q⟩,fun _ _ q=>q,fun _ _ _ q=>q,fun _ ps q=>⟨#[],by rw [q];simp⟩⟩
theorem Un.refl:Un fs ex H H h h:=Un.kept fun _ _ q=>q
theorem Un.laid (k:∀ b u,h.get? b=some u->h'.get? b=some u) (hp:h.objs.size≤a) (hn:H a=none):Un fs ex H (upd H a o) h h' where
 keep:=fun b u q _ _ _=>k b u q
 slot:=fun b u q _ _ _=>⟨u.slots,k b u q⟩
 free:=fun b u q n _=>by rw [qS (AV (Ao (AK q) hp))];exact n
 there:=fun b u q _=>⟨u,k b u q⟩
 tups:=fun b xs q=>by rw [qS (qT q hn)];exact q
 frzs:=fun b u xs q=>by rw [qS (qT q hn)];exact q
 tbls:=fun b ps q=>⟨#[],by rw [qS (qT q hn),q];simp⟩
theorem Un.write (mu:Mut (H x)) (he:e=x∨H e=some (.own x)) (k:∀ b u,b≠e->h.get? b=some u->h'.get? b=some u) (heo:∃ u,h'.get? e=some u):Un fs ex H (upd H x o) h h':=by
 have hx:∀ b,H b=none->b≠x:=fun b n z=>by subst z;rw [n] at mu;exact mu
 have hb:∀ b,H b=none->b≠e:=fun b n z=>by
  subst z;rcases he with r |r
  ·exact hx b n r
  ·rw [n] at r;cases r
 have hm:∀ b u,H b=some u -> ¬ Mut (some u)->b≠x:=fun b u q nm z=>by subst z;rw [q] at mu;exact nm mu
 refine ⟨fun b u q n _ _=>k b u (hb b n) q,fun b u q n _ _=>⟨u.slots,k b u (hb b n) q⟩,fun b u q n _=>by rw [qS (hx b n)];exact n,fun b u q _ => ?_,
  fun b xs q=>by rw [qS (hm b _ q fun z=>z)];exact q,fun b u xs q=>by rw [qS (hm b _ q fun z=>z)];exact q,fun b ps q=>⟨#[],by rw [qS (hm b _ q fun z=>z),q];simp⟩⟩
 by_cases hbe:b=e
 ·subst hbe;exact heo
 ·exact ⟨u,k b u hbe q⟩
end
def trk (h:Heap) (H:Hp):List Addr:=(List.range h.objs.size).filter fun a=>(H a).isSome
def JK (h:Heap) (H:Hp):Heap:=W.hideAll h (trk h H)
theorem qDC (h:Heap) (H:Hp):(JK h H).objs.size=h.objs.size:=W.hideAll_size _ _
theorem qDq {h:Heap} {H:Hp} {b:Addr} {o:Obj} (e:h.get? b=some o) (n:H b=none):(JK h H).get? b=some o :=
 W.hideAll_get _ e fun hm=>by have q:(H b).isSome=true:=(List.mem_filter.mp hm).2;rw [n] at q;simp at q
theorem qGI {h:Heap} {H:Hp} {b:Addr} {o:Obj} (e:(JK h H).get? b=some o):h.get? b=some o∧H b=none:=by
 have e':h.get? b=some o:=W.of_hideAll (trk h H) e;refine ⟨e',?_⟩;cases q:H b with
 |none=>rfl
 |some x =>
  have hm:b∈trk h H:=List.mem_filter.mpr ⟨BI.mpr (AK e'),by simp [q]⟩
  have z:(JK h H).get? b=none:=W.hideAll_none (trk h H) hm;rw [z] at e;cases e
end L2
namespace L2
open PySem PySem.Spec PyProof.Rows
structure Mod (K:W.Frag) (mg:Str->Option Value) (base:Heap):Prop where
 kin:K.In base
 glob:base.Ns mainGlobals mg
 blt:∃ mb,base.Ns builtinsNs mb ∧ ∀ x:Str,x ≠ "__name__" -> mb x=bootBuiltins x
 nolimit:base.NoLimit
structure Cx where
 prog:Program
 w:World
 K:W.Frag
 mg:Str->Option Value
 base:Heap
 A:Around
 N:List Str
 s₀:Shared
 H₀:Hp
 env:Env
 outer:List Env
 stack:List Env
 ex:List Addr
 fn:Str->Bool
 calm:Bool
 pn:List (Addr×Obj)
 xe:Value->Shared->Prop
def frs (l:List Env):List Addr:=l.filterMap (·.frame)
abbrev Cx.fs (X:Cx):List Addr:=frs X.outer
def Vis (sc:Scope) (x:Str):Prop:=sc.names.lookup x=some .local∨sc.names.lookup x=some .cell∨sc.names.lookup x=some .free
def Loc (sc:Scope) (x:Str):Prop:=sc.names.lookup x=some .local∨sc.names.lookup x=some .cell
def qKH (env:Env) (h:Heap) (m:Str->Option Value) (x:Str) (u:Value):Prop :=
 (env.kindOf x=some .local∧m x=some u)∨((env.kindOf x=some .cell∨env.kindOf x=some .free) ∧ ∃ c,env.cells.lookup x=some c∧h.IsCell c (some u))
structure Cx.Ok (X:Cx):Prop where
 mod:Mod X.K X.mg X.base
 kind:X.env.scope.kind = .function
 glob:X.env.globals=mainGlobals
 blt:X.env.builtins=builtinsNs
 above:X.s₀.heap.objs.size≤X.env.locals
 inj:∀ x y c,X.env.cells.lookup x=some c->X.env.cells.lookup y=some c->x=y
 has:∀ x,(X.env.kindOf x=some .cell∨X.env.kindOf x=some .free) -> ∃ c,X.env.cells.lookup x=some c
 cab:∀ x c,X.fn x=true->X.env.cells.lookup x=some c->X.s₀.heap.objs.size≤c
 hd:X.calm=true->X.A.handled=none
 frames:X.A.frames=some X.stack
 stk:X.stack=X.outer∨(X.stack=X.env::X.outer∧X.env.frame=some X.env.locals)
 exf:∀ b∈X.ex,b≠X.env.locals ∧ ∀ x c,X.env.cells.lookup x=some c->c≠b
 bs:∀ b o,X.base.get? b=some o->X.s₀.heap.get? b=some o∧X.H₀ b=none
 bsz:X.base.objs.size≤X.s₀.heap.objs.size
 noex:∀ b o,X.base.get? b=some o->b ∉ X.ex
 exfs:∀ b∈X.ex,b ∉ X.fs
 funs:X.s₀.heap.FunFrames X.base X.outer
 frf:∀ b∈X.fs,X.H₀ b=none
def HndH (A:Around) (H:Hp):Prop := ∀ v,A.handled=some v -> ∃ ea oe u vs,v=Value.ref ea∧H ea=some (.frz oe u)∧oe.data = .fields vs∧vs[2]? = some .none
theorem HndH.none {A:Around} {H:Hp} (h:A.handled=none):HndH A H:=fun v e=>by rw [h] at e;cases e
structure Inv (X:Cx) (pins:List (Addr×Obj)) (σ:List (Option V)) (H:Hp) (s:Shared):Prop where
 ok:X.Ok
 os:s.os=X.s₀.os
 bare:AllBare s.gens
 base:Un X.fs X.ex X.H₀ H X.s₀.heap s.heap
 loc:∃ m,s.heap.Ns X.env.locals m ∧ ∀ (i:Nat) (x:Str) (v:V),X.N[i]? = some x->σ[i]? = some (some v)->Vis X.env.scope x -> ∃ u,RelV v u∧qKH X.env s.heap m x u
 cell:∀ x c,X.env.cells.lookup x=some c -> ∃ v,s.heap.IsCell c v
 free:H X.env.locals=none
 freeC:∀ x c,X.env.cells.lookup x=some c->H c=none
 pin:∀ p∈X.pn++pins,s.heap.get? p.1=some p.2∧H p.1=none∧p.1≠X.env.locals∧p.1 ∉ X.fs ∧ ∀ v,p.2.data ≠ .cell v
 hok:HOk X.prog X.w H s.heap
 len:σ.length=X.N.length
 hnd:HndH X.A H
section
variable {X:Cx} {pins:List (Addr×Obj)} {σ:List (Option V)} {H H':Hp} {s:Shared} {h':Heap}
theorem Cx.Ok.nofr (ok:X.Ok) {b:Addr} {o:Obj} (e:X.base.get? b=some o):b ∉ X.fs:=fun hb=>by
 have:=(ok.funs.mem hb).1
 rw [e] at this;cases this
theorem Inv.bs (I:Inv X pins σ H s):∀ b o,X.base.get? b=some o->s.heap.get? b=some o∧H b=none:=fun b o e =>
 ⟨I.base.keep b o (I.ok.bs b o e).1 (I.ok.bs b o e).2 (I.ok.nofr e) (I.ok.noex b o e),I.base.free b o (I.ok.bs b o e).1 (I.ok.bs b o e).2 (I.ok.noex b o e)⟩
theorem Inv.bk (I:Inv X pins σ H s):∀ b o,X.base.get? b=some o->s.heap.get? b=some o:=fun b o e=>(I.bs b o e).1
theorem Inv.mod (I:Inv X pins σ H s):Mod X.K X.mg X.base:=I.ok.mod
theorem Inv.kIn (I:Inv X pins σ H s):X.K.In s.heap:=I.ok.mod.kin.keeps I.bk
theorem Inv.lt (I:Inv X pins σ H s):X.env.locals < s.heap.objs.size:=let ⟨_,hn,_⟩:=I.loc;hn.lt
theorem Inv.sz (I:Inv X pins σ H s):X.s₀.heap.objs.size≤s.heap.objs.size:=Ac I.ok.above (Ce I.lt)
theorem Inv.nofs (I:Inv X pins σ H s) {a:Addr} (h:s.heap.objs.size≤a):a ∉ X.fs:=fun hb=>by obtain ⟨_,o,ho,_⟩:=I.ok.funs.mem hb;exact absurd (Ao (AK ho) (Ac I.sz h)) (Ba _)
theorem Inv.cne (I:Inv X pins σ H s):∀ x c,X.env.cells.lookup x=some c->c≠X.env.locals:=fun x c e z=>by obtain ⟨v,o,ho,hd⟩:=I.cell x c e;obtain ⟨m,⟨o',es,ep,ho',hd',_⟩,_⟩:=I.loc;rw [z,ho'] at ho;cases ho;rw [hd'] at hd;cases hd
theorem Inv.funs (I:Inv X pins σ H s):s.heap.FunFrames X.base X.outer:=by
 have all:∀ (l:List Env),(∀ b∈frs l,b∈X.fs)->X.s₀.heap.FunFrames X.base l->s.heap.FunFrames X.base l:=by
  intro l;induction l with
  |nil=>intro _ _;trivial
  |cons env r ih =>
   intro hs hl;obtain ⟨hk,⟨L,o,hf,hn,ho,hd⟩,hr⟩:=hl;have hL:L∈X.fs:=hs L (by unfold frs;rw [BF,hf];exact AH)
   obtain ⟨sl,e⟩:=I.base.slot L o ho (I.ok.frf L hL) hL fun z=>I.ok.exfs L z hL;exact ⟨hk,⟨L,_,hf,hn,e,hd⟩,ih (fun b hb=>hs b (by unfold frs;rw [BF,hf];exact AE _ hb)) hr⟩
 exact all X.outer (fun _ hb=>hb) I.ok.funs
theorem Inv.stack (I:Inv X pins σ H s):s.heap.FunFrames X.base X.stack:=by
 rcases I.ok.stk with e |⟨e,hf⟩
 ·rw [e];exact I.funs
 ·rw [e];obtain ⟨m,hn,_⟩:=I.loc;refine .cons (by rw [I.ok.kind];decide) hf hn ?_ I.funs
  exact Heap.get?_none_of_le (Ac I.ok.bsz I.ok.above)
theorem Inv.stkSub (I:Inv X pins σ H s):∀ b∈frs X.stack,b∈X.env.locals::X.fs:=fun b hb=>by
 rcases I.ok.stk with e |⟨e,hf⟩
 ·rw [e] at hb;exact AE _ hb
 ·rw [e] at hb;unfold frs at hb;rw [BF,hf] at hb;exact hb
theorem Inv.stkFree (I:Inv X pins σ H s):∀ b∈frs X.stack,H b=none:=fun b hb=>by
 rcases AD.mp (I.stkSub b hb) with e |hb
 ·rw [e];exact I.free
 ·obtain ⟨_,o,ho,_⟩:=I.ok.funs.mem hb;exact I.base.free b o ho (I.ok.frf b hb) fun z=>I.ok.exfs b z hb
theorem Inv.step {g':Array GenState} {t':Nat} {d':Drawn} {ch:List Addr} (I:Inv X pins σ H s)
  (hch:∀ b∈ch,(b∈X.ex∨X.s₀.heap.objs.size≤b)∧b≠X.env.locals∧(∀ x c,X.env.cells.lookup x=some c->c≠b) ∧ ∀ p∈X.pn++pins,p.1≠b)
  (keep:∀ b o,b≠X.env.locals->b ∉ X.fs->b ∉ ch->s.heap.get? b=some o->H b=none->h'.get? b=some o)
  (slot:∀ b o,b≠X.env.locals->b∈X.fs->b ∉ ch->s.heap.get? b=some o->H b=none -> ∃ sl,h'.get? b=some { o with slots:=sl }) (free:∀ b o,b ∉ ch->s.heap.get? b=some o->H b=none->H' b=none)
  (there:∀ b o,b ∉ ch->s.heap.get? b=some o -> ∃ o',h'.get? b=some o')
  (tups:∀ b xs,H b=some (.tup xs)->H' b=some (.tup xs)) (frzs:∀ b o u,H b=some (.frz o u)->H' b=some (.frz o u)) (tbls:∀ b ps,H b=some (.tbl ps) -> ∃ more,H' b=some (.tbl (ps++more)))
  (ns:∀ m,s.heap.Ns X.env.locals m->h'.Ns X.env.locals m) (hok:HOk X.prog X.w H' h') (hg:AllBare g') :
  Inv X pins σ H' { s with heap:=h',gens:=g',drawn:=d',toks:=t' }:=by
 have neL:∀ b o,X.s₀.heap.get? b=some o->b≠X.env.locals:=fun b o e=>AV (Ao (AK e) I.ok.above);have neC:∀ b o,X.s₀.heap.get? b=some o->b ∉ X.ex->b ∉ ch:=fun b o e hx hb=>by
  rcases (hch b hb).1 with z |z
  ·exact hx z
  ·exact absurd (Ao (AK e) z) (Ba _)
 have cellK:∀ x c,X.env.cells.lookup x=some c -> ∀ v,s.heap.IsCell c v->h'.IsCell c v:=fun x c e v ⟨o,ho,hd⟩=>by
  have nch:c ∉ ch:=fun z=>(hch c z).2.2.1 x c e rfl;by_cases hc:c∈X.fs
  ·obtain ⟨sl,q⟩:=slot c o (I.cne x c e) hc nch ho (I.freeC x c e);exact ⟨_,q,hd⟩
  ·exact ⟨o,keep c o (I.cne x c e) hc nch ho (I.freeC x c e),hd⟩
 refine ⟨I.ok,I.os,hg,⟨fun b o e n hb hx => ?_,fun b o e n hb hx => ?_,fun b o e n hx => ?_,fun b o e hx => ?_,fun b xs e=>tups b xs (I.base.tups b xs e),fun b o xs e=>frzs b o xs (I.base.frzs b o xs e),fun b ps e => ?_⟩,?_,fun x c e => ?_,?_,fun x c e => ?_,fun p hp => ?_,hok,I.len,fun v hv=>(let ⟨ea,oe,u,vs,e1,e2,e3⟩:=I.hnd v hv;⟨ea,oe,u,vs,e1,frzs _ _ _ e2,e3⟩)⟩
 ·exact keep b o (neL b o e) hb (neC b o e hx) (I.base.keep b o e n hb hx) (I.base.free b o e n hx)
 ·obtain ⟨sl,e1⟩:=I.base.slot b o e n hb hx;obtain ⟨sl',e2⟩:=slot b _ (neL b o e) hb (neC b o e hx) e1 (I.base.free b o e n hx);exact ⟨sl',e2⟩
 ·obtain ⟨o',e1⟩:=I.base.there b o e hx;exact free b o' (neC b o e hx) e1 (I.base.free b o e n hx)
 ·obtain ⟨o',e1⟩:=I.base.there b o e hx;exact there b o' (neC b o e hx) e1
 ·obtain ⟨m1,e1⟩:=I.base.tbls b ps e;obtain ⟨m2,e2⟩:=tbls b _ e1;exact ⟨m1++m2,by rw [e2,Array.append_assoc]⟩
 ·obtain ⟨m,hn,hl⟩:=I.loc;refine ⟨m,ns m hn,fun i x v e1 e2 e3 => ?_⟩;obtain ⟨u,r,l⟩:=hl i x v e1 e2 e3;refine ⟨u,r,?_⟩;rcases l with l |⟨k,c,e,z⟩
  ·exact .inl l
  ·exact .inr ⟨k,c,e,cellK x c e _ z⟩
 ·obtain ⟨v,z⟩:=I.cell x c e;exact ⟨v,cellK x c e v z⟩
 ·obtain ⟨m,⟨o,_,_,ho,_⟩,_⟩:=I.loc;exact free _ o (fun z=>(hch _ z).2.1 rfl) ho I.free
 ·obtain ⟨v,o,ho,hd⟩:=I.cell x c e;exact free c o (fun z=>(hch c z).2.2.1 x c e rfl) ho (I.freeC x c e)
 ·obtain ⟨e,n,ne,nf,d⟩:=I.pin p hp;have nch:p.1 ∉ ch:=fun z=>(hch p.1 z).2.2.2 p hp rfl;exact ⟨keep p.1 p.2 ne nf nch e n,free p.1 p.2 nch e n,ne,nf,d⟩
theorem Inv.un {t':Nat} (I:Inv X pins σ H s) (u:Un X.fs [] H H' s.heap h') (hok:HOk X.prog X.w H' h'):Inv X pins σ H' { s with heap:=h',toks:=t' }:=by
 obtain ⟨m,⟨o,es,ep,ho,r⟩,_⟩:=id I.loc;obtain ⟨sl,hL⟩:=u.any ho I.free (by simp)
 exact I.step (g':=s.gens) (d':=s.drawn) (ch:=[]) (fun _ z=>nomatch z) (fun b o _ hb _ e n=>u.keep b o e n hb (by simp)) (fun b o _ hb _ e n=>u.slot b o e n hb (by simp)) (fun b o _ e n=>u.free b o e n (by simp)) (fun b o _ e=>u.there b o e (by simp)) u.tups u.frzs u.tbls (fun m' hm=>by
  obtain ⟨o',es',ep',ho',r'⟩:=hm;rw [ho] at ho';cases ho';exact ⟨_,es',ep',hL,r'⟩) hok I.bare
theorem Inv.call {g':Array GenState} {t':Nat} {d':Drawn} {ch:List Addr} (I:Inv X pins σ H s) (u:Un (frs X.stack) ch H H' s.heap h') (hok:HOk X.prog X.w H' h') (hg:AllBare g')
  (hch:∀ b∈ch,(b∈X.ex∨X.s₀.heap.objs.size≤b)∧b≠X.env.locals∧(∀ x c,X.env.cells.lookup x=some c->c≠b) ∧ ∀ p∈X.pn++pins,p.1≠b) :
  Inv X pins σ H' { s with heap:=h',gens:=g',drawn:=d',toks:=t' }:=by
 obtain ⟨m,⟨o,es,ep,ho,r⟩,_⟩:=id I.loc;obtain ⟨sl,hL⟩:=u.any ho I.free fun z=>(hch _ z).2.1 rfl;exact I.step (ch:=ch) hch (fun b o hL hb hc e n=>u.keep b o e n (fun z=>(AD.mp (I.stkSub b z)).elim hL hb) hc) (fun b o _ _ hc e n=>u.any e n hc) (fun b o hc e n=>u.free b o e n hc) (fun b o hc e=>u.there b o e hc) u.tups u.frzs u.tbls (fun m' hm=>by
  obtain ⟨o',es',ep',ho',r'⟩:=hm;rw [ho] at ho';cases ho';exact ⟨_,es',ep',hL,r'⟩) hok hg
theorem Inv.turned {t':Nat} {it:Addr} (I:Inv X pins σ H s) (k:∀ b o,b≠it->s.heap.get? b=some o->h'.get? b=some o) (hn:H it=none) (hL:it≠X.env.locals)
  (h1:it∈X.ex∨X.s₀.heap.objs.size≤it) (h2:∀ x c,X.env.cells.lookup x=some c->c≠it) (h3:∀ p∈X.pn++pins,p.1≠it):Inv X pins σ H { s with heap:=h',toks:=t' }:=by
 have nit:∀ b u,H b=some u->b≠it:=fun b u e z=>by rw [z,hn] at e;cases e
 refine I.step (g':=s.gens) (d':=s.drawn) (ch:=[it]) (fun b hb => ?_) (fun b o _ _ hc e _=>k b o (fun z=>hc (by simp [z])) e) (fun b o _ _ hc e _=>⟨o.slots,k b o (fun z=>hc (by simp [z])) e⟩) (fun _ _ _ _ n=>n)
  (fun b o hc e=>⟨o,k b o (fun z=>hc (by simp [z])) e⟩) (fun _ _ e=>e) (fun _ _ _ e=>e) (fun b ps e=>⟨#[],by rw [e];simp⟩) (fun m hm => ?_) (fun b u e => ?_) I.bare
 ·have e:b=it:=by simpa using hb
  subst e;exact ⟨h1,hL,h2,h3⟩
 ·obtain ⟨o,es,ep,ho,r⟩:=hm;exact ⟨o,es,ep,k _ o (Ne.symm hL) ho,r⟩
 ·refine (I.hok b u e).stay (fun c v hc q=>k c v ?_ q) (fun _ q=>q) fun _ _ q=>q;rcases hc with z |z
  ·rw [z];exact nit b u e
  ·exact nit c _ z
theorem Inv.tok (I:Inv X pins σ H s) (t:Nat):Inv X pins σ H { s with toks:=t }:=I.un (h':=s.heap) (t':=t) Un.refl I.hok
theorem Inv.kept {t':Nat} (I:Inv X pins σ H s) (k:∀ b u,s.heap.get? b=some u->h'.get? b=some u):Inv X pins σ H { s with heap:=h',toks:=t' }:=I.un (Un.kept k) (I.hok.kept k)
theorem Inv.laid {a:Addr} {o:HO} {t':Nat} (I:Inv X pins σ H s) (k:∀ b u,s.heap.get? b=some u->h'.get? b=some u) (hp:s.heap.objs.size≤a) (new:ObjOk X.prog X.w (upd H a o) h' a o) :
  Inv X pins σ (upd H a o) { s with heap:=h',toks:=t' }:=I.un (Un.laid k hp (I.hok.fresh hp)) (I.hok.laid k hp new)
theorem Inv.write {x e:Addr} {o:HO} {t':Nat} (I:Inv X pins σ H s) (mu:Mut (H x)) (he:e=x∨H e=some (.own x)) (k:∀ b u,b≠e->s.heap.get? b=some u->h'.get? b=some u) (heo:∃ u,h'.get? e=some u)
  (new:ObjOk X.prog X.w (upd H x o) h' x o):Inv X pins σ (upd H x o) { s with heap:=h',toks:=t' }:=I.un (Un.write mu he k heo) (I.hok.write mu he k heo new)
theorem Inv.pins_of {pins':List (Addr×Obj)} (I:Inv X pins σ H s) (h:∀ p∈pins',s.heap.get? p.1=some p.2∧H p.1=none∧p.1≠X.env.locals∧p.1 ∉ X.fs ∧ ∀ v,p.2.data ≠ .cell v):Inv X pins' σ H s :=
 ⟨I.ok,I.os,I.bare,I.base,I.loc,I.cell,I.free,I.freeC,fun p hp=>(Ax.mp hp).elim (fun z=>I.pin p (CP _ z)) (h p),I.hok,I.len,I.hnd⟩
theorem Yr {N:List Str} (hN:N.Nodup) {i j:Nat} {x:Str} (a:N[i]? = some x) (b:N[j]? = some x):i=j:=by obtain ⟨h1,e1⟩:=AQ.mp a;obtain ⟨h2,e2⟩:=AQ.mp b;exact (List.getElem_inj hN).mp (e1.trans e2.symm)
theorem qCw {M:Model} {A:Around} {E:Value->Shared->Prop} {i:Nat} {x:Str} {v:V} {u:Value} {Q:Unit->Shared->Prop} (I:Inv X pins σ H s) (hN:X.N.Nodup) (hi:X.N[i]? = some x) (hx:Loc X.env.scope x) (r:RelV v u)
  (h:∀ s',Inv X pins (σ.set i (some v)) H s'->(∃ a,Heap.SameBut a s.heap s'.heap∧(a=X.env.locals∨X.env.cells.lookup x=some a))->Q () s') (hf:X.fn x=true∨X.env.scope.names.lookup x=some .local:=by first |exact .inl rfl |exact .inr rfl |assumption):wpAny M A (storeName X.env x u) Q E s:=by
 obtain ⟨m,hn,hl⟩:=id I.loc;have hcls:(X.env.scope.kind == .class || (X.env.scope.kind == .module&&X.env.locals != X.env.globals))=false:=by rw [I.ok.kind];rfl
 have hiσ:i < σ.length:=by rw [I.len];exact (AQ.mp hi).1
 have cne:=I.cne;have tracked:∀ {a:Addr} {h':Heap},(∃ o,s.heap.get? a=some o∧H a=none)->Heap.SameBut a s.heap h'->HOk X.prog X.w H h':=fun {a h'} ha hs b ob e=>by
  obtain ⟨_,_,hfree⟩:=ha;refine (I.hok b ob e).stay (fun c w' hc q=>(hs.2 c ?_).trans q) (fun _ q=>q) fun _ _ q=>q
  rintro rfl
  rcases hc with rfl |hc
  ·rw [hfree] at e;cases e
  ·rw [hfree] at hc;cases hc
 rcases hx with hk |hk
 ·refine wpAny_storeName_local hk hn (fun h' hn' hs => ?_) hcls;obtain ⟨oL,_,_,hoL,_⟩:=id hn;refine h _ ⟨I.ok,I.os,I.bare,⟨fun b o e n hb hx => ?_,fun b o e n hb hx => ?_,I.base.free,fun b o e hx => ?_,I.base.tups,I.base.frzs,I.base.tbls⟩,⟨_,hn',fun j y v' e1 e2 e3 => ?_⟩,fun y c e => ?_,I.free,I.freeC,fun p hp => ?_,tracked ⟨oL,hoL,I.free⟩ hs,by simpa using I.len,I.hnd⟩ ⟨_,hs,.inl rfl⟩
  ·exact (hs.2 b (AV (Ao (AK e) I.ok.above))).trans (I.base.keep b o e n hb hx)
  ·obtain ⟨sl,e1⟩:=I.base.slot b o e n hb hx;exact ⟨sl,(hs.2 b (AV (Ao (AK e) I.ok.above))).trans e1⟩
  ·obtain ⟨o',e1⟩:=I.base.there b o e hx;exact ⟨o',(hs.2 b (AV (Ao (AK e) I.ok.above))).trans e1⟩
  ·by_cases hj:j=i
   ·subst hj;rw [hi] at e1;cases e1;rw [A8 hiσ] at e2;cases e2;exact ⟨u,r,.inl ⟨hk,by simp⟩⟩
   ·rw [BJ (Ne.symm hj)] at e2;obtain ⟨u',r',q⟩:=hl j y v' e1 e2 e3;refine ⟨u',r',?_⟩;rcases q with ⟨k,e⟩ |⟨k,c,e,z⟩
    ·refine .inl ⟨k,?_⟩
     have:y≠x:=fun e=>hj (Yr hN e1 (e ▸ hi))
     simp [this,e]
    ·exact .inr ⟨k,c,e,z.sameBut hs (cne y c e)⟩
  ·obtain ⟨w',z⟩:=I.cell y c e;exact ⟨w',z.sameBut hs (cne y c e)⟩
  ·obtain ⟨e,n,ne,nf,d⟩:=I.pin p hp;exact ⟨(hs.2 p.1 ne).trans e,n,ne,nf,d⟩
 ·have hfn:X.fn x=true:=by
   rcases hf with z |z
   ·exact z
   ·rw [z] at hk;cases hk
  obtain ⟨c,hc⟩:=I.ok.has x (.inl hk);obtain ⟨w',z⟩:=I.cell x c hc;refine wpAny_storeName_cell I.ok.kind hk hc z (fun h' hc' hs => ?_);obtain ⟨oc,hoc,hocd⟩:=id z;refine h { s with heap:=h' } ⟨I.ok,I.os,I.bare,⟨fun b o e n hb hx => ?_,fun b o e n hb hx => ?_,I.base.free,fun b o e hx => ?_,I.base.tups,I.base.frzs,I.base.tbls⟩,⟨m,hn.sameBut hs (Ne.symm (cne x c hc)),fun j y v' e1 e2 e3 => ?_⟩,fun y c' e => ?_,I.free,I.freeC,fun p hp => ?_,tracked ⟨oc,hoc,I.freeC x c hc⟩ hs,by simpa using I.len,I.hnd⟩ ⟨c,hs,.inr hc⟩
  ·exact (hs.2 b (AV (Ao (AK e) (I.ok.cab x c hfn hc)))).trans (I.base.keep b o e n hb hx)
  ·obtain ⟨sl,e1⟩:=I.base.slot b o e n hb hx;exact ⟨sl,(hs.2 b (AV (Ao (AK e) (I.ok.cab x c hfn hc)))).trans e1⟩
  ·obtain ⟨o',e1⟩:=I.base.there b o e hx;exact ⟨o',(hs.2 b (AV (Ao (AK e) (I.ok.cab x c hfn hc)))).trans e1⟩
  ·by_cases hj:j=i
   ·subst hj;rw [hi] at e1;cases e1;rw [A8 hiσ] at e2;cases e2;exact ⟨u,r,.inr ⟨.inl hk,c,hc,hc'⟩⟩
   ·rw [BJ (Ne.symm hj)] at e2;obtain ⟨u',r',q⟩:=hl j y v' e1 e2 e3;refine ⟨u',r',?_⟩;rcases q with q |⟨k,c',e,z'⟩
    ·exact .inl q
    ·refine .inr ⟨k,c',e,z'.sameBut hs ?_⟩
     rintro rfl
     exact hj (Yr hN e1 (I.ok.inj _ _ _ e hc ▸ hi))
  ·by_cases hcc:c'=c
   ·subst hcc;exact ⟨_,hc'⟩
   ·obtain ⟨w2,z2⟩:=I.cell y c' e;exact ⟨w2,z2.sameBut hs hcc⟩
  ·obtain ⟨e,n,ne,nf,d⟩:=I.pin p hp;refine ⟨(hs.2 p.1 ?_).trans e,n,ne,nf,d⟩;intro q;rw [q,hoc] at e;have q':oc=p.2:=Ai e;exact d w' (by rw [← q'];exact hocd)
theorem zw {M:Model} {A:Around} {E:Value->Shared->Prop} {i:Nat} {x:Str} {v:V} {u:Value} {Q:Unit->Shared->Prop} (I:Inv X pins σ H s) (hN:X.N.Nodup) (hi:X.N[i]? = some x) (hx:Loc X.env.scope x) (r:RelV v u)
  (h:∀ s',Inv X pins (σ.set i (some v)) H s'->Q () s') (hf:X.fn x=true∨X.env.scope.names.lookup x=some .local:=by first |exact .inl rfl |exact .inr rfl |assumption):wpAny M A (storeName X.env x u) Q E s :=
 qCw I hN hi hx r (fun s' I' _=>h s' I') hf
theorem Inv.call' {s':Shared} {ch:List Addr} (I:Inv X pins σ H s) (ho:s'.os=s.os) (u:Un (frs X.stack) ch H H' s.heap s'.heap) (hok:HOk X.prog X.w H' s'.heap) (hg:AllBare s'.gens)
  (hch:∀ b∈ch,(b∈X.ex∨X.s₀.heap.objs.size≤b)∧b≠X.env.locals∧(∀ x c,X.env.cells.lookup x=some c->c≠b) ∧ ∀ p∈X.pn++pins,p.1≠b):Inv X pins σ H' s':=by obtain ⟨h',g',d',t',o'⟩:=s';have e:o'=s.os:=ho;subst e;exact I.call (g':=g') (t':=t') (d':=d') u hok hg hch
end
abbrev XK:=Value->Option Addr->Hp->Prop
abbrev St:=List (Option V)
abbrev VK:=V->Hp->Prop
abbrev TE:=St->Hp->VK->Prop
abbrev TT:=St->Hp->(Bool->Hp->Prop)->Prop
abbrev TA:=St->Hp->(List V->Hp->Prop)->Prop
structure Ends where
 nx:St->Hp->Prop
 rt:VK
 bk:St->Hp->Prop:=fun _ _=>False
 ct:St->Hp->Prop:=fun _ _=>False
abbrev TS:=Ends->St->Hp->Prop
def EP (X:Cx) (pins:List (Addr×Obj)) (σ:St) (Q:VK) (u:Value) (s':Shared):Prop := ∃ v H',Inv X pins σ H' s'∧RelV v u∧Q v H'
def TP (X:Cx) (pins:List (Addr×Obj)) (σ:St) (Q:Bool->Hp->Prop) (b:Bool) (s':Shared):Prop := ∃ H',Inv X pins σ H' s'∧Q b H'
def AP (X:Cx) (pins:List (Addr×Obj)) (σ:St) (Q:List V->Hp->Prop) (us:List Value) (s':Shared):Prop := ∃ vs H',Inv X pins σ H' s'∧Vals vs us∧Q vs H'
def SP (X:Cx) (pins:List (Addr×Obj)) (D:Ends) (f:Flow) (s':Shared):Prop :=
 match f with
 | .next => ∃ σ' H',Inv X pins σ' H' s'∧D.nx σ' H'
 | .brk => ∃ σ' H',Inv X pins σ' H' s'∧D.bk σ' H'
 | .cont => ∃ σ' H',Inv X pins σ' H' s'∧D.ct σ' H'
 | .ret u => ∃ v σ' H',Inv X pins σ' H' s'∧RelV v u∧D.rt v H'
def PE (X:Cx) (e:Expr) (t:TE):Prop :=
 ∀ (pins:List (Addr×Obj)) (s:Shared) (σ:St) (H:Hp) (Q:VK),Inv X pins σ H s->t σ H Q->wpAny (model X.prog X.w) X.A (eval e X.env) (EP X pins σ Q) X.xe s
def PT (X:Cx) (e:Expr) (t:TT):Prop :=
 ∀ (pins:List (Addr×Obj)) (s:Shared) (σ:St) (H:Hp) (Q:Bool->Hp->Prop),Inv X pins σ H s->t σ H Q->wpAny (model X.prog X.w) X.A (isTrue e X.env (eval e X.env)) (TP X pins σ Q) X.xe s
def PW (X:Cx) (e:Expr) (t:TT):Prop :=
 ∀ (whole:Sem Value) (pins:List (Addr×Obj)) (s:Shared) (σ:St) (H:Hp) (Q:Bool->Hp->Prop),Inv X pins σ H s->t σ H Q->wpAny (model X.prog X.w) X.A (isTrue e X.env whole) (TP X pins σ Q) X.xe s
theorem PW.pt {X:Cx} {e:Expr} {t:TT} (h:PW X e t):PT X e t:=h _
def PA (X:Cx) (es:List Expr) (t:TA):Prop :=
 ∀ (pos:Pos) (pins:List (Addr×Obj)) (s:Shared) (σ:St) (H:Hp) (Q:List V->Hp->Prop),Inv X pins σ H s->t σ H Q->wpAny (model X.prog X.w) X.A (spliced (backTo pos (starEach es X.env))) (AP X pins σ Q) X.xe s
def PS (X:Cx) (st:Stmt) (t:TS):Prop :=
 ∀ (pins:List (Addr×Obj)) (s:Shared) (σ:St) (H:Hp) (D:Ends),Inv X pins σ H s->t D σ H->wpAny (model X.prog X.w) X.A (exec st X.env) (SP X pins D) X.xe s
def PSs (X:Cx) (st:List Stmt) (t:TS):Prop :=
 ∀ (pins:List (Addr×Obj)) (s:Shared) (σ:St) (H:Hp) (D:Ends),Inv X pins σ H s->t D σ H->wpAny (model X.prog X.w) X.A (execs st X.env) (SP X pins D) X.xe s
theorem thn {α:Type} {t:Sem α} {Q Q':α->Shared->Prop} {M:Model} {A:Around} {E:Value->Shared->Prop} {s:Shared} (h:wpAny M A t Q E s) (hQ:∀ a s,Q a s->Q' a s):wpAny M A t Q' E s:=Bb h hQ fun _ _ x=>x
end L2
namespace L2
open PySem PySem.Spec PyProof.Rows
section
variable {X:Cx}
def Y1 (i:Nat):TE:=fun σ H Q => ∃ v,σ[i]? = some (some v)∧Q v H
def tC (v:V):TE:=fun _ H Q=>Q v H
theorem zr {i:Nat} {x:Str} {pos:Pos} (hN:X.N[i]? = some x) (hv:Vis X.env.scope x) (hd:(x==("__debug__":Str))=false:=by decide) (hcd:(x==("__classdict__":Str))=false:=by decide):PE X (.Name x pos) (Y1 i):=by
 intro pins s σ H Q I h;obtain ⟨v,e,h⟩:=h;obtain ⟨m,hn,hl⟩:=I.loc;obtain ⟨u,r,l⟩:=hl i x v hN e hv;have fin:EP X pins σ Q u s:=⟨v,H,I,r,h⟩;rcases l with ⟨hk,hm⟩ |⟨hk,c,hc,hcell⟩
 ·exact wpAny_Name (wpAny_loadName_local I.ok.kind hk hn hm fin) hd
 ·rcases hk with hk |hk
  ·exact wpAny_Name (wpAny_loadName_cell I.ok.kind hk hc hcell fin) hd
  ·exact wpAny_Name (wpAny_loadName_free I.ok.kind hk hc hcell fin hcd) hd
theorem qJM {i j pos}:PE X (.Constant (.int i) j pos) (tC (.int i)):=fun _ _ _ H _ I h=>wpAny_Constant_int ⟨.int i,H,I.tok _,⟨_,rfl⟩,h⟩
theorem qJx {b j pos}:PE X (.Constant (.bool b) j pos) (tC (.bl b)):=fun _ _ _ H _ I h=>Constant_bool ⟨.bl b,H,I,rfl,h⟩
theorem qIk {j pos}:PE X (.Constant .none j pos) (tC .non):=fun _ _ _ H _ I h=>Constant_none ⟨.non,H,I,rfl,h⟩
theorem qFL {x j pos}:PE X (.Constant (.str x) j pos) (tC (.str x)):=fun _ _ _ H _ I h=>Calls.Constant_str ⟨.str x,H,I.tok _,⟨_,rfl⟩,h⟩
def Gl (X:Cx) (x:Str):Prop:=X.env.kindOf x=some .globalImplicit
theorem Z2 {E:Value->Shared->Prop} {pins:List (Addr×Obj)} {s:Shared} {σ:St} {H:Hp} {x:Str} {u:Value} {pos:Pos} {Q:Value->Shared->Prop} (I:Inv X pins σ H s) (hg:Gl X x) (hm:X.mg x=some u) (h:Q u s)
  (hd:(x==("__debug__":Str))=false:=by decide):wpAny (model X.prog X.w) X.A (eval (.Name x pos) X.env) Q E s :=
 B4 I.ok.kind hg (Calls.loadGlobal_global (by rw [I.ok.glob];exact I.mod.glob.keeps I.bk) hm h) hd
theorem zX {E:Value->Shared->Prop} {pins:List (Addr×Obj)} {s:Shared} {σ:St} {H:Hp} {x:Str} {u:Value} {pos:Pos} {Q:Value->Shared->Prop} (I:Inv X pins σ H s) (hg:Gl X x) (hm:X.mg x=none) (hv:bootBuiltins x=some u) (h:Q u s)
  (hn:x ≠ "__name__" := by decide) (hd:(x==("__debug__":Str))=false:=by decide):wpAny (model X.prog X.w) X.A (eval (.Name x pos) X.env) Q E s:=by obtain ⟨mb,h1,h2⟩:=I.mod.blt;exact B4 I.ok.kind hg (Calls.loadGlobal_builtin (by rw [I.ok.glob];exact I.mod.glob.keeps I.bk) hm (by rw [I.ok.blt];exact h1.keeps I.bk) ((h2 x hn).trans hv) h) hd
theorem qCJ {x:Str} {v:V} {u:Value} {pos:Pos} (hg:Gl X x) (hm:X.mg x=some u) (r:RelV v u) (hd:(x==("__debug__":Str))=false:=by decide):PE X (.Name x pos) (tC v) :=
 fun _ _ _ H _ I h=>Z2 I hg hm ⟨v,H,I,r,h⟩ hd
theorem qHN {x:Str} {v:V} {u:Value} {pos:Pos} (hg:Gl X x) (hm:X.mg x=none) (hv:bootBuiltins x=some u) (r:RelV v u) (hn:x ≠ "__name__" := by decide) (hd:(x==("__debug__":Str))=false:=by decide):PE X (.Name x pos) (tC v) :=
 fun _ _ _ H _ I h=>zX I hg hm hv ⟨v,H,I,r,h⟩ hn hd
variable {a b:Expr} {ta tb:TE} {pos:Pos}
variable {tA tB':TT} {rest:List Expr}
def qK4 (t u:TT):TT:=fun σ H Q=>t σ H fun c H1=>if c=true then u σ H1 Q else Q false H1
def tOr (t u:TT):TT:=fun σ H Q=>t σ H fun c H1=>if c=true then Q true H1 else u σ H1 Q
def qKt (t:TT):TT:=fun σ H Q=>t σ H fun c H1=>Q (!c) H1
theorem qG7 (ha:PT X a tA):PW X (.BoolOp .And [a] pos) tA:=by
 intro wh pins s σ H Q I h;refine isTrue_and (thn (ha pins s σ H Q I h) fun c s1 e => ?_);cases c with
 |true=>exact isTrue_and_nil e
 |false=>exact e
theorem qJI (ha:PT X a tA):PW X (.BoolOp .Or [a] pos) tA:=by
 intro wh pins s σ H Q I h;refine isTrue_or (thn (ha pins s σ H Q I h) fun c s1 e => ?_);cases c with
 |false=>exact isTrue_or_nil e
 |true=>exact e
theorem qI5 (ha:PT X a tA) (hb:PW X (.BoolOp .And (b::rest) pos) tB'):PW X (.BoolOp .And (a::b::rest) pos) (qK4 tA tB'):=by
 intro wh pins s σ H Q I h;refine isTrue_and (thn (ha pins s σ H _ I h) fun c s1 ⟨H1,I1,q1⟩ => ?_);cases c with
 |true=>exact hb wh pins s1 σ H1 Q I1 q1
 |false=>exact ⟨H1,I1,q1⟩
theorem qKG (ha:PT X a tA) (hb:PW X (.BoolOp .Or (b::rest) pos) tB'):PW X (.BoolOp .Or (a::b::rest) pos) (tOr tA tB'):=by
 intro wh pins s σ H Q I h;refine isTrue_or (thn (ha pins s σ H _ I h) fun c s1 ⟨H1,I1,q1⟩ => ?_);cases c with
 |true=>exact ⟨H1,I1,q1⟩
 |false=>exact hb wh pins s1 σ H1 Q I1 q1
theorem qJE (ha:PT X a tA):PT X (.UnaryOp .Not a pos) (qKt tA):=by intro pins s σ H Q I h;exact isTrue_not (ha pins s σ H (fun c H1=>Q (!c) H1) I h)
def qKi (ta tb:TE):TE:=fun σ H Q=>ta σ H fun x H1 => ∃ c,x = .bl c∧if c=true then tb σ H1 Q else Q (.bl false) H1
def qJ7 (ta:TE):TE:=fun σ H Q=>ta σ H fun x H1 => ∃ c,x = .bl c∧Q (.bl (!c)) H1
theorem qJQ {op} {t:TE} (h:PE X a t):PE X (.BoolOp op [a] pos) t:=fun pins s σ H Q I hw=>BoolOp_one (h pins s σ H Q I hw)
theorem qJd (ha:PE X a ta) (hb:PE X (.BoolOp .And (b::rest) pos) tb):PE X (.BoolOp .And (a::b::rest) pos) (qKi ta tb):=by
 intro pins s σ H Q I h;refine BoolOp_and (thn (ha pins s σ H _ I h) fun v s1 ⟨x,H1,I1,r1,q1⟩ => ?_);obtain ⟨c,rfl,q1⟩:=q1;cases r1;refine Bq ?_;cases c with
 |true=>exact hb pins s1 σ H1 Q I1 q1
 |false=>exact ⟨.bl false,H1,I1,rfl,q1⟩
theorem qIy (ha:PE X a ta):PE X (.UnaryOp .Not a pos) (qJ7 ta):=by intro pins s σ H Q I h;refine UnaryOp_ (thn (ha pins s σ H _ I h) fun v s1 ⟨x,H1,I1,r1,q1⟩ => ?_);obtain ⟨c,rfl,q1⟩:=q1;cases r1;exact not_of (Bq ⟨.bl (!c),H1,I1,rfl,q1⟩)
def tIf (t:TT) (ta tb:TE):TE:=fun σ H Q=>t σ H fun c H1=>if c=true then ta σ H1 Q else tb σ H1 Q
theorem qFN {c:Expr} (hc:PT X c tA) (ha:PE X a ta) (hb:PE X b tb):PE X (.IfExp c a b pos) (tIf tA ta tb):=by
 intro pins s σ H Q I h;refine wpAny_IfExp (thn (hc pins s σ H _ I h) fun d s1 ⟨H1,I1,q1⟩ => ?_);cases d with
 |true=>exact ha pins s1 σ H1 Q I1 q1
 |false=>exact hb pins s1 σ H1 Q I1 q1
end
end L2
namespace L2
open PySem PySem.Spec PyProof.Rows
def SqL (K:W.Frag) (H:Hp) (a:Addr) (xs:List V):Prop :=
 Rd H a (.lst xs) ∨
  ∃ (o:Obj) (its:Array Value) (n:Nat),K.lookup a=some o∧o.cls = .type "list" ∧ o.dict=none∧o.data = .seq its n∧its.size≤sizeLine∧Vals xs its.toList
def SqT (K:W.Frag) (H:Hp) (a:Addr) (xs:List V):Prop :=
 Rd H a (.tup xs) ∨
  ∃ (o:Obj) (its:Array Value) (n:Nat),K.lookup a=some o∧o.cls = .type "tuple" ∧ o.data = .seq its n∧its.size≤sizeLine∧Vals xs its.toList
def qLK:Value->Option V
 | .none=>some .non
 | .bool b=>some (.bl b)
 | .int i _=>some (.int i)
 | .str x _=>some (.str x)
 | .bytes b _=>some (.byt b)
 | .float b _=>some (.flt b)
 | .ref a=>some (.ref a)
 | .type n=>some (.ty n)
 |_=>none
theorem RelV.abs {x:V} {u:Value} (r:RelV x u):qLK u=some x:=by
 cases x with
 |non=>cases r;rfl
 |bl _=>cases r;rfl
 |int _=>obtain ⟨t,rfl⟩:=r;rfl
 |str _=>obtain ⟨t,rfl⟩:=r;rfl
 |byt _=>obtain ⟨t,rfl⟩:=r;rfl
 |flt _=>obtain ⟨t,rfl⟩:=r;rfl
 |ref _=>cases r;rfl
 |ty _=>cases r;rfl
theorem RelV.inj {x y:V} {u:Value} (r:RelV x u) (q:RelV y u):x=y:=Ai (r.abs.symm.trans q.abs)
theorem Vals.inj:∀ {xs ys:List V} {us:List Value},Vals xs us->Vals ys us->xs=ys
 |_,_,_,.nil,.nil=>rfl
 |_,_,_,.cons r t,.cons r' t'=>by rw [r.inj r',Vals.inj t t']
section
variable {X:Cx} {pins:List (Addr×Obj)} {σ:St} {H:Hp} {s:Shared} {a:Addr} {xs ys:List V}
theorem SqL.of {K:W.Frag} (h:H a=some (.lst xs)):SqL K H a xs := .inl (.inl h)
theorem Inv.list (I:Inv X pins σ H s) (h:SqL X.K H a xs):∃ its:List Value,Vals xs its∧PlainL s.heap a its.toArray∧xs.length≤sizeLine:=by
 rcases h with h |⟨o,its,n,hk,hc,hd,hs,hz,r⟩
 ·obtain ⟨z,its,n,r,e⟩:=h.ok I.hok;exact ⟨its,r,⟨_,n,e,rfl,rfl,rfl⟩,z⟩
 ·refine ⟨its.toList,r,⟨o,n,I.kIn a o hk,hc,hd,by simpa using hs⟩,?_⟩
  have e:=r.length;simp only [AW] at e;omega
theorem Inv.tuple (I:Inv X pins σ H s) (h:SqT X.K H a xs):∃ its:List Value,Vals xs its∧IsTup s.heap a its.toArray∧xs.length≤sizeLine:=by
 rcases h with h |⟨o,its,n,hk,hc,hs,hz,r⟩
 ·obtain ⟨z,its,r,p⟩:=h.ok I.hok;exact ⟨its,r,p,z⟩
 ·refine ⟨its.toList,r,⟨o,I.kIn a o hk,hc,n,by simpa using hs⟩,?_⟩
  have e:=r.length;simp only [AW] at e;omega
theorem Inv.list_inj (I:Inv X pins σ H s) (h:SqL X.K H a xs) (h':SqL X.K H a ys):xs=ys:=by
 obtain ⟨its,r,⟨o,n,e,_,_,d⟩,_⟩:=I.list h;obtain ⟨its',r',⟨o',n',e',_,_,d'⟩,_⟩:=I.list h';rw [e] at e';cases e';rw [d] at d';injection d' with d1 _
 have:its=its':=by simpa using B5 Array.toList d1
 subst this;exact r.inj r'
theorem Inv.tuple_inj (I:Inv X pins σ H s) (h:SqT X.K H a xs) (h':SqT X.K H a ys):xs=ys:=by
 obtain ⟨its,r,⟨o,e,_,n,d⟩,_⟩:=I.tuple h;obtain ⟨its',r',⟨o',e',_,n',d'⟩,_⟩:=I.tuple h';rw [e] at e';cases e';rw [d] at d';injection d' with d1 _
 have:its=its':=by simpa using B5 Array.toList d1
 subst this;exact r.inj r'
end
abbrev Cx.wish (X:Cx) (E:Value->Shared->Prop):Cx:={ X with xe:=E }
abbrev Cx.nox (X:Cx):Cx:=X.wish fun _ _=>False
theorem Cx.Ok.wish {X:Cx} (ok:X.Ok) (E:Value->Shared->Prop):(X.wish E).Ok :=
 ⟨ok.mod,ok.kind,ok.glob,ok.blt,ok.above,ok.inj,ok.has,ok.cab,ok.hd,ok.frames,ok.stk,ok.exf,ok.bs,ok.bsz,ok.noex,ok.exfs,ok.funs,ok.frf⟩
theorem Cx.Ok.unwish {X:Cx} {E:Value->Shared->Prop} (ok:(X.wish E).Ok):X.Ok :=
 ⟨ok.mod,ok.kind,ok.glob,ok.blt,ok.above,ok.inj,ok.has,ok.cab,ok.hd,ok.frames,ok.stk,ok.exf,ok.bs,ok.bsz,ok.noex,ok.exfs,ok.funs,ok.frf⟩
section
variable {X:Cx} {pins:List (Addr×Obj)} {σ:St} {H:Hp} {s:Shared} {E:Value->Shared->Prop}
theorem Inv.wish (I:Inv X pins σ H s) (E:Value->Shared->Prop):Inv (X.wish E) pins σ H s:=⟨I.ok.wish E,I.os,I.bare,I.base,I.loc,I.cell,I.free,I.freeC,I.pin,I.hok,I.len,I.hnd⟩
theorem Inv.unwish (I:Inv (X.wish E) pins σ H s):Inv X pins σ H s:=⟨I.ok.unwish,I.os,I.bare,I.base,I.loc,I.cell,I.free,I.freeC,I.pin,I.hok,I.len,I.hnd⟩
theorem SP.unwish {D:Ends} {f:Flow} {s':Shared} (h:SP (X.wish E) pins D f s'):SP X pins D f s':=by
 cases f with
 |next=>obtain ⟨σ',H',I,q⟩:=h;exact ⟨σ',H',I.unwish,q⟩
 |brk=>obtain ⟨σ',H',I,q⟩:=h;exact ⟨σ',H',I.unwish,q⟩
 |cont=>obtain ⟨σ',H',I,q⟩:=h;exact ⟨σ',H',I.unwish,q⟩
 |ret u=>obtain ⟨v,σ',H',I,r,q⟩:=h;exact ⟨v,σ',H',I.unwish,r,q⟩
end
section
variable {X:Cx} {st:Stmt} {rest:List Stmt} {t u:TS} {e:Expr} {te:TE} {pos:Pos}
def qKK:TS:=fun D σ H=>D.nx σ H
def qJa (t u:TS):TS:=fun D σ H=>t { D with nx:=u D } σ H
theorem qG4:PSs X [] qKK:=fun _ _ σ H _ I h=>wpAny_execs_nil ⟨σ,H,I,h⟩
theorem YH (h1:PS X st t) (h2:PSs X rest u):PSs X (st::rest) (qJa t u):=by
 intro pins s σ H D I h;refine wpAny_execs_cons (thn (h1 pins s σ H { D with nx:=u D } I h) fun f s1 q => ?_);cases f with
 |next =>obtain ⟨σ',H',I',q⟩:=q;exact h2 pins s1 σ' H' D I' q
 |ret v=>exact q
 |brk=>exact q
 |cont=>exact q
theorem qCF (h1:PS X st t):PSs X [st] t:=by
 intro pins s σ H D I h;refine wpAny_execs_cons (thn (h1 pins s σ H D I h) fun f s1 q => ?_);cases f with
 |next=>exact wpAny_execs_nil q
 |ret v=>exact q
 |brk=>exact q
 |cont=>exact q
theorem Inv.quiet {pins:List (Addr×Obj)} {σ:St} {H:Hp} {s:Shared} (I:Inv X pins σ H s):interactive X.env=false:=by simp [interactive,I.ok.kind]
def qHg (te:TE):TS:=fun D σ H=>te σ H fun _ H1=>D.nx σ H1
theorem jy (he:PE X e te) (hs:swapsWith e none pos.line X.env=pure false:=by rfl):PS X (.Expr e pos) (qHg te):=by intro pins s σ H D I h;exact wpAny_Expr_any (thn (he pins s σ H _ I h) fun v s1 ⟨x,H1,I1,r1,q1⟩=>⟨σ,H1,I1,q1⟩) I.quiet hs
def qKv (te:TE):TS:=fun D σ H=>te σ H D.rt
theorem qEO (he:PE X e te):PS X (.Return (some e) pos) (qKv te):=by intro pins s σ H D I h;exact wpAny_Return_some (thn (he pins s σ H _ I h) fun v s1 ⟨x,H1,I1,r1,q1⟩=>⟨x,σ,H1,I1,r1,q1⟩)
def qKy (c:TT) (t u:TS):TS:=fun D σ H=>c σ H fun b H1=>if b=true then t D σ H1 else u D σ H1
theorem qJt {c:Expr} {a b:List Stmt} {tc:TT} (hc:PT X c tc) (ha:PSs X a t) (hb:PSs X b u):PS X (.If c a b pos) (qKy tc t u):=by
 intro pins s σ H D I h;refine wpAny_If (thn (hc pins s σ H _ I h) fun d s1 ⟨H1,I1,q1⟩ => ?_);cases d with
 |true=>exact ha pins s1 σ H1 D I1 q1
 |false=>exact hb pins s1 σ H1 D I1 q1
end
abbrev TG:=V->St->Hp->(St->Hp->Prop)->Prop
abbrev TGs:=List V->St->Hp->(St->Hp->Prop)->Prop
def PG (X:Cx) (target:Expr) (t:TG):Prop :=
 ∀ (pins:List (Addr×Obj)) (s:Shared) (σ:St) (H:Hp) (v:V) (u:Value) (Q:St->Hp->Prop),Inv X pins σ H s->RelV v u->t v σ H Q ->
  wpAny (model X.prog X.w) X.A (assign target X.env u) (fun _ s' => ∃ σ' H',Inv X pins σ' H' s'∧Q σ' H') X.xe s
def PGs (X:Cx) (ts:List Expr) (t:TGs):Prop :=
 ∀ (pins:List (Addr×Obj)) (s:Shared) (σ:St) (H:Hp) (vs:List V) (us:List Value) (Q:St->Hp->Prop),Inv X pins σ H s->Vals vs us->t vs σ H Q ->
  wpAny (model X.prog X.w) X.A (assignInOrder ((assignEach ts X.env).map (·.2)) us) (fun _ s' => ∃ σ' H',Inv X pins σ' H' s'∧Q σ' H') X.xe s
abbrev qIv:=V->V->V->Hp->(Hp->Prop)->Prop
def qKP (X:Cx) (t:qIv):Prop :=
 ∀ (pins:List (Addr×Obj)) (s:Shared) (σ:St) (H:Hp) (o i v:V) (ov iv u:Value) (Q:Hp->Prop),Inv X pins σ H s->RelV o ov->RelV i iv->RelV v u->t o i v H Q ->
  wpAny (model X.prog X.w) X.A (setItem ov iv u) (fun _ s' => ∃ H',Inv X pins σ H' s'∧Q H') X.xe s
section
variable {X:Cx} {pos:Pos}
def qH3 (i:Nat):TG:=fun v σ H Q=>Q (σ.set i (some v)) H
theorem qG2 {i:Nat} {x:Str} (hN:X.N.Nodup) (hi:X.N[i]? = some x) (hx:Loc X.env.scope x) (hf:X.fn x=true∨X.env.scope.names.lookup x=some .local:=by first |exact .inl rfl |exact .inr rfl |assumption):PG X (.Name x pos) (qH3 i):=by intro pins s σ H v u Q I r h;exact wpAny_assign_Name (zw I hN hi hx r (fun s' I'=>⟨_,H,I',h⟩) hf)
def qLJ:TGs:=fun vs σ H Q=>vs=[]∧Q σ H
def qKb (t:TG) (u:TGs):TGs:=fun vs σ H Q => ∃ v r,vs=v::r∧t v σ H fun σ' H'=>u r σ' H' Q
theorem qHF:PGs X [] qLJ:=by intro pins s σ H vs us Q I r h;obtain ⟨e,h⟩:=h;subst e;cases r;exact assignInOrder_nil ⟨σ,H,I,h⟩
theorem qFB {e:Expr} {es:List Expr} {t:TG} {u:TGs} (h1:PG X e t) (h2:PGs X es u)
  (hs:(assignEach (e::es) X.env).map (·.2)=assign e X.env::(assignEach es X.env).map (·.2):=by rfl):PGs X (e::es) (qKb t u):=by
 intro pins s σ H vs us Q I r h;obtain ⟨v,vr,e1,h⟩:=h;subst e1;cases r with
 |cons r rr =>rw [hs];refine assignInOrder_cons (thn (h1 pins s σ H _ _ _ I r h) fun _ s1 ⟨σ1,H1,I1,q1⟩ => ?_);exact h2 pins s1 σ1 H1 _ _ Q I1 rr q1
def qKr (K:W.Frag) (n:Nat) (t:TGs):TG:=fun v σ H Q => ∃ a xs,v = .ref a∧SqT K H a xs∧xs.length=n∧t xs σ H Q
theorem qJf {es:List Expr} {k:Nat} {t:TGs} {n:Nat} (hc:X.calm=true) (h:PGs X es t)
  (hn:(assignEach es X.env).length=n:=by rfl) (hst:(assignEach es X.env).findIdx? (·.1)=none:=by rfl):PG X (.Tuple es k pos) (qKr X.K n t):=by
 intro pins s σ H v u Q I r hw;obtain ⟨a,xs,e1,hq,hl,hw⟩:=hw;subst e1;cases r;obtain ⟨its,rv,ht,hz⟩:=I.tuple hq;refine assign_Tuple_tuple (I.ok.hd hc) ht (by simp [hn,← hl,rv.length]) hst fun h' hx => ?_
 have I1:Inv X pins σ H { s with heap:=h' }:=I.kept (t':=s.toks) fun b o e=>hx b o (AV (AK e)) e;exact h pins _ σ H xs _ Q I1 (by simpa using rv) hw
def zM (to ti:TE) (t:qIv):TG:=fun v σ H Q=>to σ H fun o H1=>ti σ H1 fun i H2=>t o i v H2 fun H3=>Q σ H3
theorem qJB {o i:Expr} {to ti:TE} {t:qIv} (ho:PE X o to) (hi:PE X i ti) (hs:qKP X t)
  (ha:∀ v,assign (.Subscript o i pos) X.env v=(do
   let ov ← holding [v] (eval o X.env);let iv ← holding [v,ov] (eval i X.env)
   standAt pos
   holding [v,ov,iv] (setItem ov iv v)
   release [v,ov,iv] []):=by intro _;rfl):PG X (.Subscript o i pos) (zM to ti t):=by intro pins s σ H v u Q I r h;rw [ha];refine AA (Ae (thn (ho pins s σ H _ I h) fun ov s1 ⟨x,H1,I1,r1,q1⟩ => ?_));refine AA (Ae (thn (hi pins s1 σ H1 _ I1 q1) fun iv s2 ⟨y,H2,I2,r2,q2⟩ => ?_));refine AA (B6 (AA (Ae (thn (hs pins s2 σ H2 x y v ov iv u _ I2 r1 r2 r q2) fun _ s3 ⟨H3,I3,q3⟩ => ?_))));exact wpAny_release ⟨σ,H3,I3,q3⟩
def qKA (te:TE) (g:TG):TS:=fun D σ H=>te σ H fun x H1=>g x σ H1 D.nx
theorem qFd {tg e:Expr} {te:TE} {g:TG} (he:PE X e te) (hg:PG X tg g) (hs:swapsWithSole [tg] e pos.line X.env=pure false:=by rfl) (hw:swappedStores [tg] e X.env=pure none:=by rfl)
  (h1:(assignEach [tg] X.env).map (·.2)=[assign tg X.env]:=by rfl):PS X (.Assign [tg] e pos) (qKA te g):=by intro pins s σ H D I h;refine wpAny_Assign_stores (thn (he pins s σ H _ I h) fun v s1 ⟨x,H1,I1,r1,q1⟩ => ?_) hs hw;rw [h1];exact thn (hg pins s1 σ H1 x v _ I1 r1 q1) fun _ s2 q=>q
theorem qEu {i:Nat} {x:Str} {e:Expr} {te:TE} {pos':Pos} (hN:X.N.Nodup) (hi:X.N[i]? = some x) (hx:Loc X.env.scope x) (he:PE X e te) (hs:swapsWith e (some (.Name x pos')) pos.line X.env=pure false:=by rfl) (hf:X.fn x=true∨X.env.scope.names.lookup x=some .local:=by first |exact .inl rfl |exact .inr rfl |assumption) :
  PS X (.Assign [.Name x pos'] e pos) (qKA te (qH3 i)):=by intro pins s σ H D I h;refine wpAny_Assign_Name (thn (he pins s σ H _ I h) fun v s1 ⟨y,H1,I1,r1,q1⟩ => ?_) hs;exact zw I1 hN hi hx r1 (fun s2 I2=>⟨_,H1,I2,q1⟩) hf
def qK0 (i j:Nat) (ta:TA):TS:=fun D σ H=>ta σ H fun vs H1 => ∃ v w,vs=[v,w]∧D.nx ((σ.set i (some v)).set j (some w)) H1
theorem qJS {i j:Nat} {x y:Str} {a b:Expr} {ta:TA} {px py pt:Pos} {kt k2 pt2} (hc:X.calm=true) (hN:X.N.Nodup) (hi:X.N[i]? = some x) (hj:X.N[j]? = some y) (hij:i≠j)
  (hx:X.env.scope.names.lookup x=some .local) (hy:X.env.scope.names.lookup y=some .local) (ha:PA X [a,b] ta)
  (hw:swappedStores [.Tuple [.Name x px,.Name y py] kt pt] (.Tuple [a,b] k2 pt2) X.env=pure (some [x,y]))
  (hs:swapsWithSole [.Tuple [.Name x px,.Name y py] kt pt] (.Tuple [a,b] k2 pt2) pos.line X.env=pure false:=by rfl) :
  PS X (.Assign [.Tuple [.Name x px,.Name y py] kt pt] (.Tuple [a,b] k2 pt2) pos) (qK0 i j ta):=by
 intro pins s σ H D I h;rw [exec_Assign_arm];refine AA (B6 ?_);rw [hs];refine AA (AB ?_);rw [AJ (by decide)]
 refine AA (Tuple_ (thn (ha _ pins s σ H _ I h) fun us s1 ⟨vs,H1,I1,r1,q1⟩ => ?_));obtain ⟨v,w,e1,q1⟩:=q1;subst e1;obtain ⟨u1,u2,rfl,rv,rw'⟩:∃ u1 u2,us=[u1,u2]∧RelV v u1∧RelV w u2:=by
  cases r1 with
  |cons p q =>
   cases q with
   |cons p' q' =>cases q';exact ⟨_,_,rfl,p,p'⟩
 refine Az ?_ (by show 2≤sizeLine;decide)
 have I2:Inv X pins σ H1 { s1 with heap:=s1.heap.push { cls := .type "tuple",data := .seq [u1,u2].toArray } }:=I1.kept (t':=s1.toks) fun b o e=>AC _ e;rw [hw];refine AA (AB ?_);show wpAny (model X.prog X.w) X.A (do rule "assign.swapped-stores";let items ← unpackItems (.ref s1.heap.objs.size) 2 none;assignInOrder [fun v=>bindName X.env y v,fun v=>bindName X.env x v] items.reverse;pure Flow.next) _ _ _;refine AA (B7 (AA (unpackItems_tuple (items := #[u1,u2]) (I.ok.hd hc) (IsTup.new s1.heap _) fun h' hx' => ?_)));have I3:=I2.kept (h':=h') (t':=s1.toks) fun b o e=>hx' b o (AV (AK e)) e;show wpAny _ _ (assignInOrder [fun v=>bindName X.env y v,fun v=>bindName X.env x v] [u2,u1] >>= fun _=>pure Flow.next) _ _ _;refine AA (assignInOrder_cons (wpAny_bindName (zw I3 hN hj (.inl hy) rw' (fun s2 I4 => ?_) (.inr hy))));refine assignInOrder_cons (wpAny_bindName (zw I4 hN hi (.inl hx) rv (fun s3 I5=>assignInOrder_nil (AB ?_)) (.inr hx)));rw [List.set_comm _ _ (Ne.symm hij)] at I5;exact ⟨_,H1,I5,q1⟩
end
structure It where
 go:Nat->Hp->Prop
 yld:Nat->Hp->V->Hp->Prop
 stop:Nat->Hp->Prop
def yJ (X:Cx) (pins:List (Addr×Obj)) (H:Hp) (b:Addr):Prop :=
 H b=none∧b≠X.env.locals∧b ∉ X.fs∧(b∈X.ex∨X.s₀.heap.objs.size≤b)∧(∀ x c,X.env.cells.lookup x=some c->c≠b) ∧ ∀ p∈X.pn++pins,p.1≠b
theorem Inv.fpOk {X:Cx} {pins:List (Addr×Obj)} {σ:St} {H H':Hp} {s:Shared} {b:Addr} (I:Inv X pins σ H s) (hb:s.heap.objs.size≤b) (hn:H' b=none):yJ X pins H' b:=by
 refine ⟨hn,CM (Ao I.lt hb),I.nofs hb,.inr (Ac I.sz hb),fun x c e z => ?_,fun p hp z => ?_⟩
 ·obtain ⟨v,q⟩:=I.cell x c e;exact absurd (Ao q.lt (by rw [z];exact hb)) (Ba _)
 ·exact absurd (Ao (AK (I.pin p hp).1) (by rw [z];exact hb)) (Ba _)
theorem Inv.hndH {X:Cx} {pins:List (Addr×Obj)} {σ:St} {H:Hp} {s:Shared} (I:Inv X pins σ H s):EX.Hnd X.A s.heap:=fun v hv=>by obtain ⟨ea,oe,u,vs,e1,e2,e3⟩:=I.hnd v hv;exact ⟨ea,oe,vs,e1,(I.hok _ _ e2).1,e3⟩
theorem Inv.hndNe {X:Cx} {pins:List (Addr×Obj)} {σ:St} {H:Hp} {s:Shared} (I:Inv X pins σ H s) {it:Addr} (hn:H it=none):∀ v,X.A.handled=some v->v ≠ .ref it:=fun v hv z=>by obtain ⟨ea,oe,u,vs,e1,e2,e3⟩:=I.hnd v hv;rw [e1] at z;cases z;rw [hn] at e2;cases e2
structure Turn (P:Program) (w:World) (K:W.Frag) (A:Around) (tg:Expr) (J:It) (fp:List Addr) (it:Addr) (tn:Nat->Heap->Prop):Prop where
 mem:it∈fp
 obj:∀ i h,tn i h -> ∀ b∈fp,∃ o,h.get? b=some o ∧ ∀ v,o.data ≠ .cell v
 keep:∀ i h h',tn i h->(∀ b∈fp,∀ o,h.get? b=some o->h'.get? b=some o)->tn i h'
 item:∀ (X:Cx),X.prog=P->X.w=w->X.K=K->X.A=A -> ∀ (i:Nat) (pins:List (Addr×Obj)) (s:Shared) (σ:St) (H:Hp) (E:Value->Shared->Prop),Inv X pins σ H s->(∀ b∈fp,yJ X pins H b)->tn i s.heap->J.go i H ->
  wpAny (model P w) X.A (pyNext (.ref it)) (fun r s1 => ∃ u,r=some u ∧
   wpAny (model P w) X.A (letOwnedTupleGo tg (.ref it) u) (fun _ s2 => ∃ x H',Inv X pins σ H' s2∧RelV x u∧J.yld i H x H'∧tn (i + 1) s2.heap ∧ ∀ b∈fp,H' b=none) E s1) E s
 done:∀ (X:Cx),X.prog=P->X.w=w->X.K=K->X.A=A -> ∀ (i:Nat) (pins:List (Addr×Obj)) (s:Shared) (σ:St) (H:Hp) (E:Value->Shared->Prop),Inv X pins σ H s->(∀ b∈fp,yJ X pins H b)->tn i s.heap->J.stop i H ->
  wpAny (model P w) X.A (pyNext (.ref it)) (fun r s1=>r=none∧Inv X pins σ H s1) E s
 self:∀ (A:Around) (i:Nat) (s:Shared) (Q:Value->Shared->Prop) (E:Value->Shared->Prop),tn i s.heap->Q (.ref it) s->wpAny (model P w) A (pyIter (.ref it)) Q E s
abbrev TI:=St->Hp->(It->Hp->Prop)->Prop
def PIE (X:Cx) (pins:List (Addr×Obj)) (σ:St) (tg:Expr) (R:It->Hp->Prop) (itv:Value) (s2:Shared):Prop :=
 ∃ (it:Addr) (fp:List Addr) (tn:Nat->Heap->Prop) (J:It) (H':Hp),itv = .ref it∧Inv X pins σ H' s2∧Turn X.prog X.w X.K X.A tg J fp it tn∧tn 0 s2.heap∧(∀ b∈fp,yJ X pins H' b)∧R J H'
def PI (X:Cx) (tg iter:Expr) (wi:TI):Prop :=
 ∀ (pins:List (Addr×Obj)) (s:Shared) (σ:St) (H:Hp) (R:It->Hp->Prop),Inv X pins σ H s->wi σ H R ->
  wpAny (model X.prog X.w) X.A (eval iter X.env) (fun v s1=>wpAny (model X.prog X.w) X.A (pyIter v) (PIE X pins σ tg R) X.xe s1) X.xe s
theorem qFt {M : Model} {A : Around} {E : Value->Shared->Prop} {s : Shared} {tg : Expr} {it : Addr} {u : Value} {o : Obj} {n : String} {vs : Array Value} {Q : Unit->Shared->Prop} (ho : s.heap.get? it=some o) (hc : o.cls = .type n) (hd : o.data = .fields vs)
    (hn : ["enumerate", "zip", "dict_itemiterator", "dict_reverseitemiterator", "odict_iterator", "itertools.zip_longest", "itertools.pairwise"].contains n=false) (hQ : Q () s) : wpAny M A (letOwnedTupleGo tg (.ref it) u) Q E s:=by
  unfold letOwnedTupleGo;cases tg <;> first
    |exact AB hQ
    |(cases u <;> first
        |exact AB hQ
        | (refine AA (wpAny_load ho ?_)
           rw [hc, hd];show wpAny M A (if (["enumerate", "zip", "dict_itemiterator", "dict_reverseitemiterator", "odict_iterator", "itertools.zip_longest", "itertools.pairwise"].contains n&&vs[0]? == some (rawInt _))=true then _ else _) Q E s;rw [AJ (by intro h; rw [hn, Ci] at h; cases h)]
           exact AB hQ))
def Itl (K:W.Frag) (a:Addr):It :=
 ⟨fun i H => ∃ xs x,SqL K H a xs∧xs[i]? = some x,fun i H x H'=>H'=H ∧ ∀ xs,SqL K H a xs->xs[i]? = some x,fun i H => ∃ xs,SqL K H a xs∧xs.length≤i⟩
def Itt (K:W.Frag) (a:Addr):It :=
 ⟨fun i H => ∃ xs x,SqT K H a xs∧xs[i]? = some x,fun i H x H'=>H'=H ∧ ∀ xs,SqT K H a xs->xs[i]? = some x,fun i H => ∃ xs,SqT K H a xs∧xs.length≤i⟩
def Itr (lo:Int) (n:Nat):It:=⟨fun i _=>i < n,fun i H x H'=>H'=H∧x = .int (lo + i),fun i _=>n≤i⟩
theorem qDV {P:Program} {w:World} {K:W.Frag} {A:Around} {tg:Expr} (a it:Addr):Turn P w K A tg (Itl K a) [it] it (fun i h=>h.IsListIter it a i) where
 mem:=by simp
 obj:=fun i h st b hb=>by
  have e:b=it:=by simpa using hb
  subst e;obtain ⟨o,e,c,d⟩:=st;exact ⟨o,e,fun v z=>by rw [d] at z;cases z⟩
 keep:=fun i h h' st k=>st.at fun o e=>k it (by simp) o e
 item:=by
  intro X hP hw hK _ i pins s σ H E I hf st hg;subst hP hw hK;obtain ⟨xs,x,hq,hx⟩:=hg;obtain ⟨its,rv,p,hz⟩:=I.list hq;obtain ⟨u,hu,ru⟩:=rv.get hx;obtain ⟨f0,f1,f2,f3,f4,f5⟩:=hf it (by simp)
  refine wpAny_pyNext_list_item st p.isList (x:=u) (by simpa using hu) fun h' st' sb => ?_
  have I1:Inv X pins σ H { s with heap:=h' }:=I.turned (t':=s.toks) (fun b o hb e=>(sb.2 b hb).trans e) f0 f1 f3 f4 f5;obtain ⟨o,e,c,d⟩:=id st';exact ⟨u,rfl,qFt (s:={ s with heap:=h' }) e c d (by decide) ⟨x,H,I1,ru,⟨rfl,fun ys hy=>by rw [I.list_inj hy hq];exact hx⟩,st',fun b hb=>(hf b hb).1⟩⟩
 done:=by
  intro X hP hw hK _ i pins s σ H E I hf st hg;subst hP hw hK;obtain ⟨xs,hq,hx⟩:=hg;obtain ⟨its,rv,p,hz⟩:=I.list hq;obtain ⟨f0,f1,f2,f3,f4,f5⟩:=hf it (by simp)
  have hl:=rv.length;exact EX.list_end I.hndH st p.isList (by simp;omega) (I.hndNe f0) fun h' eb=>⟨rfl,I.turned (t':=s.toks) (fun b o hb e=>eb b o hb e) f0 f1 f3 f4 f5⟩
 self:=fun _ _ _ _ _ st h=>wpAny_pyIter_listiter st h
theorem qBZ {P:Program} {w:World} {K:W.Frag} {A:Around} {tg:Expr} (a it:Addr):Turn P w K A tg (Itt K a) [it] it (fun i h=>h.IsTupleIter it a i) where
 mem:=by simp
 obj:=fun i h st b hb=>by
  have e:b=it:=by simpa using hb
  subst e;obtain ⟨o,e,c,d⟩:=st;exact ⟨o,e,fun v z=>by rw [d] at z;cases z⟩
 keep:=fun i h h' st k=>st.at fun o e=>k it (by simp) o e
 item:=by
  intro X hP hw hK _ i pins s σ H E I hf st hg;subst hP hw hK;obtain ⟨xs,x,hq,hx⟩:=hg;obtain ⟨its,rv,p,hz⟩:=I.tuple hq;obtain ⟨u,hu,ru⟩:=rv.get hx;obtain ⟨f0,f1,f2,f3,f4,f5⟩:=hf it (by simp)
  refine wpAny_pyNext_tuple_item st (show s.heap.IsTuple a its.toArray from p) (x:=u) (by simpa using hu) fun h' st' sb => ?_
  have I1:Inv X pins σ H { s with heap:=h' }:=I.turned (t':=s.toks) (fun b o hb e=>(sb.2 b hb).trans e) f0 f1 f3 f4 f5;obtain ⟨o,e,c,d⟩:=id st';exact ⟨u,rfl,qFt (s:={ s with heap:=h' }) e c d (by decide) ⟨x,H,I1,ru,⟨rfl,fun ys hy=>by rw [I.tuple_inj hy hq];exact hx⟩,st',fun b hb=>(hf b hb).1⟩⟩
 done:=by
  intro X hP hw hK _ i pins s σ H E I hf st hg;subst hP hw hK;obtain ⟨xs,hq,hx⟩:=hg;obtain ⟨its,rv,p,hz⟩:=I.tuple hq;obtain ⟨f0,f1,f2,f3,f4,f5⟩:=hf it (by simp)
  have hl:=rv.length;exact EX.tuple_end I.hndH st (show s.heap.IsTuple a its.toArray from p) (by simp;omega) (I.hndNe f0) fun h' eb=>⟨rfl,I.turned (t':=s.toks) (fun b o hb e=>eb b o hb e) f0 f1 f3 f4 f5⟩
 self:=fun _ _ _ _ _ st h=>wpAny_pyIter_tupleiter st h
theorem qBo {P:Program} {w:World} {K:W.Frag} {A:Around} {tg:Expr} (it:Addr) (lo:Int) (n:Nat):Turn P w K A tg (Itr lo n) [it] it (fun i h=>IsRangeIter h it (lo + (i:Nat) * 1) ((n:Int) - (i:Nat)) 1) where
 mem:=by simp
 obj:=fun i h st b hb=>by
  have e:b=it:=by simpa using hb
  subst e;exact ⟨_,st,fun v z=>by
   have z':Data.fields _=Data.cell v:=z;cases z'⟩
 keep:=fun i h h' st k=>k it (by simp) _ st
 item:=by
  intro X hP hw hK _ i pins s σ H E I hf st hg;subst hP hw hK;obtain ⟨f0,f1,f2,f3,f4,f5⟩:=hf it (by simp)
  refine wpAny_pyNext_range_item st (by have:i < n:=hg;omega) fun h' st' sb => ?_
  have I1:Inv X pins σ H { s with heap:=h',toks:=s.toks + 1 }:=I.turned (fun b o hb e=>(sb.2 b hb).trans e) f0 f1 f3 f4 f5;have st2:IsRangeIter h' it (lo + ((i + 1:Nat):Int) * 1) ((n:Int) - ((i + 1:Nat):Int)) 1:=by
   have q1:lo + (i:Int) * 1 + 1=lo + ((i + 1:Nat):Int) * 1:=by omega
   have q2:(n:Int) - (i:Int) - 1=(n:Int) - ((i + 1:Nat):Int):=by omega
   rw [← q1,← q2];exact st'
  refine ⟨_,rfl,qFt (s:={ s with heap:=h',toks:=s.toks + 1 }) (n := "range_iterator") st2 rfl rfl (by decide) ⟨.int (lo + i),H,I1,⟨s.toks,?_⟩,⟨rfl,rfl⟩,st2,fun b hb=>(hf b hb).1⟩⟩
  rw [Int.mul_one]
 done:=by
  intro X hP hw hK _ i pins s σ H E I hf st hg;subst hP hw hK;obtain ⟨f0,f1,f2,f3,f4,f5⟩:=hf it (by simp)
  exact EX.range_end I.hndH st (by have:n≤i:=hg;omega) fun h' eb=>⟨rfl,I.turned (t':=s.toks) (fun b o hb e=>eb b o e) f0 f1 f3 f4 f5⟩
 self:=fun _ _ _ _ _ st h=>wpAny_pyIter_rangeiter st h
end L2
namespace L2
open PySem PySem.Spec PyProof.Rows
section
variable {X:Cx} {tg:Expr}
theorem qAN {pins:List (Addr×Obj)} {σ:St} {H:Hp} {s:Shared} {R:It->Hp->Prop} {E:Value->Shared->Prop} {lo hi:Int} {t u v:Tok} {tk:Nat} (I:Inv X pins σ H s) (h1:-(2 ^ 62)≤lo) (h2:lo < 2 ^ 62) (h3:-(2 ^ 62)≤hi) (h4:hi < 2 ^ 62)
  (q:R (Itr lo (hi - lo).toNat) H):wpAny (model X.prog X.w) X.A (pyIter (.ref s.heap.objs.size)) (PIE X pins σ tg R) E { s with heap:=s.heap.push { cls := .type "range",data := .fields #[.int lo t,.int hi u,.int 1 v] },toks:=tk }:=by
 refine wpAny_pyIter_range (IsRange.new ..) (small_one h1 h2 h3 h4) ?_;have I1:Inv X pins σ H { s with heap:=s.heap.push { cls := .type "range",data := .fields #[.int lo t,.int hi u,.int 1 v] },toks:=tk }:=I.kept fun b o e=>AC _ e;refine ⟨(s.heap.push { cls := .type "range",data := .fields #[.int lo t,.int hi u,.int 1 v] }).objs.size,[(s.heap.push { cls := .type "range",data := .fields #[.int lo t,.int hi u,.int 1 v] }).objs.size],_,_,H,rfl,
  I1.kept (t':=tk) fun b o e=>AC _ e,qBo _ lo (hi - lo).toNat,?_,fun b hb => ?_,q⟩
 ·have e1:lo + ((0:Nat):Int) * 1=lo:=by simp
  have e2:(((hi - lo).toNat:Nat):Int) - ((0:Nat):Int)=Builtin.Range.rangeSize lo hi 1:=by rw [rangeSize_one];split <;> omega
  show IsRangeIter _ _ (lo + ((0:Nat):Int) * 1) ((((hi - lo).toNat:Nat):Int) - ((0:Nat):Int)) 1;rw [e1,e2];exact AT _ rfl
 ·have e:b=(s.heap.push { cls := .type "range",data := .fields #[.int lo t,.int hi u,.int 1 v] }).objs.size:=by simpa using hb
  subst e;exact I1.fpOk (AM _) (I1.hok.fresh (AM _))
def qKD (ta:TA):TI:=fun σ H R=>ta σ H fun vs H1 => ∃ j:Int,vs=[.int j] ∧ -(2 ^ 62)≤j∧j < 2 ^ 62∧R (Itr 0 j.toNat) H1
def qJ8 (ta:TA):TI:=fun σ H R=>ta σ H fun vs H1 => ∃ i j:Int,vs=[.int i,.int j]∧(-(2 ^ 62)≤i∧i < 2 ^ 62 ∧ -(2 ^ 62)≤j∧j < 2 ^ 62)∧R (Itr i (j - i).toNat) H1
theorem qDB {a:Expr} {ta:TA} {p pos:Pos} (hg:Gl X "range") (hm:X.mg "range" = none) (ha:PA X [a] ta) (hs:starEach [a] X.env=[(false,eval a X.env)]:=by rfl):PI X tg (.Call (.Name "range" p) [a] [] pos) (qKD ta):=by
 intro pins s σ H R I h;refine Call_ (zX I hg hm boot_range (Be (thn (ha pos pins s σ H _ I h) fun us s1 ⟨vs,H1,I1,r1,q1⟩ => ?_) hs rfl));obtain ⟨j,e,q1,q2,q⟩:=q1;subst e;cases r1 with
 |cons r rr =>cases rr;obtain ⟨t,rfl⟩:=r;exact call_range_1 (qAN I1 (by omega) (by omega) q1 q2 (by simpa using q))
theorem qDE {a b:Expr} {ta:TA} {p pos:Pos} (hg:Gl X "range") (hm:X.mg "range" = none) (ha:PA X [a,b] ta) (hs:starEach [a,b] X.env=[(false,eval a X.env),(false,eval b X.env)]:=by rfl) (hs2:starEach [b] X.env=[(false,eval b X.env)]:=by rfl) :
  PI X tg (.Call (.Name "range" p) [a,b] [] pos) (qJ8 ta):=by
 intro pins s σ H R I h;refine Call_ (zX I hg hm boot_range (Be (thn (ha pos pins s σ H _ I h) fun us s1 ⟨vs,H1,I1,r1,q1⟩ => ?_) (by rw [hs,hs2]) (by rw [hs2];rfl)))
 obtain ⟨i,j,e,⟨q1,q2,q3,q4⟩,q⟩:=q1;subst e;cases r1 with
 |cons r rr =>
  cases rr with
  |cons r' rr =>cases rr;obtain ⟨t,rfl⟩:=r;obtain ⟨t',rfl⟩:=r';exact call_range_2 (qAN I1 q1 q2 q3 q4 q)
def qK3 (wi:TI) (g:TG) (tb:TS):TS:=fun D σ H=>wi σ H fun J H1 => ∃ W:Nat->Nat->St->Hp->Prop,(∃ m,W 0 m σ H1) ∧ ∀ i m σ H,W i m σ H ->
 (J.stop i H∧D.nx σ H)∨(J.go i H ∧ ∃ N:St->Hp->Prop,(∀ σ' H',N σ' H' -> ∃ m',m' < m∧W (i + 1) m' σ' H') ∧ ∀ x H',J.yld i H x H'->g x σ H' fun σ2 H2=>tb { D with nx:=N,ct:=N,bk:=D.nx } σ2 H2)
def Ye (fp:List Addr) (h:Heap):List (Addr×Obj):=fp.filterMap fun b=>(h.get? b).map fun o=>(b,o)
theorem zR {fp:List Addr} {h:Heap} {b:Addr} {o:Obj} (hb:b∈fp) (e:h.get? b=some o):(b,o)∈Ye fp h:=Bw.mpr ⟨b,hb,by rw [e];rfl⟩
theorem qDW {fp:List Addr} {h:Heap} {p:Addr×Obj} (hp:p∈Ye fp h):p.1∈fp∧h.get? p.1=some p.2:=by
 obtain ⟨b,hb,e⟩:=Bw.mp hp;cases q:h.get? b with
 |none=>rw [q] at e;cases e
 |some o =>rw [q] at e;have e':(b,o)=p:=Ai e;subst e';exact ⟨hb,q⟩
theorem Inv.pinned {pins:List (Addr×Obj)} {σ:St} {H:Hp} {s:Shared} {fp:List Addr} (I:Inv X pins σ H s) (hf:∀ b∈fp,yJ X pins H b) (ho:∀ b∈fp,∃ o,s.heap.get? b=some o ∧ ∀ v,o.data ≠ .cell v):Inv X (pins++Ye fp s.heap) σ H s :=
 I.pins_of fun p hp=>(Ax.mp hp).elim (fun z=>I.pin p (A7 _ z)) fun z=>by obtain ⟨hb,e⟩:=qDW z;obtain ⟨f0,f1,f2,_⟩:=hf p.1 hb;obtain ⟨o,e',d⟩:=ho p.1 hb;rw [e] at e';cases e';exact ⟨e,f0,f1,f2,d⟩
theorem Inv.unpinned {pins pl:List (Addr×Obj)} {σ:St} {H:Hp} {s:Shared} (I:Inv X (pins++pl) σ H s):Inv X pins σ H s:=I.pins_of fun p hp=>I.pin p (A7 _ (CP _ hp))
end
end L2
namespace L2
open PySem PySem.Spec PyProof.Rows
abbrev R2:=V->V->Hp->VK->Prop
def OpR (X:Cx) (f:Value->Value->Sem Value) (r:R2):Prop :=
 ∀ (pins:List (Addr×Obj)) (s:Shared) (σ:St) (H:Hp) (x y:V) (v u:Value) (Q:VK),Inv X pins σ H s->RelV x v->RelV y u->r x y H Q ->
  wpAny (model X.prog X.w) X.A (f v u) (EP X pins σ Q) X.xe s
def UnR (X:Cx) (f:Value->Sem Value) (r:V->Hp->VK->Prop):Prop :=
 ∀ (pins:List (Addr×Obj)) (s:Shared) (σ:St) (H:Hp) (x:V) (v:Value) (Q:VK),Inv X pins σ H s->RelV x v->r x H Q ->
  wpAny (model X.prog X.w) X.A (f v) (EP X pins σ Q) X.xe s
def Wu (X:Cx) (f:Value) (r:List V->Hp->VK->Prop):Prop :=
 ∀ (pins:List (Addr×Obj)) (s:Shared) (σ:St) (H:Hp) (xs:List V) (us:List Value) (Q:VK),Inv X pins σ H s->Vals xs us->r xs H Q ->
  wpAny (model X.prog X.w) X.A (call f us) (EP X pins σ Q) X.xe s
def qLI (X:Cx) (r:V->Hp->(Bool->Hp->Prop)->Prop):Prop :=
 ∀ (pins:List (Addr×Obj)) (s:Shared) (σ:St) (H:Hp) (x:V) (v:Value) (Q:Bool->Hp->Prop),Inv X pins σ H s->RelV x v->r x H Q ->
  wpAny (model X.prog X.w) X.A (truthy v) (TP X pins σ Q) X.xe s
def tOp (r:R2) (ta tb:TE):TE:=fun σ H Q=>ta σ H fun x H1=>tb σ H1 fun y H2=>r x y H2 Q
def tUn (r:V->Hp->VK->Prop) (ta:TE):TE:=fun σ H Q=>ta σ H fun x H1=>r x H1 Q
def rI (C:Int->Int->Prop) (g:Int->Int->V):R2:=fun x y H Q => ∃ i j,x = .int i∧y = .int j∧C i j∧Q (g i j) H
def rI0 (g:Int->Int->V):R2:=fun x y H Q => ∃ i j,x = .int i∧y = .int j∧Q (g i j) H
def rU (g:Int->V):V->Hp->VK->Prop:=fun x H Q => ∃ i,x = .int i∧Q (g i) H
section
variable {X:Cx} {a b c:Expr} {ta tb tc:TE} {pos:Pos}
theorem qII (ha:PE X a ta) (hb:PE X b tb) {pins:List (Addr×Obj)} {s:Shared} {σ:St} {H:Hp} {R:V->V->Hp->Prop} (I:Inv X pins σ H s)
  (h:ta σ H fun x H1=>tb σ H1 fun y H2=>R x y H2) {Q:Value->Shared->Prop} {f:Value->Value->Sem Value}
  (hf:∀ v u s2 x y H2,Inv X pins σ H2 s2->RelV x v->RelV y u->R x y H2->wpAny (model X.prog X.w) X.A (f v u) Q X.xe s2) :
  wpAny (model X.prog X.w) X.A (eval a X.env) (fun v s₁=>wpAny (model X.prog X.w) X.A (eval b X.env) (fun u s₂=>wpAny (model X.prog X.w) X.A (f v u) Q X.xe s₂) X.xe s₁) X.xe s:=by refine thn (ha pins s σ H _ I h) fun v s1 ⟨x,H1,I1,r1,q1⟩ => ?_;refine thn (hb pins s1 σ H1 _ I1 q1) fun u s2 ⟨y,H2,I2,r2,q2⟩ => ?_;exact hf v u s2 x y H2 I2 r1 r2 q2
theorem qHi {op:Operator} {r:R2} (ho:OpR X (binaryOp op) r) (ha:PE X a ta) (hb:PE X b tb):PE X (.BinOp a op b pos) (tOp r ta tb):=by intro pins s σ H Q I h;exact wpAny_BinOp (qII ha hb I h fun v u s2 x y H2 I2 rx ry q=>ho pins s2 σ H2 x y v u Q I2 rx ry q)
theorem qKY {op:UnaryOp} {r:V->Hp->VK->Prop} (ho:UnR X (unaryOp op) r) (ha:PE X a ta):PE X (.UnaryOp op a pos) (tUn r ta):=by intro pins s σ H Q I h;exact UnaryOp_ (thn (ha pins s σ H _ I h) fun v s1 ⟨x,H1,I1,r1,q1⟩=>ho pins s1 σ H1 x v Q I1 r1 q1)
theorem opI {f:Value->Value->Sem Value} {C:Int->Int->Prop} {g:Int->Int->Int}
  (rule:∀ (i j:Int) (t u:Tok) (s:Shared) (Q:Value->Shared->Prop) (E:Value->Shared->Prop),C i j->Q (.int (g i j) s.toks) { s with toks:=s.toks + 1 }->wpAny (model X.prog X.w) X.A (f (.int i t) (.int j u)) Q E s) :
  OpR X f (rI C fun i j => .int (g i j)):=by intro pins s σ H x y v u Q I rx ry h;obtain ⟨i,j,rfl,rfl,hc,q⟩:=h;obtain ⟨t,rfl⟩:=rx;obtain ⟨t',rfl⟩:=ry;exact rule i j t t' s _ _ hc ⟨.int (g i j),H,I.tok _,⟨_,rfl⟩,q⟩
theorem qKg {f:Value->Value->Sem Value} {g:Int->Int->Int}
  (rule:∀ (i j:Int) (t u:Tok) (s:Shared) (Q:Value->Shared->Prop) (E:Value->Shared->Prop),Q (.int (g i j) s.toks) { s with toks:=s.toks + 1 }->wpAny (model X.prog X.w) X.A (f (.int i t) (.int j u)) Q E s) :
  OpR X f (rI0 fun i j => .int (g i j)):=by intro pins s σ H x y v u Q I rx ry h;obtain ⟨i,j,rfl,rfl,q⟩:=h;obtain ⟨t,rfl⟩:=rx;obtain ⟨t',rfl⟩:=ry;exact rule i j t t' s _ _ ⟨.int (g i j),H,I.tok _,⟨_,rfl⟩,q⟩
theorem qH7 {f:Value->Value->Sem Value} {g:Int->Int->Bool}
  (rule:∀ (i j:Int) (t u:Tok) (s:Shared) (Q:Value->Shared->Prop) (E:Value->Shared->Prop),Q (.bool (g i j)) s->wpAny (model X.prog X.w) X.A (f (.int i t) (.int j u)) Q E s) :
  OpR X f (rI0 fun i j => .bl (g i j)):=by intro pins s σ H x y v u Q I rx ry h;obtain ⟨i,j,rfl,rfl,q⟩:=h;obtain ⟨t,rfl⟩:=rx;obtain ⟨t',rfl⟩:=ry;exact rule i j t t' s _ _ ⟨.bl (g i j),H,I,rfl,q⟩
def qLF (i j:Int):Prop:=0 < j∧j < 1073741824
def qLH (i j:Int):Prop:=0≤j∧j≤1000000∧i.natAbs < 2 ^ 64
def CMul (i j:Int):Prop:=(-(2 ^ 64) < i∧i < 2 ^ 64)∨(-(2 ^ 64) < j∧j < 2 ^ 64)
theorem CMul.ok {i j:Int} (h:CMul i j):IntMulOk i j:=by
 rcases h with ⟨h1,h2⟩ |⟨h1,h2⟩
 ·exact .of_left (intBits_le_64 h1 h2)
 ·exact .of_right (intBits_le_64 h1 h2)
theorem qJU:OpR X (binaryOp .Add) (rI0 fun i j => .int (i + j)):=qKg fun _ _ _ _ _ _ _ q=>add_int q
theorem qIx:OpR X (binaryOp .Sub) (rI0 fun i j => .int (i - j)):=qKg fun _ _ _ _ _ _ _ q=>sub_int q
theorem qI4:OpR X (binaryOp .Mult) (rI CMul fun i j => .int (i * j)):=opI fun _ _ _ _ _ _ _ hc q=>mul_int q hc.ok
theorem qHD:OpR X (binaryOp .FloorDiv) (rI qLF fun i j => .int (i / j)):=opI fun i j _ _ _ _ _ hc q=>by have h1:(0:Int) < j:=hc.1;have h2:j < 1073741824:=hc.2;exact floordiv_int (by omega) (by rw [Int.fdiv_eq_ediv_of_nonneg i (by omega)];exact q) (.inl (PyProof.noPylong_small (by omega)))
theorem qIc:OpR X (binaryOp .Mod) (rI (fun _ j=>0 < j) fun i j => .int (i % j)):=opI fun i j _ _ _ _ _ hc q=>by have h1:(0:Int) < j:=hc;exact mod_int' (by omega) (by rw [Int.fmod_eq_emod_of_nonneg i (by omega)];exact q)
theorem qJi:OpR X (binaryOp .Pow) (rI qLH fun i j => .int (i ^ j.toNat)):=opI fun _ _ _ _ _ _ _ hc q=>pow_int_small hc.1 hc.2.1 hc.2.2 q
theorem unI {f:Value->Sem Value} {g:Int->Int}
  (rule:∀ (i:Int) (t:Tok) (s:Shared) (Q:Value->Shared->Prop) (E:Value->Shared->Prop),Q (.int (g i) s.toks) { s with toks:=s.toks + 1 }->wpAny (model X.prog X.w) X.A (f (.int i t)) Q E s) :
  UnR X f (rU fun i => .int (g i)):=by intro pins s σ H x v Q I rx h;obtain ⟨i,rfl,q⟩:=h;obtain ⟨t,rfl⟩:=rx;exact rule i t s _ _ ⟨.int (g i),H,I.tok _,⟨_,rfl⟩,q⟩
theorem qIL:UnR X (unaryOp .USub) (rU fun i => .int (-i)):=unI fun _ _ _ _ _ q=>neg_int q
theorem qHs:OpR X (compareOp .Lt) (rI0 fun i j => .bl (decide (i < j))):=qH7 fun _ _ _ _ _ _ _ q=>lt_int q
theorem yb:OpR X (compareOp .LtE) (rI0 fun i j => .bl (decide (i≤j))):=qH7 fun _ _ _ _ _ _ _ q=>le_int q
theorem qAh:OpR X (compareOp .Gt) (rI0 fun i j => .bl (decide (j < i))):=qH7 fun _ _ _ _ _ _ _ q=>gt_int q
theorem qBp (b:Expr) {op:CmpOp} (h:op ≠ .In:=by decide) (h2:op ≠ .NotIn:=by decide):behindInMarks op b=false:=by
 have e1:(op==CmpOp.In)=false:=by cases op <;> first |rfl |exact absurd rfl h
 have e2:(op==CmpOp.NotIn)=false:=by cases op <;> first |rfl |exact absurd rfl h2
 cases b <;> simp [behindInMarks,e1,e2]
theorem qGG {op:CmpOp} {r:R2} (ho:OpR X (compareOp op) r) (ha:PE X a ta) (hb:PE X b tb) (hm:behindInMarks op b=false):PE X (.Compare a [op] [b] pos) (tOp r ta tb):=by intro pins s σ H Q I h;exact wpAny_Compare1 (qII ha hb I h fun v u s2 x y H2 I2 rx ry q=>ho pins s2 σ H2 x y v u Q I2 rx ry q) hm
def qHm (t:TE):TT:=fun σ H Q=>t σ H fun x H' => ∃ k,x = .bl k∧Q k H'
theorem qF2 {op:CmpOp} {r:R2} (ho:OpR X (compareOp op) r) (ha:PE X a ta) (hb:PE X b tb) (hm:behindInMarks op b=false):PT X (.Compare a [op] [b] pos) (qHm (tOp r ta tb)):=by
 intro pins s σ H Q I h;refine wpAny_isTrue_Compare1 (thn (ha pins s σ H _ I h) fun v s1 ⟨x,H1,I1,r1,q1⟩=>thn (hb pins s1 σ H1 _ I1 q1) fun u s2 ⟨y,H2,I2,r2,q2⟩ =>
  thn (ho pins s2 σ H2 x y v u _ I2 r1 r2 q2) fun c s3 ⟨z,H3,I3,r3,k,e,q3⟩ => ?_) hm
 subst e;cases r3;exact Bq ⟨H3,I3,q3⟩
def qDn (r r':R2) (ta tb tc:TE):TE:=fun σ H Q=>ta σ H fun x H1=>tb σ H1 fun y H2=>r x y H2 fun z H3 => ∃ k,z = .bl k ∧
 (if k=true then tc σ H3 fun w' H4=>r' y w' H4 Q else Q (.bl false) H3)
theorem qD9 {op op':CmpOp} {r r':R2} (ho:OpR X (compareOp op) r) (ho':OpR X (compareOp op') r') (ha:PE X a ta) (hb:PE X b tb) (hc:PE X c tc)
  (hm:lastMarks [op,op'] [b,c]=false:=by with_unfolding_all rfl):PE X (.Compare a [op,op'] [b,c] pos) (qDn r r' ta tb tc):=by
 intro pins s σ H Q I h;refine Compare_chain (thn (ha pins s σ H _ I h) fun v s1 ⟨x,H1,I1,r1,q1⟩=>chain_link (thn (hb pins s1 σ H1 _ I1 q1) fun u s2 ⟨y,H2,I2,r2,q2⟩ =>
  thn (ho pins s2 σ H2 x y v u _ I2 r1 r2 q2) fun d s3 ⟨z,H3,I3,r3,k,e,q3⟩ => ?_)) hm
 subst e;cases r3;refine Bq ?_;cases k with
 |false=>exact ite_ff ⟨.bl false,H3,I3,rfl,q3⟩
 |true=>exact ite_tt (chain_last (thn (hc pins s3 σ H3 _ I3 q3) fun w' s4 ⟨z',H4,I4,r4,q4⟩=>ho' pins s4 σ H4 y z' u w' Q I4 r2 r4 q4))
theorem qFp {op op':CmpOp} {r r':R2} (ho:OpR X (compareOp op) r) (ho':OpR X (compareOp op') r') (ha:PE X a ta) (hb:PE X b tb) (hc:PE X c tc)
  (hm:lastMarks [op,op'] [b,c]=false:=by with_unfolding_all rfl):PT X (.Compare a [op,op'] [b,c] pos) (qHm (qDn r r' ta tb tc)):=by
 intro pins s σ H Q I h;refine isTrue_chain (thn (ha pins s σ H _ I h) fun v s1 ⟨x,H1,I1,r1,q1⟩=>test_link (thn (hb pins s1 σ H1 _ I1 q1) fun u s2 ⟨y,H2,I2,r2,q2⟩ =>
  thn (ho pins s2 σ H2 x y v u _ I2 r1 r2 q2) fun d s3 ⟨z,H3,I3,r3,k,e,q3⟩ => ?_)) hm
 subst e;cases r3;refine Bq ?_;cases k with
 |false =>obtain ⟨k',e',q'⟩:=q3;cases e';exact ite_ff ⟨H3,I3,q'⟩
 |true =>refine ite_tt (test_last (thn (hc pins s3 σ H3 _ I3 q3) fun w' s4 ⟨z',H4,I4,r4,q4⟩=>thn (ho' pins s4 σ H4 y z' u w' _ I4 r2 r4 q4) fun d' s5 ⟨z2,H5,I5,r5,k2,e2,q5⟩ => ?_));subst e2;cases r5;exact Bq ⟨H5,I5,q5⟩
def qE7 (K:W.Frag) (x:V) (H:Hp) (k:Bool):Prop :=
 match x with
 | .non=>k=false
 | .bl b=>k=b
 | .int i=>k=(i != 0)
 | .str y=>y.length≤sizeLine∧k=((y.length:Int) != 0)
 | .byt y=>y.size≤sizeLine∧k=((y.size:Int) != 0)
 | .ref p=>(∃ xs,SqL K H p xs∧k = !xs.isEmpty)∨(∃ xs,SqT K H p xs∧k = !xs.isEmpty) ∨ ∃ kvs,H p=some (.dK kvs)∧k = !kvs.isEmpty
 |_=>False
theorem qBV {κ:Type} {kvs:List (κ×V)} {vs:List (κ×Value)} (r:KV kvs vs):(!vs.isEmpty) = !kvs.isEmpty:=by cases r <;> rfl
theorem YK {xs:List V} {its:List Value} (r:Vals xs its):(!its.toArray.isEmpty) = !xs.isEmpty:=by cases r <;> simp
theorem yS:(sizeLine:Nat) < 2 ^ 63:=by rw [Bi];decide
theorem qEF:qLI X (fun x H Q => ∃ k,qE7 X.K x H k∧Q k H):=by
 intro pins s σ H x v Q I rx h;obtain ⟨k,e,q⟩:=h;have hl:=yS;have hs:sizeLine=16777216:=Bi;cases x with
 |non =>cases rx;have e':k=false:=e;subst e';exact truthy_none ⟨H,I,q⟩
 |bl b =>cases rx;have e':k=b:=e;subst e';exact Bq ⟨H,I,q⟩
 |int i =>obtain ⟨t,rfl⟩:=rx;have e':k=(i != 0):=e;subst e';exact PySem.P.truthy_int ⟨H,I,q⟩
 |str y =>obtain ⟨t,rfl⟩:=rx;obtain ⟨hy,e'⟩:y.length≤sizeLine∧k=((y.length:Int) != 0):=e;subst e';exact PySem.P.truthy_str (by omega) ⟨H,I.tok _,q⟩
 |byt y =>obtain ⟨t,rfl⟩:=rx;obtain ⟨hy,e'⟩:y.size≤sizeLine∧k=((y.size:Int) != 0):=e;subst e';exact W.truthy_bytes (by omega) ⟨H,I.tok _,q⟩
 |ref p =>
  cases rx;have e':(∃ xs,SqL X.K H p xs∧k = !xs.isEmpty)∨(∃ xs,SqT X.K H p xs∧k = !xs.isEmpty) ∨ ∃ kvs,H p=some (.dK kvs)∧k = !kvs.isEmpty:=e;rcases e' with ⟨xs,hx,e'⟩ |⟨xs,hx,e'⟩ |⟨kvs,hx,e'⟩
  ·subst e';obtain ⟨its,r,pl,hz⟩:=I.list hx;have hlen:=r.length;exact wpAny_truthy_list pl.isList (by simp only [AO];omega) ⟨H,I.tok _,by rw [YK r];exact q⟩
  ·subst e';obtain ⟨its,r,pl,hz⟩:=I.tuple hx;have hlen:=r.length;exact truthy_tuple pl (by simp only [AO];omega) ⟨H,I.tok _,by rw [YK r];exact q⟩
  ·subst e';obtain ⟨hz,hS,vs,r,m⟩:kvs.length≤sizeLine∧(p==sysModules)=false ∧ ∃ vs,KV kvs vs∧s.heap.DictOf (JR X.prog X.w) p vs:=I.hok p _ hx;have hlen:kvs.length=vs.length:=Paired.length r;exact wpAny_truthy_dict hS m (by omega) ⟨H,I.tok _,by rw [qBV r];exact q⟩
 |_=>exact (show False from e).elim
theorem qEV (ha:PE X a ta) (he:∀ whole,isTrue a X.env whole=(do let v ← whole;standAt a.pos;holding [v] (truthy v))) :
  PT X a (fun σ H Q=>ta σ H fun x H' => ∃ k,qE7 X.K x H' k∧Q k H'):=by intro pins s σ H Q I h;exact isTrue_plain (thn (ha pins s σ H _ I h) fun v s1 ⟨x,H1,I1,r1,q1⟩=>qEF pins s1 σ H1 x v Q I1 r1 q1) (he _)
theorem qBl:OpR X (binaryOp .Add) (fun x y H Q => ∃ i j,x = .str i∧y = .str j∧i.length + j.length≤sizeLine∧Q (.str (i++j)) H):=by intro pins s σ H x y v u Q I rx ry h;obtain ⟨i,j,rfl,rfl,hz,q⟩:=h;obtain ⟨t,rfl⟩:=rx;obtain ⟨t',rfl⟩:=ry;exact add_str (fun t' tk=>⟨.str (i++j),H,I.tok _,⟨_,rfl⟩,q⟩) hz
theorem Zl {x:V} {us:List Value} (r:Vals [x] us):∃ u,us=[u]∧RelV x u:=by
 cases r with
 |cons r1 r2=>cases r2;exact ⟨_,rfl,r1⟩
theorem qCW {x y:V} {us:List Value} (r:Vals [x,y] us):∃ u w',us=[u,w']∧RelV x u∧RelV y w':=by
 cases r with
 |cons r1 r2 =>
  cases r2 with
  |cons r3 r4=>cases r4;exact ⟨_,_,rfl,r1,r3⟩
theorem qFj:Wu X (.builtin "abs") (fun xs H Q => ∃ i,xs=[.int i]∧Q (.int (if i < 0 then -i else i)) H):=by intro pins s σ H xs us Q I r h;obtain ⟨i,rfl,q⟩:=h;obtain ⟨u,rfl,t,rfl⟩:=Zl r;exact call_abs_int fun u tk=>⟨.int (if i < 0 then -i else i),H,I.tok _,⟨_,rfl⟩,q⟩
theorem qCq (hc:X.calm=true):Wu X (.builtin "max") (fun xs H Q => ∃ i j,xs=[.int i,.int j]∧Q (.int (if j > i then j else i)) H):=by
 intro pins s σ H xs us Q I r h;obtain ⟨i,j,rfl,q⟩:=h;obtain ⟨u,w',rfl,⟨t,rfl⟩,⟨t',rfl⟩⟩:=qCW r;refine max_two_ints (I.ok.hd hc) fun h' tk k=>⟨_,H,I.kept k,?_,q⟩;by_cases hj:j > i
 ·rw [AF hj,AF hj];exact ⟨_,rfl⟩
 ·rw [AJ hj,AJ hj];exact ⟨_,rfl⟩
theorem qDL (hc:X.calm=true):Wu X (.builtin "min") (fun xs H Q => ∃ i j,xs=[.int i,.int j]∧Q (.int (if j < i then j else i)) H):=by
 intro pins s σ H xs us Q I r h;obtain ⟨i,j,rfl,q⟩:=h;obtain ⟨u,w',rfl,⟨t,rfl⟩,⟨t',rfl⟩⟩:=qCW r;refine min_two_ints (I.ok.hd hc) fun h' tk k=>⟨_,H,I.kept k,?_,q⟩;by_cases hj:j < i
 ·rw [AF hj,AF hj];exact ⟨_,rfl⟩
 ·rw [AJ hj,AJ hj];exact ⟨_,rfl⟩
theorem qDT:Wu X (.type "int") (fun xs H Q=>(∃ i,xs=[.int i]∧Q (.int i) H) ∨ ∃ k,xs=[.bl k]∧Q (.int (if k then 1 else 0)) H):=by
 intro pins s σ H xs us Q I r h;rcases h with ⟨i,rfl,q⟩ |⟨k,rfl,q⟩
 ·obtain ⟨u,rfl,t,rfl⟩:=Zl r;exact call_int_int ⟨.int i,H,I,⟨_,rfl⟩,q⟩
 ·obtain ⟨u,rfl,r1⟩:=Zl r;cases r1;exact call_int_bool ⟨.int (if k then 1 else 0),H,I.tok _,⟨_,rfl⟩,q⟩
end
end L2
namespace L2
open PySem PySem.Spec PyProof.Rows
theorem qDN {h:Heap} {dx:Addr} {mA:Str->Option Value} (n:h.Ns1 dx mA):∃ od,h.get? dx=some od ∧ ∀ name,W.lookIn name od=some (mA name):=by
 obtain ⟨o,es,ep,ho,hd,hk,_,hm⟩:=n;refine ⟨o,ho,fun name => ?_⟩;have e:=hm name;unfold nsFind findBy at e;rw [← Array.find?_toList] at e;unfold W.lookIn;rw [hd];dsimp only;split
 ·rename_i y q;rw [q] at e;exact B5 some e
 ·rename_i q;rw [q] at e;have a:es.toList.any (·.refKey)=false:=by rw [List.any_eq_false];intro y hy;obtain ⟨z,t,hkey⟩:=hk y (CQ.mp hy);simp [DictEntry.refKey,hkey]
  have a':¬ es.toList.any (·.refKey)=true:=by rw [a];exact BO
  rw [AJ a'];exact B5 some e
theorem RelO.some_of {v:V} {o:Option Value} (r:RelO (some v) o):∃ u,o=some u∧RelV v u:=by
 cases o with
 |none=>exact (show False from r).elim
 |some u=>exact ⟨u,rfl,r⟩
theorem qDO {v:V} {u:Value} (r:RelV v u):W.handedIn u=true:=by
 cases v with
 |non=>cases (show u=Value.none from r);rfl
 |bl b=>cases (show u=Value.bool b from r);rfl
 |int i=>obtain ⟨t,e⟩:=(show ∃ t,u=Value.int i t from r);cases e;rfl
 |str x=>obtain ⟨t,e⟩:=(show ∃ t,u=Value.str x t from r);cases e;rfl
 |byt b=>obtain ⟨t,e⟩:=(show ∃ t,u=Value.bytes b t from r);cases e;rfl
 |flt b=>obtain ⟨t,e⟩:=(show ∃ t,u=Value.float b t from r);cases e;rfl
 |ref a=>cases (show u=Value.ref a from r);rfl
 |ty n=>cases (show u=Value.type n from r);rfl
def Zg (K:W.Frag) (C:Addr) (f:Str):Prop:=W.findIn K (.ref C) f=some none
section
variable {X:Cx} {pins:List (Addr×Obj)} {σ:St} {H:Hp} {s:Shared} {a C dx:Addr} {fs:List (Str×V)} {f:Str} {v:V} {A:Around} {E:Value->Shared->Prop}
theorem qGA {prog:Program} {w:World} {env:Env} {e:Expr} {f:Str} {pos:Pos} {s:Shared} {Q:Value->Shared->Prop} (hb:attributeBase e f env (eval e env)=eval e env)
  (h:wpAny (model prog w) A (eval e env) (fun o s₁=>wpAny (model prog w) A (getAttr o f true) Q E s₁) E s):wpAny (model prog w) A (eval (.Attribute e f pos) env) Q E s :=
 Attribute_any_ h (by rw [arm_eval_Attribute,hb])
end
end L2
namespace L2
open PySem PySem.Spec PyProof.Rows
structure Room (k:Nat) (A:Around):Prop where
 hd:1 < k->A.handled=none
 dp:A.depth + 3 * k + 5 < recursionLimit
 un:A.units + 16 * k + 200 < cLine
 gd:A.guards=some []
theorem Room.mono {j k:Nat} {A:Around} (r:Room k A) (h:j≤k):Room j A:=⟨fun z=>r.hd (by omega),by have:=r.dp;omega,by have:=r.un;omega,r.gd⟩
theorem Room.deeper {k:Nat} {A:Around} (r:Room (k + 1) A) (env:Env):Room k (A.deeper env) :=
 ⟨fun z=>r.hd (by omega),by have:=r.dp;show A.depth + 1 + 3 * k + 5 < _;omega,by have:=r.un;show A.units + 3 + 16 * k + 200 < _;omega,r.gd⟩
theorem qBO {A:Around} {C:Addr} {us:List Value} {kw:List (Str×Value)}:(A.under (.builtin "type.__call__" ⟨.ref C::us,kw⟩)).depth=A.depth + 1:=by first |rfl |simp [Around.under,Code.weight,Code.isCreation,Code.isGuard,Code.isCaller,Code.frames,Code.isFrame,guardIds]
theorem qBW {A:Around} {C:Addr} {us:List Value} {kw:List (Str×Value)}:(A.under (.builtin "type.__call__" ⟨.ref C::us,kw⟩)).units=A.units + 1:=by first |rfl |simp [Around.under,Code.cUnits,Code.frames,Code.isFrame]
theorem Room.make {k:Nat} {A:Around} (r:Room (k + 1) A) (C:Addr) (us:List Value) (kw:List (Str×Value)):Room k (A.under (.builtin "type.__call__" ⟨.ref C::us,kw⟩)) :=
 ⟨fun z=>r.hd (by omega),by have:=r.dp;rw [qBO];omega,by have:=r.un;rw [qBW];omega,r.gd⟩
theorem Room.depth {k:Nat} {A:Around} (r:Room k A):A.depth < recursionLimit:=by have:=r.dp;omega
theorem Room.units {k:Nat} {A:Around} (r:Room k A):A.units + 64 < cLine:=by have:=r.un;omega
def qJy:TA:=fun _ H Q=>Q [] H
def qFA (ta:TE) (tr:TA):TA:=fun σ H Q=>ta σ H fun x H1=>tr σ H1 fun xs H2=>Q (x::xs) H2
section
variable {X:Cx} {e:Expr} {es:List Expr} {te:TE} {t:TA} {pos:Pos}
theorem Z9:PA X [] qJy:=fun _ _ _ _ H Q I h=>Calls.spliced_nil ⟨[],H,I,.nil,h⟩
theorem zY (ha:PE X e te) (hr:PA X es t) (hs:starEach (e::es) X.env=(false,eval e X.env)::starEach es X.env:=by rfl):PA X (e::es) (qFA te t):=by intro pos pins s σ H Q I h;rw [hs];show wpAny _ _ (spliced ((false,eval e X.env)::backTo pos (starEach es X.env))) _ _ s;refine Cf (thn (ha pins s σ H _ I h) fun u s1 ⟨x,H1,I1,r1,q1⟩ => ?_);exact thn (hr pos pins s1 σ H1 _ I1 q1) fun us s2 ⟨xs,H2,I2,r2,q2⟩=>⟨x::xs,H2,I2,.cons r1 r2,q2⟩
def qLL (t:TA):TE:=fun σ H Q=>t σ H fun xs H1=>xs.length≤sizeLine ∧ ∀ p,H1 p=none->Q (.ref p) (upd H1 p (.tup xs))
def qLG (t:TA):TE:=fun σ H Q=>t σ H fun xs H1=>xs.length≤sizeLine ∧ ∀ p,H1 p=none->Q (.ref p) (upd H1 p (.lst xs))
theorem qIW {x1} (h:PA X es t):PE X (.Tuple es x1 pos) (qLL t):=by
 intro pins s σ H Q I hq;refine wpAny_Tuple_spliced (thn (h pos pins s σ H _ I hq) fun us s1 ⟨xs,H1,I1,r,z,q⟩=>⟨by rw [← r.length];exact z,?_⟩)
 have hf:H1 s1.heap.objs.size=none:=I1.hok.fresh (AM _);refine ⟨.ref s1.heap.objs.size,upd H1 s1.heap.objs.size (.tup xs),I1.laid (t':=s1.toks) (fun b u e=>AC _ e) (AM _) ?_,rfl,q _ hf⟩;exact ⟨z,us,r,⟨_,AT _ rfl,rfl,_,rfl⟩⟩
theorem qJD (h:PA X es t):PE X (.List es pos) (qLG t):=by
 intro pins s σ H Q I hq;refine wpAny_List_spliced (thn (h pos pins s σ H _ I hq) fun us s1 ⟨xs,H1,I1,r,z,q⟩=>⟨by rw [← r.length];exact z,?_⟩)
 have hf:H1 s1.heap.objs.size=none:=I1.hok.fresh (AM _);refine ⟨.ref s1.heap.objs.size,upd H1 s1.heap.objs.size (.lst xs),I1.laid (t':=s1.toks) (fun b u e=>AC _ e) (AM _) ?_,rfl,q _ hf⟩;exact ⟨z,us,0,r,AT _ rfl⟩
end
abbrev Sp:=List V->Hp->VK->XK->Prop
abbrev CXT:=List Env->Hp->Shared->XK->Value->Shared->Prop
structure Env0 (P:Program) (w:World) (K:W.Frag) (mg:Str->Option Value) (base:Heap) (A:Around) (outer:List Env) (s:Shared) (H:Hp):Prop where
 frames:A.frames=some outer
 mod:Mod K mg base
 bs:∀ b o,base.get? b=some o->s.heap.get? b=some o∧H b=none
 bsz:base.objs.size≤s.heap.objs.size
 funs:s.heap.FunFrames base outer
 frf:∀ b∈frs outer,H b=none
 hok:HOk P w H s.heap
 bare:AllBare s.gens
 hnd:HndH A H
def CE (outer:List Env) (P:Program) (w:World) (H:Hp) (s:Shared) (Q:VK) (u:Value) (s':Shared):Prop :=
 ∃ v H',s'.os=s.os∧AllBare s'.gens∧Un (frs outer) [] H H' s.heap s'.heap∧HOk P w H' s'.heap∧RelV v u∧Q v H'
def CR (CX:CXT) (outer:List Env) (P:Program) (w:World) (H:Hp) (s:Shared) (Q:VK) (E:XK) (r:Result) (s':Shared):Prop :=
 match r with
 | .ok (.ret u)=>CE outer P w H s Q u s'
 | .ok _=>False
 | .error e=>CX outer H s E e s'
structure FnOk (P:Program) (w:World) (K:W.Frag) (mg:Str->Option Value) (base:Heap) (CX:CXT) (k:Nat) (f:Addr) (fd:FuncData) (ps:List Str) (sp:Sp):Prop where
 len:∀ vs H Q E,sp vs H Q E->vs.length=ps.length
 run:∀ (A:Around) (outer:List Env) (s:Shared) (H:Hp) (args:Args) (us:List Value) (vs:List V) (Q:VK) (E:XK),Room k A->Env0 P w K mg base A outer s H->BindsTo s fd args (ps.zip us)->Vals vs us->sp vs H Q E ->
  codeAny (model P w) A (.call (.ref f) args) (CR CX outer P w H s Q E) s
theorem Env0.make {P:Program} {w:World} {K:W.Frag} {mg:Str->Option Value} {base:Heap} {A:Around} {outer:List Env} {s:Shared} {H:Hp} (e:Env0 P w K mg base A outer s H) (C:Addr) (us:List Value) (kw:List (Str×Value)) :
  Env0 P w K mg base (A.under (.builtin "type.__call__" ⟨.ref C::us,kw⟩)) outer s H:=⟨by first |exact e.frames |(simpa [Around.under,Code.envs,Code.isFrame,pushEnvs] using e.frames),e.mod,e.bs,e.bsz,e.funs,e.frf,e.hok,e.bare,e.hnd⟩
section
variable {X:Cx} {pins:List (Addr×Obj)} {σ:St} {H:Hp} {s s':Shared}
theorem Inv.env0 (I:Inv X pins σ H s):Env0 X.prog X.w X.K X.mg X.base X.A X.stack s H :=
 ⟨I.ok.frames,I.ok.mod,I.bs,Ac I.ok.bsz I.sz,I.stack,I.stkFree,I.hok,I.bare,I.hnd⟩
theorem Inv.after {Q:VK} {u:Value} (I:Inv X pins σ H s) (h:CE X.stack X.prog X.w H s Q u s'):EP X pins σ Q u s':=by obtain ⟨v,H',os,bare,un,hok,r,q⟩:=h;obtain ⟨hh,g,d,t,os'⟩:=s';obtain rfl:os'=s.os:=os;exact ⟨v,H',I.call (h':=hh) (g':=g) (d':=d) (t':=t) (ch:=[]) un hok bare (fun b z=>absurd z (by simp)),r,q⟩
end
def qKf (sp:Sp) (dvs:List V) (E:XK) (t:TA):TE:=fun σ H Q=>t σ H fun vs H1=>sp (vs++dvs) H1 Q E
def Binds (K:W.Frag) (fd:FuncData) (ps:List Str) (ds:List Value):Prop :=
 ∀ (s:Shared) (us:List Value),K.In s.heap->(us++ds).length=ps.length->BindsTo s fd ⟨us,[]⟩ (ps.zip (us++ds))
theorem Binds.all {K:W.Frag} {fd:FuncData} {ps:List Str} (h:∀ us:List Value,us.length=ps.length->bindArgs fd ⟨us,[]⟩=pure (ps.zip us)):Binds K fd ps []:=fun s us _ hl=>by rw [BA] at hl ⊢;exact .of_eq (h us hl)
def zx (CX:CXT) (X:Cx) (E:XK):Prop := ∀ (pins:List (Addr×Obj)) (σ:St) (H:Hp) (s:Shared) (e:Value) (s':Shared),Inv X pins σ H s->CX X.stack H s E e s'->X.xe e s'
section
variable {X:Cx} {CX:CXT} {k:Nat} {f C:Addr} {fd:FuncData} {ps:List Str} {sp:Sp} {dvs:List V} {ds:List Value} {E:XK} {x m:Str} {p pos apos:Pos} {e o:Expr} {es:List Expr} {ta:TE} {t:TA}
theorem qIg {pins:List (Addr×Obj)} {σ:St} {H:Hp} {s:Shared} {Q:VK} {us:List Value} {vs:List V} (F:FnOk X.prog X.w X.K X.mg X.base CX k f fd ps sp) (hr:Room k X.A) (hb:Binds X.K fd ps ds) (hd:Vals dvs ds) (hx:zx CX X E)
  (I:Inv X pins σ H s) (r:Vals vs us) (h:sp (vs++dvs) H Q E):wpAny (model X.prog X.w) X.A (call (.ref f) us) (EP X pins σ Q) X.xe s:=by
 have r2:Vals (vs++dvs) (us++ds):=r.append hd;have hl:(us++ds).length=ps.length:=by rw [← r2.length];exact F.len _ _ _ _ h
 refine Bk (codeAny_mono (F.run X.A X.stack s H ⟨us,[]⟩ (us++ds) (vs++dvs) Q E hr I.env0 (hb s us I.kIn hl) r2 h) fun r s' hq => ?_);cases r with
 |error e=>exact hx pins σ H s e s' I hq
 |ok fl =>
  cases fl with
  |ret u=>exact I.after hq
  |next=>exact False.elim hq
  |brk=>exact False.elim hq
  |cont=>exact False.elim hq
theorem qGq (F:FnOk X.prog X.w X.K X.mg X.base CX k f fd ps sp) (hr:Room k X.A) (hg:Gl X x) (hm:X.mg x=some (.ref f)) (hk:W.keepIn X.K (.ref f)=true) (hb:Binds X.K fd ps ds) (hd:Vals dvs ds) (hx:zx CX X E)
  (ha:PA X (e::es) t) (hdb:(x==("__debug__":Str))=false:=by decide) (he:starEach (e::es) X.env=(false,eval e X.env)::starEach es X.env:=by rfl) (hpl:(backTo pos (starEach es X.env)).any (·.1)=false:=by rfl) :
  PE X (.Call (.Name x p) (e::es) [] pos) (qKf sp dvs E t):=by intro pins s σ H Q I h;refine BY (Z2 I hg hm ?_ hdb);refine W.callWith_K (h₀:=X.base) I.ok.mod.kin hk (thn (ha pos pins s σ H _ I h) fun us s1 ⟨vs,H1,I1,r,q⟩=>⟨I1.kIn,?_⟩) he hpl;exact qIg F hr hb hd hx I1 r q
end
structure FnScope (N P:List Str) (sc:Scope):Prop where
 kind:sc.kind = .function
 co:sc.isCoroutine=false
 gen:sc.isGenerator=false
 nd:N.Nodup
 pre:N.take P.length=P
 par:∀ x∈P,sc.names.lookup x=some .local∨sc.names.lookup x=some .cell
 nofree:∀ y∈sc.names,y.2 ≠ .free
theorem jX {kindOf:Str->Option NameKind} {x:Str}:∀ {binds:List (Str×Value)} {m:Str->Option Value},(∀ v,(x,v) ∉ binds)->bindL kindOf binds m x=m x
 |[],_,_=>rfl
 |(n,v)::r,m,h=>by
  unfold bindL;rw [jX fun w hw=>h w (AE _ hw)];split
  ·have:x≠n:=by rintro rfl;exact h v AH
   simp [this]
  ·rfl
theorem jZ {kindOf:Str->Option NameKind} {x:Str}:∀ {binds:List (Str×Value)} {m:Str->Option Value},(∀ v,(x,v) ∉ binds)->bindC kindOf binds m x=m x
 |[],_,_=>rfl
 |(n,v)::r,m,h=>by
  unfold bindC;rw [jZ fun w hw=>h w (AE _ hw)];split
  ·rfl
  ·have:x≠n:=by rintro rfl;exact h v AH
   simp [this]
theorem ja {kindOf:Str->Option NameKind} {x:Str} {v:Value}:∀ {P:List Str} {vs:List Value} {i:Nat} {m:Str->Option Value},P.Nodup->P[i]? = some x->vs[i]? = some v->kindOf x=some .local ->
  bindL kindOf (P.zip vs) m x=some v
 |[],_,_,_,_,h,_,_=>by simp at h
 |_::_,[],_,_,_,_,h,_=>by simp at h
 |p::P,w::vs,0,m,nd,h1,h2,hk=>by simp at h1 h2;subst h1;subst h2;show bindL kindOf ((p,w)::P.zip vs) m p=_;unfold bindL;rw [jX fun v hv=>(BD.mp nd).1 (List.of_mem_zip hv).1,AF hk];simp
 |p::P,w::vs,i + 1,m,nd,h1,h2,hk=>by show bindL kindOf ((p,w)::P.zip vs) m x=_;unfold bindL;exact ja (i:=i) (BD.mp nd).2 (by simpa using h1) (by simpa using h2) hk
theorem jL {kindOf:Str->Option NameKind} {x:Str} {v:Value}:∀ {P:List Str} {vs:List Value} {i:Nat} {m:Str->Option Value},P.Nodup->P[i]? = some x->vs[i]? = some v->kindOf x≠some .local ->
  bindC kindOf (P.zip vs) m x=some v
 |[],_,_,_,_,h,_,_=>by simp at h
 |_::_,[],_,_,_,_,h,_=>by simp at h
 |p::P,w::vs,0,m,nd,h1,h2,hk=>by simp at h1 h2;subst h1;subst h2;show bindC kindOf ((p,w)::P.zip vs) m p=_;unfold bindC;rw [jZ fun v hv=>(BD.mp nd).1 (List.of_mem_zip hv).1,AJ hk];simp
 |p::P,w::vs,i + 1,m,nd,h1,h2,hk=>by show bindC kindOf ((p,w)::P.zip vs) m x=_;unfold bindC;exact jL (i:=i) (BD.mp nd).2 (by simpa using h1) (by simpa using h2) hk
def start (N:List Str) (vs:List V):St:=vs.map some++List.replicate (N.length - vs.length) none
def Qq (CX:CXT) (P:Program) (w:World) (K:W.Frag) (mg:Str->Option Value) (base:Heap) (N:List Str) (qual:Str) (scope:Scope) (f:Addr) (cd:Value) (A:Around) (outer:List Env) (s:Shared) (H:Hp) (E:XK):Cx where
 prog:=P
 w:=w
 K:=K
 mg:=mg
 base:=base
 A:=A.deeper (envOfC qual scope s.heap.objs.size f cd)
 N:=N
 s₀:=s
 H₀:=H
 env:=envOfC qual scope s.heap.objs.size f cd
 outer:=outer
 stack:=envOfC qual scope s.heap.objs.size f cd::outer
 ex:=[]
 calm:=A.handled.isNone
 fn:=fun _=>true
 pn:=[]
 xe:=fun e s'=>wpAny (model P w) (A.deeper (envOfC qual scope s.heap.objs.size f cd)) (leaving (envOfC qual scope s.heap.objs.size f cd) e) (fun _ s''=>CX outer H s E e s'') (fun e' s''=>CX outer H s E e' s'') s'
theorem J9 {sc:Scope} {n:Nat} {x:Str} (h:sc.names.lookup x=some .cell):∃ c,(cellsFrom n sc.names []).lookup x=some c:=by have q:=W.cellsFrom_some sc.names n [] (.inl h);exact Option.isSome_iff_exists.mp q
theorem qC1 {CX:CXT} {P:Program} {w:World} {K:W.Frag} {mg:Str->Option Value} {base:Heap} {N ps:List Str} {qual:Str} {scope:Scope} {f:Addr} {cd:Value} {A:Around} {outer:List Env} {s s1:Shared} {H:Hp} {E:XK} {us:List Value} {vs:List V}
  (S:FnScope N ps scope) (e0:Env0 P w K mg base A outer s H) (hl:vs.length=ps.length) (r:Vals vs us)
  (x:InCallC s s.heap.objs.size (bindL (envOfC qual scope s.heap.objs.size f cd).kindOf (ps.zip us) fun _=>none) (cellsFrom (s.heap.objs.size + 1) scope.names []) (bindC (envOfC qual scope s.heap.objs.size f cd).kindOf (ps.zip us) fun _=>none) s1) :
  Inv (Qq CX P w K mg base N qual scope f cd A outer s H E) [] (start N vs) H s1:=by
 have hpl:ps.length≤N.length:=by have:=B5 List.length S.pre;rw [Bl] at this;omega
 obtain ⟨h1,tk,rfl,hk⟩:=x.done;have noA:∀ b:Addr,b ∉ (Qq CX P w K mg base N qual scope f cd A outer s H E).ex:=fun b z=>absurd (show b∈([]:List Addr) from z) (by simp)
 refine ⟨⟨e0.mod,S.kind,rfl,rfl,AM _,fun y z c h1 h2 => ?_,fun y hy => ?_,fun y c _ h => ?_,fun z=>Option.isNone_iff_eq_none.mp z,Around.frames_deeper e0.frames,.inr ⟨rfl,rfl⟩,fun b z=>absurd z (noA b),e0.bs,e0.bsz,fun b _ _=>noA b,fun b z=>absurd z (noA b),e0.funs,e0.frf⟩,
  rfl,e0.bare,Un.kept hk,⟨_,x.toInCall.ns,fun i y v h1 h2 h3 => ?_⟩,fun y c h=>⟨_,x.cell y c h⟩,e0.hok.fresh (AM _),fun y c h => ?_,fun p hp=>absurd (show p∈([]:List (Addr×Obj)) from hp) (by simp),e0.hok.kept hk,?_,e0.hnd⟩
 ·exact name_of_addr x.apart (Bg h1) (Bg h2)
 ·have hy:scope.names.lookup y=some .cell∨scope.names.lookup y=some .free:=hy;rcases hy with hy |hy
  ·exact J9 hy
  ·exact absurd rfl (S.nofree _ (Bg hy))
 ·exact Ce (x.above y c (Bg h))
 ·have hi:i < vs.length:=by
   unfold start at h2;by_cases hi:i < vs.length
   ·exact hi
   ·rw [Aw (by simpa using hi)] at h2
    rw [Bs] at h2;split at h2 <;> cases h2
  have ha:vs[i]? = some v:=by
   unfold start at h2;rw [Ak (by simpa using hi),BG] at h2
   cases e:vs[i]? with
   |none=>rw [e] at h2;cases h2
   |some a=>rw [e] at h2;cases h2;rfl
  obtain ⟨u,hu,rv⟩:=r.get ha;have hp:ps[i]? = some y:=by rw [← S.pre,List.getElem?_take_of_lt (by omega)];exact h1
  have ndP:ps.Nodup:=by rw [← S.pre];exact S.nd.sublist (List.take_sublist _ _)
  refine ⟨u,rv,?_⟩;rcases S.par y (Ar hp) with k |k
  ·exact .inl ⟨k,ja ndP hp hu k⟩
  ·obtain ⟨c,e⟩:=J9 (n:=s.heap.objs.size + 1) k;refine .inr ⟨.inl k,c,e,?_⟩;have q:=x.cell y c e;rw [jL ndP hp hu (by show scope.names.lookup y≠_;rw [k];decide)] at q
   exact q
 ·exact e0.hok.fresh (Ce (x.above y c (Bg h)))
 ·unfold start;show _=N.length;rw [AZ,AI,List.length_replicate];omega
theorem qHd {CX:CXT} {P:Program} {w:World} {K:W.Frag} {mg:Str->Option Value} {base:Heap} {k:Nat} {f:Addr} {name qual:Str} {params:Arguments} {body:List Stmt} {scope:Scope} {dV kV doc pm cdv ct oc:Value} {an od:Option Addr}
  {osl:Array (Option Value)} {N ps:List Str} {sp:Sp} (lk:K.lookup f=some ⟨oc,od,.func (W.fnOf name qual params body scope dV kV doc pm an cdv ct),osl⟩) (hcd:W.codeIn K cdv qual=true) (S:FnScope N ps scope)
  (len:∀ vs H Q E,sp vs H Q E->vs.length=ps.length)
  (hbody:∀ (A:Around) (outer:List Env) (s:Shared) (H:Hp) (vs:List V) (Q:VK) (E:XK),Room k (A.deeper (envOfC qual scope s.heap.objs.size f cdv))->(0 < k->A.handled=none)->sp vs H Q E ->
   ∃ t,PSs (Qq CX P w K mg base N qual scope f cdv A outer s H E) body t∧t { nx:=fun _ H'=>Q .non H',rt:=Q } (start N vs) H) :
  FnOk P w K mg base CX (k + 1) f (W.fnOf name qual params body scope dV kV doc pm an cdv ct) ps sp:=by
 refine ⟨len,fun A outer s H args us vs Q E hr e0 hb r hsp => ?_⟩;have hl:=len _ _ _ _ hsp;have KX:K.In s.heap:=e0.mod.kin.keeps fun b o e=>(e0.bs b o e).1;have lim:s.heap.NoLimit:=e0.mod.nolimit.keeps fun b o e=>(e0.bs b o e).1;have hkind:∀ y∈ps.zip us,scope.names.lookup y.1=some .local∨(scope.names.lookup y.1=some .cell∧((cellsFrom (s.heap.objs.size + 1) scope.names []).lookup y.1).isSome=true):=fun ⟨n,v⟩ hy=>by
  rcases S.par n (List.of_mem_zip hy).1 with q |q
  ·exact .inl q
  ·exact .inr ⟨q,W.cellsFrom_some _ _ _ (.inl q)⟩
 refine codeAny_call_function hr.depth (KX _ _ lk) rfl S.co S.gen rfl (W.codeRec_of KX hcd) (hb _ _ _ _ ?_);refine wpAny_newFunctionEnv_cells S.kind hkind fun env he s1 x => ?_;subst he;refine ⟨lim.keeps x.toInCall.keep,codeAny_func ?_⟩;obtain ⟨t,ht,hq⟩:=hbody A outer s H vs Q E (hr.deeper _) (fun z=>hr.hd (by omega)) hsp
 have I:Inv (Qq CX P w K mg base N qual scope f cdv A outer s H E) [] (start N vs) H s1:=qC1 S e0 hl r x;refine Bb (ht [] s1 (start N vs) H _ I hq) (fun fl s' hs => ?_) fun e s' hs=>hs;have fin:∀ {σ':St} {H':Hp} {v:V} {u:Value},Inv (Qq CX P w K mg base N qual scope f cdv A outer s H E) [] σ' H' s'->RelV v u->Q v H'->CE outer P w H s Q u s' :=
  fun {σ' H' v u} J rv q=>⟨v,H',J.os,J.bare,J.base,J.hok,rv,q⟩
 cases fl with
 |ret u =>obtain ⟨v,σ',H',J,rv,q⟩:=hs;exact fin J rv q
 |next =>obtain ⟨σ',H',J,q⟩:=hs;exact fin (v:=V.non) (u:=Value.none) J rfl q
 |brk =>obtain ⟨_,_,_,q⟩:=hs;exact False.elim q
 |cont =>obtain ⟨_,_,_,q⟩:=hs;exact False.elim q
end L2
namespace L2
open PySem PySem.Spec PyProof.Rows
section
variable {X:Cx} {x:Str} {p pos:Pos} {e:Expr} {es:List Expr} {t:TA} {id T:String} {r:List V->Hp->VK->Prop}
def tCB (r:List V->Hp->VK->Prop) (t:TA):TE:=fun σ H Q=>t σ H fun vs H1=>r vs H1 Q
theorem qD2 (hc:Wu X (.builtin id) r) (hg:Gl X x) (hm:X.mg x=none) (hv:bootBuiltins x=some (.builtin id)) (ha:PA X (e::es) t) (hn:x ≠ "__name__" := by decide) (hdb:(x==("__debug__":Str))=false:=by decide)
  (he:starEach (e::es) X.env=(false,eval e X.env)::starEach es X.env:=by rfl) (hpl:(backTo pos (starEach es X.env)).any (·.1)=false:=by rfl):PE X (.Call (.Name x p) (e::es) [] pos) (tCB r t):=by intro pins s σ H Q I h;refine BY (zX I hg hm hv ?_ hn hdb);exact PyProof.Rows.callWith_builtin1 (thn (ha pos pins s σ H _ I h) fun us s1 ⟨vs,H1,I1,r1,q1⟩=>hc pins s1 σ H1 vs us Q I1 r1 q1) he hpl
theorem jS (hc:Wu X (.type T) r) (hg:Gl X x) (hm:X.mg x=none) (hv:bootBuiltins x=some (.type T)) (ha:PA X (e::es) t) (hn:x ≠ "__name__" := by decide) (hdb:(x==("__debug__":Str))=false:=by decide)
  (he:starEach (e::es) X.env=(false,eval e X.env)::starEach es X.env:=by rfl) (hpl:(backTo pos (starEach es X.env)).any (·.1)=false:=by rfl):PE X (.Call (.Name x p) (e::es) [] pos) (tCB r t):=by intro pins s σ H Q I h;refine BY (zX I hg hm hv ?_ hn hdb);exact Be (thn (ha pos pins s σ H _ I h) fun us s1 ⟨vs,H1,I1,r1,q1⟩=>hc pins s1 σ H1 vs us Q I1 r1 q1) he hpl
end
end L2
namespace HT
open PySem PyProof.Rows
theorem rcLt_int (A:Around) (s:Shared) (a:Int) (t:Tok) (c:Int) (u:Tok) (prog:Program) (w:World) (E:Value->Shared->Prop) (Q:Value->Shared->Prop) (h:Q (.bool (decide (a < c))) s) :
  wpAny (model prog w) A (richCompare .Lt (.int a t) (.int c u)) Q E s :=
 (PyProof.Rows.lt_int h:wpAny (model prog w) A (compareOp .Lt (.int a t) (.int c u)) Q E s)
section
variable {prog:Program} {w:World} {A:Around} {E:Value->Shared->Prop} {s:Shared}
theorem cat_tup {t b:Addr} {vs ws:List Value} {Q:Value->Shared->Prop} (ht:IsTup s.heap t vs.toArray) (hb:IsTup s.heap b ws.toArray) (hv:vs≠[])
  (h1:ws=[]->Q (.ref t) s) (h2:ws≠[]->Q (.ref s.heap.objs.size) { s with heap:=s.heap.push { cls := .type "tuple",data := .seq (vs++ws).toArray } })
  (hsz:vs.length + ws.length≤sizeLine):wpAny (model prog w) A (binaryOp .Add (.ref t) (.ref b)) Q E s:=by
 obtain ⟨⟨cls,dd,data,sl⟩,ho,hc,n,hd⟩:=id ht;obtain ⟨⟨cls2,dd2,data2,sl2⟩,ho2,hc2,n2,hd2⟩:=id hb;simp only at hc hd hc2 hd2;subst hc hd hc2 hd2;have e:vs.toArray++ws.toArray=(vs++ws).toArray:=by simp
 by_cases hw:ws=[]
 ·exact concat_meets ⟨_,ho,rfl⟩ ⟨_,ho2,rfl⟩ noFill_tuple_add seq_tuple_add PySem.F.slot_tuple_add PySem.F.entry_tuple_add (PySem.F.args_tuple_add_2 _ _)
   (tuple_addW1 t b vs.toArray ws.toArray n n2 dd dd2 sl sl2 (by simpa using hv) (by simp [hw])) ⟨ho,ho2,h1 hw⟩
 ·refine concat_meets ⟨_,ho,rfl⟩ ⟨_,ho2,rfl⟩ noFill_tuple_add seq_tuple_add PySem.F.slot_tuple_add PySem.F.entry_tuple_add (PySem.F.args_tuple_add_2 _ _)
   (tuple_addW2 t b vs.toArray ws.toArray n n2 dd dd2 sl sl2 (by simpa using hv) (by simpa using hw) (by rw [AO,AO];exact hsz)) ⟨ho,ho2,?_⟩
  rw [e];exact h2 hw
def sIx (n d:Nat):Option Int->Nat
 |none=>d
 |some v=>if v < 0 then (v + (n:Int)).toNat else min v.toNat n
theorem sIx_nat (n d k:Nat):sIx n d (some (k:Int))=min k n:=by show (if (k:Int) < 0 then ((k:Int) + (n:Int)).toNat else min (k:Int).toNat n)=min k n;rw [AJ (by omega),BW]
theorem qJK (n d:Nat) (hd:d≤n) (o:Option Int):sIx n d o≤n:=by
 cases o with
 |none=>exact hd
 |some v =>
  show (if v < 0 then (v + (n:Int)).toNat else min v.toNat n)≤n;by_cases hv:v < 0
  ·rw [AF hv];omega
  ·rw [AJ hv];exact Nat.min_le_right _ _
theorem qCD (v:Int) (n d:Nat):(if v < 0 then max (v + (n:Int)) 0 else min v (n:Int))=((sIx n d (some v):Nat):Int):=by
 show (if v < 0 then max (v + (n:Int)) 0 else min v (n:Int))=(((if v < 0 then (v + (n:Int)).toNat else min v.toNat n):Nat):Int);by_cases hv:v < 0
 ·simp only [AF hv];omega
 ·simp only [AJ hv];omega
theorem qAv (lo hi:Option Int) (n:Nat):Builtin.Slice.sliceAdjust lo hi 1 (n:Int)=(((sIx n 0 lo:Nat):Int),((sIx n n hi:Nat):Int)):=by
 have h1:¬ ((1:Int) < 0):=by omega
 unfold Builtin.Slice.sliceAdjust;simp only [h1,Bm];refine Prod.ext ?_ ?_
 ·cases lo with
  |none=>rfl
  |some v=>exact qCD v n 0
 ·cases hi with
  |none=>rfl
  |some v=>exact qCD v n n
theorem qBi (i j:Nat):Builtin.Slice.slicePlaces (i:Int) (j:Int) 1=j - i:=by
 unfold Builtin.Slice.slicePlaces;have h1:(1:Int) > 0:=by omega
 simp only [h1,CY,Int.ediv_one];split <;> omega
theorem Wk {v:Value} {o:Option Int} {Q:Option Int->Shared->Prop} (p:IsPart v o) (h:Q o s):wpAny (model prog w) A (Builtin.Slice.slicePartIndex v) Q E s:=by
 cases p with
 |none=>exact slicePart_none h
 |int i t=>exact slicePart_int h
theorem sliceApplied_gen {sl:Addr} {vl vu:Value} {lo hi:Option Int} {n:Nat} {Q:Int×Int×Nat->Shared->Prop} (hs:s.heap.IsSliceOf sl vl vu .none) (pl:IsPart vl lo) (pu:IsPart vu hi)
  (h:Q (((sIx n 0 lo:Nat):Int),1,sIx n n hi - sIx n 0 lo) s):wpAny (model prog w) A (Builtin.Slice.sliceApplied (.ref sl) (pure (n:Int))) Q E s:=by
 obtain ⟨os,hos,hcs,hds⟩:=id hs;unfold Builtin.Slice.sliceApplied Builtin.Slice.sliceFields;refine AA (AA (Am hos hds (x:=vl) rfl (AA (Am hos hds (x:=vu) rfl (AA (Am hos hds (x := .none) rfl (AB ?_)))))));refine AA (slicePart_none ?_);show wpAny _ _ (if ((1:Int)==0)=true then _ else _) _ _ s;rw [AJ (by decide)]
 refine AA (Wk pl (AA (Wk pu (AA (AB ?_)))));show wpAny _ _ (match Builtin.Slice.sliceAdjust lo hi 1 (n:Int) with |(lo,hi)=>pure (lo,(1:Int),Builtin.Slice.slicePlaces lo hi 1)) _ _ s;rw [qAv lo hi n];show wpAny _ _ (pure (((sIx n 0 lo:Nat):Int),(1:Int),Builtin.Slice.slicePlaces ((sIx n 0 lo:Nat):Int) ((sIx n n hi:Nat):Int) 1)) _ _ s;rw [qBi];exact AB h
theorem qFM (xs:Array Value) (i k:Nat):((List.range k).filterMap fun (m:Nat)=>xs[((i:Int) + (m:Int) * 1).toNat]?).toArray=((xs.toList.drop i).take k).toArray:=by
 have e:(fun (m:Nat)=>xs[((i:Int) + (m:Int) * 1).toNat]?)=fun m=>xs[i + m]? := by
  funext m
  have:((i:Int) + (m:Int) * 1).toNat=i + m:=by omega
  rw [this]
 rw [e]
 have:=pick_run xs i k
 rw [List.filterMap_map] at this;have e2:((fun x=>xs[x]?) ∘ fun x=>i + x)=fun m=>xs[i + m]? := rfl;rw [e2] at this;rw [this]
theorem getItem_tuple_cut {t sl:Addr} {items:Array Value} {vl vu:Value} {lo hi:Option Int} {Q:Value->Shared->Prop} (ht:IsTup s.heap t items) (hs:s.heap.IsSliceOf sl vl vu .none) (pl:IsPart vl lo) (pu:IsPart vu hi)
  (hw:¬ (sIx items.size 0 lo=0∧sIx items.size items.size hi=items.size))
  (h:Q (.ref s.heap.objs.size) { s with heap:=s.heap.push { cls := .type "tuple",data := .seq ((items.toList.drop (sIx items.size 0 lo)).take (sIx items.size items.size hi - sIx items.size 0 lo)).toArray } })
  (hsz:items.size≤sizeLine):wpAny (model prog w) A (getItem (.ref t) (.ref sl)) Q E s:=by
 have htake:sizeOk (.seq ((items.toList.drop (sIx items.size 0 lo)).take (sIx items.size items.size hi - sIx items.size 0 lo)).toArray):=by show ((items.toList.drop (sIx items.size 0 lo)).take (sIx items.size items.size hi - sIx items.size 0 lo)).toArray.size≤sizeLine;rw [AO,Bl,CS,AW];omega
 have hj:sIx items.size items.size hi≤items.size:=qJK _ _ (AM _) hi;obtain ⟨os,hos,hcs,hds⟩:=id hs;have hTs:s.TypeIs (.ref sl) "slice" := ⟨os,hos,hcs⟩;unfold getItem;try with_reducible refine Ae ?_
 first |refine AA (AB ?_) |skip
 refine AA (wpAny_sequenceKey ht.typeIs (by decide) ?_)
 refine AA (Ay (name:=Str.ofString "__getitem__") ht.typeIs BH
  (A2 BH ht.typeIs entry_tuple_getitem ?_ (args_tuple_getitem _ _)))
 show wpAny _ _ (Builtin.Tuple.tupleItemsOf (.ref t) >>= _) _ _ s;refine AA (tupleItemsOf_ ht ?_);refine AA (BZ hTs ?_);rw [AF (by decide)]
 refine AA (sliceApplied_gen hs pl pu ?_);have hno:¬ ((((sIx items.size 0 lo:Nat):Int)==0&&(1:Int)==1&&(sIx items.size items.size hi - sIx items.size 0 lo)==items.size)=true):=by intro q;rw [Ab,Ab] at q;have q1:((sIx items.size 0 lo:Nat):Int)=0:=eq_of_beq q.1.1;have q2:sIx items.size items.size hi - sIx items.size 0 lo=items.size:=eq_of_beq q.2;exact hw ⟨by omega,by omega⟩
 show wpAny _ _ (if (((sIx items.size 0 lo:Nat):Int)==0&&(1:Int)==1&&(sIx items.size items.size hi - sIx items.size 0 lo)==items.size)=true then _ else _) _ _ s;rw [AJ hno,qFM];first
  |exact AA (m:=Builtin.Tuple.tupleExact _) (Az (AB ⟨_,rfl,AB h⟩) htake)
  |exact AA (m:=Builtin.Tuple.tupleExact _) (Az (AA (AB (AB ⟨_,rfl,AB h⟩))) htake)
  |exact AA (AA (m:=Builtin.Tuple.tupleExact _) (Az (AB (AB ⟨_,rfl,AB h⟩)) htake))
  |exact AA (AA (m:=Builtin.Tuple.tupleExact _) (Az (AB ⟨_,rfl,AB h⟩) htake))
end
end HT
namespace L2
open PySem PySem.Spec PyProof.Rows
abbrev TO:=St->Hp->(Option Int->Hp->Prop)->Prop
def PO (X:Cx) (e:Option Expr) (t:TO):Prop :=
 ∀ (pins:List (Addr×Obj)) (s:Shared) (σ:St) (H:Hp) (Q:Option Int->Hp->Prop),Inv X pins σ H s->t σ H Q ->
  wpAny (model X.prog X.w) X.A (evalPart e X.env) (fun u s' => ∃ o H',Inv X pins σ H' s'∧IsPart u o∧Q o H') X.xe s
def qGk:TO:=fun _ H Q=>Q none H
def qKn (t:TE):TO:=fun σ H Q=>t σ H fun x H1 => ∃ i,x = .int i∧Q (some i) H1
section
variable {X:Cx} {e:Expr} {te:TE} {lo hi:Option Expr} {tl th:TO} {pos p2:Pos}
theorem qF9:PO X none qGk:=by intro pins s σ H Q I h;rw [evalPart_none];exact AB ⟨none,H,I,.none,h⟩
theorem qHQ (h:PE X e te):PO X (some e) (qKn te):=by intro pins s σ H Q I hw;rw [evalPart_some];refine thn (h pins s σ H _ I hw) fun u s1 ⟨x,H1,I1,r1,q1⟩ => ?_;obtain ⟨i,rfl,q⟩:=q1;obtain ⟨t,rfl⟩:=r1;exact ⟨some i,H1,I1,.int i t,q⟩
def SlR (X:Cx) (r:V->Option Int->Option Int->Hp->VK->Prop):Prop :=
 ∀ (pins:List (Addr×Obj)) (s:Shared) (σ:St) (H:Hp) (x:V) (v vl vu:Value) (lo hi:Option Int) (sl:Addr) (Q:VK),Inv X pins σ H s->RelV x v->s.heap.IsSliceOf sl vl vu .none->IsPart vl lo->IsPart vu hi->r x lo hi H Q ->
  ∃ T id,typeLookup (.type T) "__getitem__" = pure (some (.builtin id))∧s.TypeIs v T∧wpAny (model X.prog X.w) X.A (getItem v (.ref sl)) (EP X pins σ Q) X.xe s
theorem SlR.or {r r':V->Option Int->Option Int->Hp->VK->Prop} (h:SlR X r) (h':SlR X r'):SlR X (fun x lo hi H Q=>r x lo hi H Q∨r' x lo hi H Q):=by
 intro pins s σ H x v vl vu lo hi sl Q I rx hs pl pu q;rcases q with q |q
 ·exact h pins s σ H x v vl vu lo hi sl Q I rx hs pl pu q
 ·exact h' pins s σ H x v vl vu lo hi sl Q I rx hs pl pu q
def tSl (r:V->Option Int->Option Int->Hp->VK->Prop) (te:TE) (tl th:TO):TE:=fun σ H Q=>te σ H fun x H1=>tl σ H1 fun l H2=>th σ H2 fun u H3=>r x l u H3 Q
theorem J8 {r:V->Option Int->Option Int->Hp->VK->Prop} (hr:SlR X r) (he:PE X e te) (hl:PO X lo tl) (hu:PO X hi th):PE X (.Subscript e (.Slice lo hi none p2) pos) (tSl r te tl th):=by intro pins s σ H Q I h;refine Subscript_ (thn (he pins s σ H _ I h) fun v s1 ⟨x,H1,I1,r1,q1⟩ => ?_);refine wpAny_Slice (thn (hl pins s1 σ H1 _ I1 q1) fun vl s2 ⟨l,H2,I2,pl,q2⟩=>thn (hu pins s2 σ H2 _ I2 q2) fun vu s3 ⟨u,H3,I3,pu,q3⟩ => ?_);rw [evalPart_none];refine AB ?_;have I4:Inv X pins σ H3 { s3 with heap:=s3.heap.push { cls := .type "slice",data := .fields #[vl,vu,.none] } }:=I3.kept (t':=s3.toks) fun b ob q=>AC _ q;obtain ⟨T,id,hT,ht,hg⟩:=hr pins { s3 with heap:=s3.heap.push { cls := .type "slice",data := .fields #[vl,vu,.none] } } σ H3 x v vl vu l u s3.heap.objs.size Q I4 r1 (Heap.IsSliceOf.new ..) pl pu q3;show wpAny (model X.prog X.w) X.A (subscriptTail e (.Slice lo hi none p2) v (.ref s3.heap.objs.size)) (EP X pins σ Q) X.xe { s3 with heap:=s3.heap.push { cls := .type "slice",data := .fields #[vl,vu,.none] } };exact tail_any (ops:=[.ref s3.heap.objs.size,v]) ht hT hg (by with_unfolding_all rfl)
def Y5 (xs:List V) (lo hi:Option Int):List V:=(xs.drop (HT.sIx xs.length 0 lo)).take (HT.sIx xs.length xs.length hi - HT.sIx xs.length 0 lo)
theorem yW (xs:List V) (lo hi:Option Int):(Y5 xs lo hi).length≤xs.length:=by unfold Y5;rw [Bl,CS];omega
def qKw (K:W.Frag):V->Option Int->Option Int->Hp->VK->Prop:=fun x lo hi H Q => ∃ a xs,x = .ref a∧SqT K H a xs ∧
 ¬ (HT.sIx xs.length 0 lo=0∧HT.sIx xs.length xs.length hi=xs.length) ∧ ∀ p,H p=none->Q (.ref p) (upd H p (.tup (Y5 xs lo hi)))
theorem sl_tup:SlR X (qKw X.K):=by
 intro pins s σ H x v vl vu lo hi sl Q I rx hs pl pu h;obtain ⟨a,xs,rfl,hx,hw,q⟩:=h;cases rx;obtain ⟨its,r,ht,hz⟩:=I.tuple hx;have hlen:its.toArray.size=xs.length:=by rw [AO];exact r.length.symm
 refine ⟨"tuple",_,PyProof.Rows.slot_tuple_getitem.lookup,ht.typeIs,?_⟩;refine HT.getItem_tuple_cut ht hs pl pu (by rw [hlen];exact hw) ?_ (by rw [hlen];exact hz)
 rw [hlen];refine ⟨.ref s.heap.objs.size,_,I.laid (t':=s.toks) (o := .tup (Y5 xs lo hi)) (fun b ob q=>AC _ q) (AM _) ?_,rfl,q _ (I.hok.fresh (AM _))⟩;exact ⟨Ac (yW xs lo hi) hz,_,(r.drop (HT.sIx xs.length 0 lo)).take (HT.sIx xs.length xs.length hi - HT.sIx xs.length 0 lo),IsTup.new _ _⟩
def qKV (K:W.Frag):R2:=fun x y H Q => ∃ a b xs ys,x = .ref a∧y = .ref b∧SqT K H a xs∧SqT K H b ys∧xs≠[]∧xs.length + ys.length≤sizeLine ∧
 (ys=[]->Q (.ref a) H)∧(ys≠[] -> ∀ p,H p=none->Q (.ref p) (upd H p (.tup (xs++ys))))
theorem Vals.nil_iff {xs:List V} {us:List Value} (r:Vals xs us):us=[] ↔ xs=[]:=by
 cases r with
 |nil=>simp
 |cons _ _=>simp
theorem qGe:OpR X (binaryOp .Add) (qKV X.K):=by
 intro pins s σ H x y v u Q I rx ry h;obtain ⟨a,b,xs,ys,rfl,rfl,ha,hb,hx,hz,q1,q2⟩:=h;cases rx;cases ry;obtain ⟨its,r1,p1,_⟩:=I.tuple ha;obtain ⟨its2,r2,p2,_⟩:=I.tuple hb;refine HT.cat_tup p1 p2 (fun z=>hx (r1.nil_iff.mp z)) (fun z=>⟨.ref a,H,I,rfl,q1 (r2.nil_iff.mp z)⟩) (fun z => ?_) (by rw [← r1.length,← r2.length];exact hz)
 refine ⟨.ref s.heap.objs.size,_,I.laid (t':=s.toks) (o := .tup (xs++ys)) (fun b ob q=>AC _ q) (AM _) ?_,rfl,q2 (fun w=>z (r2.nil_iff.mpr w)) _ (I.hok.fresh (AM _))⟩;exact ⟨by rw [AZ];exact hz,_,r1.append r2,IsTup.new _ _⟩
end
end L2
namespace L2
open PySem PySem.Spec PyProof.Rows
def ixN (n:Nat) (i:Int):Option Nat:=if 0≤i then (if i < n then some i.toNat else none) else if -(n:Int)≤i then some (i + n).toNat else none
def atI {α:Type} (xs:List α) (i:Int):Option α:=(ixN xs.length i).bind fun j=>xs[j]?
theorem qCA {n:Nat} {i:Int} {j:Nat} (h:ixN n i=some j):seqIndex? i n=some j∧j < n ∧ -(n:Int)≤i∧i < n:=by
 unfold ixN at h;by_cases h0:0≤i
 ·rw [AF h0] at h;by_cases h1:i < n
  ·rw [AF h1] at h;have e:i.toNat=j:=Ai h;exact ⟨by rw [seqIndex_of h0 h1,e],by omega,by omega,h1⟩
  ·rw [AJ h1] at h;cases h
 ·rw [AJ h0] at h;by_cases h1:-(n:Int)≤i
  ·rw [AF h1] at h;have e:(i + n).toNat=j:=Ai h;exact ⟨by rw [seqIndex_neg (by omega) h1,e],by omega,h1,by omega⟩
  ·rw [AJ h1] at h;cases h
theorem JS {α:Type} {xs:List α} {i:Int} {v:α} (h:atI xs i=some v):∃ j,seqIndex? i xs.length=some j∧xs[j]? = some v∧j < xs.length ∧ -(xs.length:Int)≤i∧i < xs.length:=by
 unfold atI at h;cases e:ixN xs.length i with
 |none=>rw [e] at h;cases h
 |some j =>rw [e] at h;obtain ⟨h1,h2,h3,h4⟩:=qCA e;exact ⟨j,h1,h,h2,h3,h4⟩
def qCO (b:Expr):Prop := ∀ o i,subscripted b false o i=operate [o,i] (getItem o i)
def IxR (X:Cx) (r:R2):Prop :=
 ∀ (value slice:Expr) (pins:List (Addr×Obj)) (s:Shared) (σ:St) (H:Hp) (x y:V) (v u:Value) (Q:VK),Inv X pins σ H s->RelV x v->RelV y u->r x y H Q ->
  subscripted slice false v u=operate [v,u] (getItem v u)->wpAny (model X.prog X.w) X.A (subscriptTail value slice v u) (EP X pins σ Q) X.xe s
def MtR (X:Cx) (id:String) (r:V->List V->Hp->VK->Prop):Prop :=
 ∀ (pins:List (Addr×Obj)) (s:Shared) (σ:St) (H:Hp) (x:V) (xs:List V) (v:Value) (us:List Value) (Q:VK),Inv X pins σ H s->RelV x v->Vals xs us->r x xs H Q ->
  wpAny (model X.prog X.w) X.A (call (.builtin id) (v::us)) (EP X pins σ Q) X.xe s
section
variable {X:Cx} {a b:Expr} {ta tb:TE} {pos:Pos}
theorem IxR.or {r r':R2} (h:IxR X r) (h':IxR X r'):IxR X (fun x y H Q=>r x y H Q∨r' x y H Q):=by
 intro value slice pins s σ H x y v u Q I rx ry q hs;rcases q with q |q
 ·exact h value slice pins s σ H x y v u Q I rx ry q hs
 ·exact h' value slice pins s σ H x y v u Q I rx ry q hs
theorem qKM {r:R2} (hr:IxR X r) (ha:PE X a ta) (hb:PE X b tb) (hs:qCO b):PE X (.Subscript a b pos) (tOp r ta tb):=by intro pins s σ H Q I h;exact Subscript_ (qII ha hb I h fun v u s2 x y H2 I2 rx ry q=>hr a b pins s2 σ H2 x y v u Q I2 rx ry q (hs _ _))
def qJz (K:W.Frag):R2:=fun x y H Q => ∃ p xs i v,x = .ref p∧y = .int i∧SqL K H p xs∧atI xs i=some v∧Q v H
def qKc (K:W.Frag):R2:=fun x y H Q => ∃ p xs i v,x = .ref p∧y = .int i∧SqT K H p xs∧atI xs i=some v∧Q v H
def qKX:R2:=fun x y H Q => ∃ z i c,x = .str z∧y = .int i∧z.length≤sizeLine∧atI z.cps.toList i=some c∧Q (.str ⟨#[c]⟩) H
theorem ix_list:IxR X (qJz X.K):=by
 intro value slice pins s σ H x y v u Q I rx ry h hs;obtain ⟨p,xs,i,z,rfl,rfl,hq,he,q⟩:=h;cases rx;obtain ⟨t,rfl⟩:=ry;obtain ⟨its,r,pl,hz⟩:=I.list hq;obtain ⟨j,h1,h2,h3,h4,h5⟩:=JS he;obtain ⟨w,ew,rw'⟩:=r.get h2;have hl:=r.length;have hn:=yS;have fin:EP X pins σ Q w s:=⟨z,H,I,rw',q⟩;by_cases h0:0≤i
 ·have hj:i.toNat=j:=by rw [seqIndex_of h0 h5] at h1;exact Ai h1
  exact item_listR pl.isList h0 (by omega) (by rw [hj];simpa using ew) fin hs
 ·have hj:(i + (its.toArray.size:Int)).toNat=j:=by
   rw [seqIndex_neg (by omega) h4] at h1
   rw [AO,← hl];exact Ai h1
  exact subscriptTail_builtinR (x:=w) pl.isList.typeIs slot_list_getitem.lookup
   (wpAny_getItem_list_neg (Q:=fun r s'=>r=w∧EP X pins σ Q r s') pl.isList (by omega) (by rw [AO] <;> omega) (by omega) (by rw [hj];simpa using ew) ⟨rfl,fin⟩) hs
theorem ix_tup:IxR X (qKc X.K):=by
 intro value slice pins s σ H x y v u Q I rx ry h hs;obtain ⟨p,xs,i,z,rfl,rfl,hq,he,q⟩:=h;cases rx;obtain ⟨t,rfl⟩:=ry;obtain ⟨its,r,pl,hz⟩:=I.tuple hq;obtain ⟨j,h1,h2,h3,h4,h5⟩:=JS he;obtain ⟨w,ew,rw'⟩:=r.get h2;have hl:=r.length;have hn:=yS;have fin:EP X pins σ Q w s:=⟨z,H,I,rw',q⟩;exact subscriptTail_builtinR (x:=w) pl.typeIs slot_tuple_getitem.lookup
  (getItem_tuple (j:=j) (Q:=fun r s'=>r=w∧EP X pins σ Q r s') pl (by omega) (by omega) (by rw [AO,← hl];exact h1) (by simpa using ew) ⟨rfl,fin⟩) hs
theorem qIj:IxR X qKX:=by
 intro value slice pins s σ H x y v u Q I rx ry h hs;obtain ⟨z,i,c,rfl,rfl,hz,he,q⟩:=h;obtain ⟨t,rfl⟩:=rx;obtain ⟨t',rfl⟩:=ry;obtain ⟨j,h1,h2,h3,h4,h5⟩:=JS he;have hl:z.cps.toList.length=z.length:=by simp [Str.length]
 rw [hl] at h1 h4 h5;have hn:=yS;exact tail_any (typeIs_str s z t) slot_str_getitem.lookup (getItem_str (c:=c) (by
  have e1:decide (i < -(2 ^ 63:Int))=false:=AX (by omega)
  have e2:decide (i ≥ 2 ^ 63)=false:=AX (by omega)
  rw [e1,e2,Bool.or_false]) (by rw [h1];simpa using h2) ⟨.str ⟨#[c]⟩,H,I.tok _,⟨_,rfl⟩,q⟩) hs
def rIx (K:W.Frag):R2:=fun x y H Q=>qJz K x y H Q∨qKc K x y H Q∨qKX x y H Q
theorem qIz:IxR X (rIx X.K):=ix_list.or (ix_tup.or qIj)
theorem qA2 (its:List Value) (n j:Nat) (u:Value):Obj.mapSeq (·.setIfInBounds j u) { cls := .type "list",data := .seq its.toArray n }={ cls := .type "list",data := .seq (its.set j u).toArray n }:=by simp [Obj.mapSeq]
theorem Inv.lst {pins:List (Addr×Obj)} {σ:St} {H:Hp} {s:Shared} {p:Addr} {xs:List V} (I:Inv X pins σ H s) (h:H p=some (.lst xs)) :
  ∃ (its:List Value) (n:Nat),Vals xs its∧s.heap.get? p=some { cls := .type "list",data := .seq its.toArray n }∧xs.length≤sizeLine:=by obtain ⟨z,its,n,r,e⟩:=I.hok p _ h;exact ⟨its,n,r,e,z⟩
theorem Inv.lstUpd {pins:List (Addr×Obj)} {σ:St} {H:Hp} {s:Shared} {p:Addr} {xs ys:List V} {its its':List Value} {n n':Nat} {f:Obj->Obj} (I:Inv X pins σ H s) (h:H p=some (.lst xs))
  (ho:s.heap.get? p=some { cls := .type "list",data := .seq its.toArray n }) (hf:f { cls := .type "list",data := .seq its.toArray n }={ cls := .type "list",data := .seq its'.toArray n' }) (r:Vals ys its') (hz:ys.length≤sizeLine) (t:Nat) :
  Inv X pins σ (upd H p (.lst ys)) { s with heap:=s.heap.update p f,toks:=t }:=by
 have e:(s.heap.update p f).get? p=some { cls := .type "list",data := .seq its'.toArray n' }:=by rw [As f ho (by rw [hf] <;> rfl),hf]
 refine I.write (x:=p) (e:=p) (by rw [h];trivial) (.inl rfl) (fun b u hb q=>(Aa _ _ (Ne.symm hb)).trans q) ⟨_,e⟩ ?_
 exact ⟨hz,its',n',r,e⟩
def qHk:V->V->V->Hp->(Hp->Prop)->Prop:=fun o i v H Q => ∃ p xs k j,o = .ref p∧i = .int k∧H p=some (.lst xs)∧ixN xs.length k=some j∧Q (upd H p (.lst (xs.set j v)))
theorem qFw:qKP X qHk:=by
 intro pins s σ H o i v ov iv u Q I ro ri rv h;obtain ⟨p,xs,k,j,rfl,rfl,hp,hj,q⟩:=h;cases ro;obtain ⟨t,rfl⟩:=ri;obtain ⟨its,n,r,ho,hz⟩:=I.lst hp;obtain ⟨h1,h2,h3,h4⟩:=qCA hj;have hl:=r.length;have hn:=yS;have I':Inv X pins σ (upd H p (.lst (xs.set j v))) { s with heap:=s.heap.update p (Obj.mapSeq (·.setIfInBounds j u)) } :=
  I.lstUpd hp ho (qA2 its n j u) (r.set rv j) (by rw [List.length_set];exact hz) s.toks
 by_cases h0:0≤k
 ·have hk:k.toNat=j:=by rw [seqIndex_of h0 h4] at h1;exact Ai h1
  exact W.ki_setAt ho h0 (by omega) (by rw [AO,← hl];exact h4) (by rw [hk];exact ⟨_,I',q⟩)
 ·have hk:(k + (its.toArray.size:Int)).toNat=j:=by
   rw [seqIndex_neg (by omega) h3] at h1
   rw [AO,← hl];exact Ai h1
  exact W.ki_setBack ho (by omega) (by rw [AO,← hl];exact h3) (by omega) (by rw [hk];exact ⟨_,I',q⟩)
theorem JM (lo hi:Option Int) (n:Nat):(sliceBounds lo hi none n).1=((HT.sIx n 0 lo:Nat):Int)∧(sliceBounds lo hi none n).2.1=((HT.sIx n n hi:Nat):Int)∧(sliceBounds lo hi none n).2.2=1:=by
 refine ⟨?_,?_,rfl⟩
 ·cases lo with
  |none=>simp [sliceBounds,HT.sIx]
  |some i =>
   simp only [sliceBounds,HT.sIx,Option.getD_none,show (1:Int) > 0 by decide,CY]
   by_cases h:i < 0
   ·simp only [h,CY] <;> omega
   ·simp only [h,Bm] <;> omega
 ·cases hi with
  |none=>simp [sliceBounds,HT.sIx]
  |some i =>
   simp only [sliceBounds,HT.sIx,Option.getD_none,show (1:Int) > 0 by decide,CY]
   by_cases h:i < 0
   ·simp only [h,CY] <;> omega
   ·simp only [h,Bm] <;> omega
theorem Y3 (its:List Value) (lo hi:Option Int):slicePick its.toArray lo hi none=((its.drop (HT.sIx its.length 0 lo)).take (HT.sIx its.length its.length hi - HT.sIx its.length 0 lo)).toArray:=by obtain ⟨h1,h2,h3⟩:=JM lo hi its.toArray.size;unfold slicePick;rw [h1,h2,h3];simp only [sliceRange_one,pick_run,AO] <;> rfl
def qKq (K:W.Frag):V->Option Int->Option Int->Hp->VK->Prop:=fun x lo hi H Q => ∃ a xs,x = .ref a∧SqL K H a xs ∧ ∀ p,H p=none->Q (.ref p) (upd H p (.lst (Y5 xs lo hi)))
theorem qGE:SlR X (qKq X.K):=by
 intro pins s σ H x v vl vu lo hi sl Q I rx hs pl pu h;obtain ⟨a,xs,rfl,hx,q⟩:=h;cases rx;obtain ⟨its,r,ht,hz⟩:=I.list hx;have hlen:=r.length;refine ⟨"list",_,slot_list_getitem.lookup,ht.isList.typeIs,?_⟩;refine wpAny_getItem_list_slice ht.isList hs pl pu .none (by simp) ?_ (by rw [AO] <;> omega)
 rw [Y3,← hlen];refine ⟨.ref s.heap.objs.size,_,I.laid (t':=s.toks) (o := .lst (Y5 xs lo hi)) (fun b ob q=>AC _ q) (AM _) ?_,rfl,q _ (I.hok.fresh (AM _))⟩;exact ⟨Ac (yW xs lo hi) hz,_,0,(r.drop (HT.sIx xs.length 0 lo)).take (HT.sIx xs.length xs.length hi - HT.sIx xs.length 0 lo),AT _ rfl⟩
theorem jz:Wu X (.builtin "len") (fun xs H Q => ∃ p ys,xs=[.ref p]∧(SqL X.K H p ys∨SqT X.K H p ys)∧Q (.int ys.length) H):=by
 intro pins s σ H xs us Q I r h;obtain ⟨p,ys,rfl,hq,q⟩:=h;obtain ⟨u,rfl,rx⟩:=Zl r;cases rx;have hn:=yS;rcases hq with hq |hq
 ·obtain ⟨its,r',pl,hz⟩:=I.list hq;have hlen:=r'.length;exact Calls.call_len_list pl.isList (by simp only [AO] <;> omega) ⟨.int ys.length,H,I.tok _,⟨s.toks + 1,by rw [AO,hlen]⟩,q⟩
 ·obtain ⟨its,r',pl,hz⟩:=I.tuple hq;have hlen:=r'.length;exact len_tuple pl (by simp only [AO] <;> omega) ⟨.int ys.length,H,I.tok _,⟨s.toks + 1,by rw [AO,hlen]⟩,q⟩
theorem JV:Wu X (.type "list") (fun xs H Q => ∃ p ys,xs=[.ref p]∧(SqL X.K H p ys∨SqT X.K H p ys) ∧ ∀ l,H l=none->Q (.ref l) (upd H l (.lst ys))):=by
 intro pins s σ H xs us Q I r h;obtain ⟨p,ys,rfl,hq,q⟩:=h;obtain ⟨u,rfl,rx⟩:=Zl r;cases rx;have fin:∀ (its:List Value),Vals ys its->ys.length≤sizeLine -> ∀ (h':Heap) (c':Nat),(∀ b o',s.heap.get? b=some o'->h'.get? b=some o') ->
   h'.get? s.heap.objs.size=some { cls := .type "list",dict:=none,data := .seq its.toArray c',slots := #[] }->EP X pins σ Q (.ref s.heap.objs.size) { s with heap:=h' }:=fun its r' hz h' c' kp e =>
  ⟨.ref s.heap.objs.size,_,I.laid (t':=s.toks) kp (AM _) (show ObjOk X.prog X.w _ h' _ (.lst ys) from ⟨hz,its,c',r',e⟩),rfl,q _ (I.hok.fresh (AM _))⟩
 rcases hq with hq |hq
 ·obtain ⟨its,r',pl,hz⟩:=I.list hq;have hlen:=r'.length;obtain ⟨o,ho,hc,n,hd⟩:=pl.isList;exact call_list_seq p (.inl rfl) ho hc hd (fun h' c' kp e=>fin its r' hz h' c' kp e) (by simp only [AO] <;> omega)
 ·obtain ⟨its,r',pl,hz⟩:=I.tuple hq;have hlen:=r'.length;obtain ⟨o,ho,hc,n,hd⟩:=pl;exact call_list_seq p (.inr rfl) ho hc hd (fun h' c' kp e=>fin its r' hz h' c' kp e) (by simp only [AO] <;> omega)
theorem Yw:Wu X (.type "tuple") (fun xs H Q => ∃ p ys,xs=[.ref p]∧((SqL X.K H p ys ∧ ∀ l,H l=none->Q (.ref l) (upd H l (.tup ys)))∨(SqT X.K H p ys∧Q (.ref p) H))):=by
 intro pins s σ H xs us Q I r h;obtain ⟨p,ys,rfl,h⟩:=h;obtain ⟨u,rfl,rx⟩:=Zl r;cases rx;rcases h with ⟨hq,q⟩ |⟨hq,q⟩
 ·obtain ⟨its,r',pl,hz⟩:=I.list hq;have hlen:=r'.length;refine call_tuple_list pl.isList (fun h' kp => ?_) (by simp only [AO] <;> omega)
  have I1:Inv X pins σ H { s with heap:=h' }:=I.kept (t':=s.toks) kp;have I2:Inv X pins σ (upd H h'.objs.size (.tup ys)) { s with heap:=h'.push { cls := .type "tuple",data := .seq its.toArray } } :=
   I1.laid (t':=s.toks) (fun b o e=>AC _ e) (AM _) (show ObjOk X.prog X.w _ _ _ (.tup ys) from ⟨hz,its,r',IsTup.new _ _⟩)
  exact ⟨.ref h'.objs.size,_,I2,rfl,q _ (I1.hok.fresh (AM _))⟩
 ·obtain ⟨its,r',pl,hz⟩:=I.tuple hq;exact call_tuple_same pl ⟨.ref p,H,I,rfl,q⟩
def tyV (K:W.Frag) (T:String) (x:V) (H:Hp):Prop:=match x with
 | .str _=>T = "str"
 | .int _=>T = "int"
 | .ref p=>(T = "list" ∧ ∃ xs,SqL K H p xs)∨(T = "tuple" ∧ ∃ o,K.lookup p=some o∧o.cls = .type "tuple" ∧ o.dict=none) ∨
   (T = "dict" ∧ ((∃ kvs,H p=some (.dK kvs)) ∨ ∃ kvs,H p=some (.dT kvs)))∨(T = "set" ∧ ∃ S n,H p=some (.set S n))
 |_=>False
theorem qIK {pins:List (Addr×Obj)} {σ:St} {H:Hp} {s:Shared} {T:String} {x:V} {v:Value} (I:Inv X pins σ H s) (r:RelV x v) (ty:tyV X.K T x H) :
  s.TypeIs v T ∧ ∀ a,v = .ref a -> ∃ ob,s.heap.get? a=some ob∧ob.dict=none:=by
 cases x with
 |str z =>obtain ⟨t,rfl⟩:=r;cases (show T = "str" from ty);exact ⟨typeIs_str s z t,fun _ e=>nomatch e⟩
 |int i =>obtain ⟨t,rfl⟩:=r;cases (show T = "int" from ty);exact ⟨typeIs_int s i t,fun _ e=>nomatch e⟩
 |ref p =>
  cases r;rcases ty with ⟨rfl,xs,hq⟩ |⟨rfl,o,hk,hc,hd⟩ |⟨rfl,hk⟩ |⟨rfl,S,n,hk⟩
  ·obtain ⟨its,_,pl,_⟩:=I.list hq;refine ⟨pl.isList.typeIs,fun a e => ?_⟩;cases e;obtain ⟨o,n,e,c,hd,_⟩:=pl;exact ⟨o,e,hd⟩
  ·refine ⟨⟨o,I.kIn p o hk,hc⟩,fun a e => ?_⟩;cases e;exact ⟨o,I.kIn _ o hk,hd⟩
  ·have z:∃ o,s.heap.get? p=some o∧o.ExactDict:=by
    rcases hk with ⟨kvs,hk⟩ |⟨kvs,hk⟩
    ·obtain ⟨_,_,_,_,o,_,_,e,ex,_⟩:=I.hok p _ hk;exact ⟨o,e,ex⟩
    ·obtain ⟨_,_,_,_,o,_,_,e,ex,_⟩:=I.hok p _ hk;exact ⟨o,e,ex⟩
   obtain ⟨o,e,ex⟩:=z;refine ⟨⟨o,e,ex.1⟩,fun a e2 => ?_⟩;cases e2;exact ⟨o,e,ex.2.1⟩
  ·obtain ⟨o,_,_,_,e,ex,_⟩:=I.hok p _ hk;refine ⟨⟨o,e,ex.1⟩,fun a e2 => ?_⟩;cases e2;exact ⟨o,e,ex.2.1⟩
 |_=>exact False.elim ty
def tBM (K:W.Frag) (T:String) (r:V->List V->Hp->VK->Prop) (to:TE) (t:TA):TE:=fun σ H Q=>to σ H fun x H1=>tyV K T x H1∧t σ H1 fun xs H2=>r x xs H2 Q
variable {o e:Expr} {es:List Expr} {to:TE} {t:TA} {name:Str} {apos cpos:Pos} {T id:String} {r:V->List V->Hp->VK->Prop}
theorem qFr (pa:PlainAttrs T) (slot:Slot T name id) (hty:typeOf (.builtin id)=pure (.type "method_descriptor")) (hm:MtR X id r) (ho:PE X o to) (ha:PA X (e::es) t)
  (hbase:attributeBase o name X.env (eval o X.env)=eval o X.env:=by rfl)
  (hfew:((backTo cpos (starEach (e::es) X.env)).all (fun x => !x.1)&&(backToKw cpos (keywordEach [] X.env)).all (fun x=>x.1.isSome)
   && decide ((e::es).length + ([]:List Keyword).length + (if ([]:List Keyword).isEmpty then 0 else 1) < 30))=true:=by rfl)
  (hline:(apos.endLine==cpos.line)=true:=by rfl) (hs:starEach (e::es) X.env=(false,eval e X.env)::starEach es X.env:=by rfl) (hplain:(backTo cpos (starEach es X.env)).any (·.1)=false:=by rfl) :
  PE X (.Call (.Attribute o name apos) (e::es) [] cpos) (tBM X.K T r to t):=by
 intro pins s σ H Q I h;refine wpAny_Call_method_late hbase hfew hline rfl (thn (ho pins s σ H _ I h) fun v s1 ⟨x,H1,I1,r1,ty,q1⟩ => ?_);obtain ⟨h1,h2⟩:=qIK I1 r1 ty;refine ⟨T,id,pa,slot,hty,h1,h2,?_⟩;have hA:=ha cpos pins s1 σ H1 _ I1 q1;rw [hs] at hA ⊢;refine Calls.callWith_builtin (by show (false || (backTo cpos (starEach es X.env)).any (·.1))=false;rw [hplain] <;> rfl) (Calls.evalArgs_plain ?_)
 exact thn hA fun us s2 ⟨vs,H2,I2,r2,q2⟩=>hm pins s2 σ H2 x vs v us Q I2 r1 r2 q2
end
end L2
namespace L2
open PySem PySem.Spec PyProof.Rows
def MtM (X:Cx) (id:String) (r:V->List V->Hp->VK->Prop):Prop :=
 ∀ (pins:List (Addr×Obj)) (s:Shared) (σ:St) (H:Hp) (x:V) (xs:List V) (v:Value) (us:List Value) (Q:VK),Inv X pins σ H s->RelV x v->Vals xs us->r x xs H Q ->
  wpAny (model X.prog X.w) X.A (call (.builtin id) (v::us)) (EP X pins σ Q) X.xe s
theorem Vals.one:∀ {x:V} {us:List Value},Vals [x] us -> ∃ u,us=[u]∧RelV x u
 |_,_,.cons r .nil=>⟨_,rfl,r⟩
theorem Vals.eraseIdx:∀ {xs:List V} {us:List Value} (i:Nat),Vals xs us->Vals (xs.eraseIdx i) (us.eraseIdx i)
 |_,_,_,.nil => .nil
 |_,_,0,.cons _ t=>t
 |_,_,i + 1,.cons r t => .cons r (Vals.eraseIdx i t)
theorem jY {α:Type}:∀ (l:List α) (i:Nat),(l.eraseIdx i).length≤l.length
 |[],_=>AM _
 |_::_,0=>CG _
 |_::r,i + 1=>Nat.succ_le_succ (jY r i)
section
variable {X:Cx} {pins:List (Addr×Obj)} {σ:St} {H:Hp} {s:Shared} {l b:Addr} {xs ys zs:List V}
theorem Inv.lset {its its':List Value} {n:Nat} {f:Array Value->Array Value} {t':Nat} (I:Inv X pins σ H s) (hH:H l=some (.lst xs))
  (e:s.heap.get? l=some { cls := .type "list",data := .seq its.toArray n }) (hf:f its.toArray=its'.toArray) (hv:Vals ys its') (hz:ys.length≤sizeLine) :
  Inv X pins σ (upd H l (.lst ys)) { s with heap:=s.heap.update l (Obj.mapSeq f),toks:=t' }:=by
 have q:=PySem.IsL.update e f;rw [hf] at q;refine I.write (x:=l) (e:=l) (by rw [hH];exact trivial) (.inl rfl) (fun b' u hb hu=>(Aa s.heap (Obj.mapSeq f) (Ne.symm hb)).trans hu) ⟨_,q⟩ ?_
 exact ⟨hz,its',_,hv,q⟩
theorem Inv.lnew {its:List Value} {t':Nat} (I:Inv X pins σ H s) (hv:Vals ys its) (hz:ys.length≤sizeLine) :
  Inv X pins σ (upd H s.heap.objs.size (.lst ys)) { s with heap:=s.heap.push { cls := .type "list",data := .seq its.toArray },toks:=t' } :=
 I.laid (fun _ _ q=>AC _ q) (AM _) ⟨hz,its,0,hv,AT _ rfl⟩
theorem Inv.fresh (I:Inv X pins σ H s):H s.heap.objs.size=none:=I.hok.fresh (AM _)
theorem Inv.lstM (I:Inv X pins σ H s) (hH:H l=some (.lst xs)):xs.length≤sizeLine ∧ ∃ (its:List Value) (n:Nat),Vals xs its∧xs.length=its.length∧s.heap.get? l=some { cls := .type "list",data := .seq its.toArray n }:=by obtain ⟨z,its,n,r,e⟩:=I.hok l _ hH;exact ⟨z,its,n,r,r.length,e⟩
end
section
variable {X:Cx}
def qGw:V->List V->Hp->VK->Prop:=fun x vs H Q => ∃ l xs y,x = .ref l∧vs=[y]∧H l=some (.lst xs)∧xs.length < sizeLine∧Q .non (upd H l (.lst (xs++[y])))
theorem jF:MtM X "list.append" qGw:=by
 intro pins s σ H x vs v us Q I rx rv h;obtain ⟨l,xs,y,rfl,rfl,hH,hz,q⟩:=h;cases rx;obtain ⟨u,rfl,ru⟩:=rv.one;obtain ⟨z,its,n,r,hl,e⟩:=I.lstM hH;refine call_meets F.slot_list_append ⟨_,e,rfl⟩ F.entry_list_append (F.args_list_append_2 _ _) (PySem.list_append l its.toArray n u (by rw [AO];omega)) ⟨e,?_⟩
 refine ⟨.non,_,I.lset (its':=its++[u]) hH e (by simp) (r.append (.cons ru .nil)) ?_,rfl,q⟩
 rw [AZ,Aq];omega
def qIe:V->List V->Hp->VK->Prop:=fun x vs H Q => ∃ l xs i k y,x = .ref l∧vs=[.int i]∧H l=some (.lst xs) ∧ -(2 ^ 63)≤i∧i < 2 ^ 63∧seqIndex? i xs.length=some k∧xs[k]? = some y∧Q y (upd H l (.lst (xs.eraseIdx k)))
theorem qD4:MtM X "list.pop" qIe:=by
 intro pins s σ H x vs v us Q I rx rv h;obtain ⟨l,xs,i,k,y,rfl,rfl,hH,h1,h2,hk,hy,q⟩:=h;cases rx;obtain ⟨u,rfl,ru⟩:=rv.one;obtain ⟨t,rfl⟩:=ru;obtain ⟨z,its,n,r,hl,e⟩:=I.lstM hH;obtain ⟨w,hw,rw'⟩:=r.get hy;refine call_meets F.slot_list_pop ⟨_,e,rfl⟩ F.entry_list_pop (F.args_list_pop_2 _ _)
  (MeetsSeq.list_pop_at l its.toArray n i t k w (fitsIndex_both h1 h2) (by rw [AO,← hl];exact hk) (by rw [← A0];exact hw) (by rw [AO];omega)) ⟨e,?_⟩
 refine ⟨y,_,I.lset (its':=its.eraseIdx k) hH e ?_ (r.eraseIdx k) ?_,rw',q⟩
 ·show its.toArray.eraseIdxIfInBounds k=(its.eraseIdx k).toArray;rw [List.eraseIdxIfInBounds_toArray]
 ·have:=jY xs k
  omega
end
end L2
namespace Att
open PySem PySem.W PySem.Calls PyProof.Rows
theorem yj {P:Params} {h:Heap}:∀ (ns:List Int) (vs:List Value),WellAll P h vs (ns.map WData.int)->IntsAre vs ns:=by
 intro ns;induction ns with
 |nil =>intro vs w;rw [List.map_nil] at w;cases w;exact .nil
 |cons n ns ih =>
  intro vs w;rw [An] at w;cases w with
  |cons a b =>cases a;exact .cons _ _ (ih _ b)
theorem qDY {l:OpenLaw} {n:Nat} (hn:l.most=some n) {P:Params} {h:Heap} {args:List WData} {vals:List Value}
  (hpre:l.row.toRowW.claim.pre args=true) (hwl:WellAll P h vals args) :
  ∃ a vs ns,vals=[Value.ref a]∧args=[WData.list (ns.map WData.int)]∧h.get? a=some { cls := .type "list",data := .seq vs.toArray }∧IntsAre vs ns∧ns.length≤n:=by
 have hsh:WShape.hasAll [] args [.list .int]=true:=(pre_splitW hpre).1;have hc:l.pre.holds [] { args:=args }=true:=(pre_splitW hpre).2;obtain ⟨d,r,rfl,h1,h2⟩:=hasAllW_cons hsh;obtain rfl:=hasAllW_nil h2;obtain ⟨xs,rfl,h3⟩:=hasW_list h1;obtain ⟨ns,rfl⟩:=items_int h3;have hlen:ns.length≤n:=by
  unfold OpenLaw.pre at hc;have h4:(WTm.not (.lt (.lit (.int (n:Int))) (.len (.arg 0)))).holds [] { args:=[.list (ns.map .int)] }=true:=by have h4:=(holds_andW hc).1;rw [hn] at h4;exact h4
  have h5:=condW_of h4 (w_not (w_lt w_lit (w_len_list (w_arg rfl))));rw [AI] at h5;refine Nat.le_of_not_lt fun q => ?_;have q':(n:Int) < ((ns.length:Nat):Int):=by omega
  first
   |(rw [Af q'] at h5;exact absurd h5 (by decide))
   |(simp at h5;omega)
 cases hwl with
 |cons w1 w2 =>
  cases w2;cases w1 with
  |list ho hall=>exact ⟨_,_,ns,rfl,rfl,ho,yj ns _ hall,hlen⟩
theorem qDI (l:OpenLaw) (args:List WData):l.row.toRowW.claim.post args (.bool true) args=true :=
 postW_of (r:=l.row.toRowW) (X:=(true==true))
  (show WShape.has [] (.bool true) .bool=true by first |rfl |decide |simp [WShape.has,WShape.arms,WShape.armsAll])
  (show (WTm.eq .res (.lit (.bool true))).value [] { args:=args,res:=some (.bool true),after:=args }=some (.bool (true==true)) from w_eq_bool (w_res rfl) w_lit) rfl
end Att
namespace L2
open PySem PySem.Spec PyProof.Rows
theorem je:∀ {vs:List Value} {ns:List Int},IntsAre vs ns->Vals (ns.map V.int) vs
 |_,_,.nil => .nil
 |_,_,.cons n t h => .cons ⟨t,rfl⟩ (je h)
def qJP (H:Hp):Prop := ∀ b,H b=none ∨ ∃ o xs,H b=some (.frz o (.lst xs))
theorem qEU {P:Program} {w:World} {K:W.Frag} {mg mb:Str->Option Value} {CX:CXT} {k:Nat} {fa a:Addr} {fd:FuncData} {x:Str} {sp:Sp} {s₁:Shared} {vs:List Value} {ns:List Int}
  (KX:K.In s₁.heap) (hns:s₁.heap.Ns mainGlobals mg) (hb:s₁.heap.Ns builtinsNs mb) (hbb:∀ x:Str,x ≠ "__name__" -> mb x=bootBuiltins x) (hlim:s₁.heap.NoLimit) (hg:s₁.gens = #[])
  (ha:s₁.heap.get? a=some { cls := .type "list",data := .seq vs.toArray }) (hi:IntsAre vs ns) (hl:ns.length≤sizeLine) (hr:Room k callerA)
  (F:∀ base:Heap,K.In base->base.Ns mainGlobals mg->FnOk P w K mg base CX k fa fd [x] sp) (hbind:∀ (s:Shared) (u:Value),BindsTo s fd ⟨[u],[]⟩ [(x,u)])
  (hsp:∀ H:Hp,qJP H->SqL K H a (ns.map V.int)->sp [.ref a] H (fun v _=>v = .bl true) fun _ _ _=>False)
  (hCX:∀ H e s',CX [] H s₁ (fun _ _ _=>False) e s'->False) :
  codeAny (model P w) callerA (.call (.ref fa) ⟨[.ref a],[]⟩) (fun r s'=>r = .ok (.ret (.bool true))∧OldK s₁.heap s'.heap∧s'.os=s₁.os∧AllBare s'.gens) s₁:=by
 have rv:=je hi;have lenV:=hi.length
 -- from an abstract heap in which nothing but the script may be tracked
 have core:∀ H:Hp,qJP H->SqL K H a (ns.map V.int)->HOk P w H s₁.heap->(∀ b,H b≠none->b=a)->(H a≠none->K.lookup a=none) ->
   codeAny (model P w) callerA (.call (.ref fa) ⟨[.ref a],[]⟩) (fun r s'=>r = .ok (.ret (.bool true))∧OldK s₁.heap s'.heap∧s'.os=s₁.os∧AllBare s'.gens) s₁:=by
  intro H hO hS hok hA hK;have base_of:∀ {b:Addr} {o:Obj},s₁.heap.get? b=some o->H b=none->(JK s₁.heap H).get? b=some o:=fun e n=>qDq e n;have noA:∀ {b:Addr} {o:Obj} {es:Array DictEntry} {ep:Nat},s₁.heap.get? b=some o->o.data = .dict es ep->H b=none:=fun {b o es ep} e d=>by
   cases q:H b with
   |none=>rfl
   |some u =>
    have e':b=a:=hA b (by rw [q];simp)
    subst e';rw [ha] at e;cases e;have d':Data.seq vs.toArray _=Data.dict es ep:=d;cases d'
  have nsK:∀ {b:Addr} {m:Str->Option Value},s₁.heap.Ns b m->(JK s₁.heap H).Ns b m:=fun {b m} ⟨o,es,ep,e,d,r⟩=>⟨o,es,ep,base_of e (noA e d),d,r⟩;have hKb:K.In (JK s₁.heap H):=fun b o e=>base_of (KX b o e) (by
   cases q:H b with
   |none=>rfl
   |some u =>
    have e':b=a:=hA b (by rw [q];simp)
    subst e';rw [hK (by rw [q];simp)] at e;cases e)
  have hM:Mod K mg (JK s₁.heap H):=⟨hKb,nsK hns,⟨mb,nsK hb,hbb⟩,let ⟨mc,h1,h2⟩:=hlim;⟨mc,nsK h1,h2⟩⟩
  have e0:Env0 P w K mg (JK s₁.heap H) callerA [] s₁ H:=⟨rfl,hM,fun b o e=>qGI e,Nat.le_of_eq (qDC _ _),trivial,fun b hb=>absurd (show b∈([]:List Addr) from hb) (by simp),hok,.of_eq hg,HndH.none rfl⟩
  refine codeAny_mono ((F _ hKb (nsK hns)).run callerA [] s₁ H ⟨[.ref a],[]⟩ [.ref a] [.ref a] _ _ hr e0 (hbind s₁ (.ref a)) (.cons rfl .nil) (hsp H hO hS)) fun r s' h => ?_;cases r with
  |error e=>exact (hCX H e s' h).elim
  |ok fl =>
   cases fl with
   |next=>exact False.elim h
   |brk=>exact False.elim h
   |cont=>exact False.elim h
   |ret u =>
    obtain ⟨v,H',os,bare,un,hok',r',q⟩:=h;have q':v = .bl true:=q;subst q';obtain rfl:u=Value.bool true:=r';refine ⟨rfl,OldK.of_keep fun b o e => ?_,os,bare⟩;cases q:H b with
    |none=>exact un.keep b o e q (by intro z;exact absurd (show b∈([]:List Addr) from z) (by simp)) (by simp)
    |some u =>
     rcases hO b with z |⟨ob,xs,z⟩
     ·rw [q] at z;cases z
     ·have z2:=un.frzs b ob _ z;obtain ⟨e1,_⟩:=hok b _ z;obtain ⟨e2,_⟩:=hok' b _ z2;rw [e] at e1;cases e1;exact e2
 cases hk:K.lookup a with
 |some o =>
  -- the script is one of the module's own objects
  have e:=KX a o hk;rw [ha] at e;cases e;refine core (fun _=>none) (fun _ => .inl rfl) (.inr ⟨_,vs.toArray,_,hk,rfl,rfl,rfl,by rw [AO,lenV];exact hl,by simpa using rv⟩) (fun b u z=>by have z':(none:Option HO)=some u:=z;cases z') (fun b z=>absurd rfl z) fun z=>absurd rfl z
 |none =>
  refine core (fun b=>if b=a then some (.frz { cls := .type "list",data := .seq vs.toArray } (.lst (ns.map V.int))) else none) (fun b => ?_) (.inl (.inr ⟨{ cls := .type "list",data := .seq vs.toArray },AF rfl⟩)) (fun b u z => ?_) (fun b z => ?_) fun _=>hk
  ·by_cases hb:b=a
   ·exact .inr ⟨_,_,AF hb⟩
   ·exact .inl (AJ hb)
  ·by_cases hb:b=a
   ·have z':=(AF hb).symm.trans z;cases z';subst hb;exact ⟨ha,by rw [AI];exact hl,vs,_,rv,ha⟩
   ·have z':=(AJ hb).symm.trans z;cases z'
  ·by_cases hb:b=a
   ·exact hb
   ·exact absurd (AJ hb) z
end L2
namespace L2
open PySem PySem.Spec PyProof.Rows
end L2
namespace L2
open PySem PySem.Spec PyProof.Rows
def qg (s:Stmt):Arguments:=match s with
 | .FunctionDef _ a _ _ _ _ _ _ _ _=>a
 |_=>{ posonlyargs:=[],args:=[],vararg:=none,kwonlyargs:=[],kw_defaults:=[],kwarg:=none,defaults:=[] }
def qY (s:Stmt):List Stmt:=match s with
 | .FunctionDef _ _ b _ _ _ _ _ _ _=>b
 |_=>[]
def qJ (s:Stmt):Scope:=match s with
 | .FunctionDef _ _ _ _ _ _ sc _ _ _=>sc
 |_=>{ kind := .function,names:=[],isGenerator:=false,isCoroutine:=false }
abbrev E0:XK:=fun _ _ _=>False
structure Fun (K:W.Frag) (x qual:Str) (st:Stmt) (f:Addr) (fd:FuncData):Prop where
 ex:∃ (oc:Value) (od:Option Addr) (kV doc pm:Value) (an:Option Addr) (cdv ct:Value) (osl:Array (Option Value)),
  fd=W.fnOf x qual (qg st) (qY st) (qJ st) .none kV doc pm an cdv ct∧K.lookup f=some ⟨oc,od,.func fd,osl⟩∧W.codeIn K cdv qual=true
 kp:W.keepIn K (.ref f)=true
section
variable {P:Program} {w:World} {K:W.Frag} {mg:Str->Option Value} {base:Heap}
theorem Fun.binds {x qual:Str} {st:Stmt} {f:Addr} {fd:FuncData} {ps:List Str} (F:Fun K x qual st f fd)
  (h:∀ (kV doc pm:Value) (an:Option Addr) (cdv ct:Value) (us:List Value),us.length=ps.length->bindArgs (W.fnOf x qual (qg st) (qY st) (qJ st) .none kV doc pm an cdv ct) ⟨us,[]⟩=pure (ps.zip us)):Binds K fd ps []:=by obtain ⟨oc,od,kV,doc,pm,an,cdv,ct,osl,rfl,lk,hcd⟩:=F.ex;exact .all (h kV doc pm an cdv ct)
theorem QR {x qual:Str} {st:Stmt} {f:Addr} {oc:Value} {od an:Option Addr} {osl:Array (Option Value)} {kV doc pm cdv ct:Value} (l:K.lookup f=some ⟨oc,od,.func (W.fnOf x qual (qg st) (qY st) (qJ st) .none kV doc pm an cdv ct),osl⟩)
  (c:W.codeIn K cdv qual=true) (k:W.keepIn K (.ref f)=true):Fun K x qual st f (W.fnOf x qual (qg st) (qY st) (qJ st) .none kV doc pm an cdv ct):=⟨⟨oc,od,kV,doc,pm,an,cdv,ct,osl,rfl,l,c⟩,k⟩
end
section
variable {X:Cx}
theorem pv (i:Nat) {x:Str} {pos:Pos} (hN:X.N[i]? = some x:=by rfl) (hv:Vis X.env.scope x:=by first |exact Or.inl rfl |exact Or.inr (Or.inl rfl) |exact Or.inr (Or.inr rfl)) (hd:(x==("__debug__":Str))=false:=by decide)
  (hcd:(x==("__classdict__":Str))=false:=by decide):PE X (.Name x pos) (Y1 i):=zr hN hv hd hcd
end
theorem Jr {A B:Prop} (h:B):if false=true then A else B:=by rw [AJ BO];exact h
theorem qAj {A B:Prop} (h:A):if true=true then A else B:=by rw [AF rfl];exact h
def Same (H H':Hp):Prop := ∀ b o,H b=some o->H' b=some o
theorem Same.refl (H:Hp):Same H H:=fun _ _ h=>h
end L2
end
section
namespace L2
open PySem PySem.Spec PyProof.Rows
section
variable {X:Cx} {pins:List (Addr×Obj)} {σ:St} {H:Hp} {s:Shared} {a:Addr} {y v:V} {u r:Value} {o:Option V} {A:Around} {E:Value->Shared->Prop}
theorem Inv.big (I:Inv X pins σ H s):sysModules < s.heap.objs.size:=by have h:mainGlobals < s.heap.objs.size:=(I.mod.glob.keeps I.bk).lt;exact Nat.lt_trans (by decide) h
end
theorem qFe {P:Program} {w:World} {H:Hp} (h:Heap) (hb:sysModules < h.objs.size):ObjOk P w H (h.push { cls := .type "dict",data := .dict #[] }) h.objs.size (.dK []) :=
 ⟨BV _,AG.mpr (Ne.symm (AV hb)),[],.nil,Heap.DictOf.new h⟩
def qJL:TE:=fun _ H Q => ∀ p,H p=none->Q (.ref p) (upd H p (.dK []))
section
variable {X:Cx} {pos:Pos}
theorem qFP:PE X (.Dict [] [] pos) qJL:=fun pins s σ H Q I h =>
 wpAny_Dict_empty ⟨.ref s.heap.objs.size,_,I.laid (a:=s.heap.objs.size) (o := .dK []) (t':=s.toks) (fun _ _ q=>AC _ q) (AM _) (qFe s.heap I.big),rfl,h _ (I.hok.fresh (AM _))⟩
end
end L2
namespace L2
open PySem PySem.Spec PyProof.Rows
end L2
end
section
namespace EX
open PySem PySem.Spec PyProof.Rows
def Trc (h B:Heap) (e:Addr) (cls:Value) (dd:Option Addr) (fl:Value):Prop :=
 ∃ oe vs T oT ts,h.get? e=some oe∧oe.cls=cls∧oe.dict=dd∧oe.data = .fields vs∧vs[1]? = some (Value.ref T)∧vs[2]? = some Value.none∧B.get? T=none∧T≠e∧h.get? T=some oT∧oT.data = .fields ts∧ts[3]? = some fl
def Fly (B:Heap) (l:List Env) (e:Addr) (cls:Value) (dd:Option Addr) (fl:Value) (h:Heap):Prop:=B.StaysIn h∧B.get? e=none∧h.FunFrames B l∧Trc h B e cls dd fl
theorem Fly.tail {B h:Heap} {env:Env} {l:List Env} {e:Addr} {cls fl:Value} {dd:Option Addr} (x:Fly B (env::l) e cls dd fl h):Fly B l e cls dd fl h:=⟨x.1,x.2.1,x.2.2.1.2.2,x.2.2.2⟩
section
variable {M:Model} {A:Around} {E:Value->Shared->Prop} {s:Shared} {B:Heap} {env:Env} {outer:List Env} {L e:Addr} {cls:Value} {dd:Option Addr} {Q:Unit->Shared->Prop}
theorem qAS {oe:Obj} {vs:Array Value} {head:Value} {nx:Bool} (f1:A.frames=some (env::outer)) (f2:s.heap.FunFrames B (env::outer)) (f3:env.frame=some L) (k1:B.StaysIn s.heap) (k2:B.get? e=none)
  (g1:s.heap.get? e=some oe) (g2:oe.data = .fields vs) (g3:1 < vs.size) (g4:vs[2]? = some Value.none) (h:∀ h',Fly B (env::outer) e oe.cls oe.dict (rawInt L) h'->s.heap.UpToSlots h'->Q () { s with heap:=h' }) :
  wpAny M A (do let a ← frameOf env;let pl ← entryPlaceOf L nx;let b ← EntryCells.newEntry head a .none (rawInt L) .none pl;setField (.ref e) 1 b) Q E s:=by
 have nfr:e ∉ (env::outer).filterMap (·.frame):=fun hm=>by obtain ⟨_,o,ho,hnf⟩:=f2.mem hm;rw [g1] at ho;cases ho;exact hnf vs g2
 refine AA (wpAny_frameOf_fun f1 f2 f3 fun h1 so=>AA (wpAny_entryPlaceOf fun pl hpl => ?_));unfold EntryCells.newEntry newFields;refine AA (Az ?_ (hpl.sizeOk5 _ _ _ _ _));generalize hts:([head,Value.ref L,.none,rawInt L,.none]++(if pl.isEmpty then List.replicate 6 Value.none else pl)).toArray=ts;have ht3:ts[3]? = some (rawInt L):=by rw [← hts];first |(simp;done) |(rcases hpl with rfl |⟨_,_,_,_,_,_,_,rfl⟩ <;> simp)
 have a1:h1.get? e=some oe:=(so.2.1 e nfr).trans g1;have kb:B.StaysIn h1:=fun b o q=>(so.2.1 b fun hm=>by rw [(f2.mem hm).1] at q;cases q).trans (k1 b o q)
 have a2:=AC (h:=h1) { cls := .type "traceback",dict:=none,data := .fields ts } a1;refine BL a2 g2 g3 (h _ ?_ ?_)
 ·have ne1:h1.objs.size≠e:=CM (AK a1);have d3:=A9 g2 (·.setIfInBounds 1 (Value.ref h1.objs.size));have a3:=As (Obj.mapFields (·.setIfInBounds 1 (Value.ref h1.objs.size))) a2 (Bn d3);have a4:=(Aa (h1.push { cls := .type "traceback",dict:=none,data := .fields ts }) (Obj.mapFields (·.setIfInBounds 1 (Value.ref h1.objs.size))) (Ne.symm ne1)).trans (AT h1 rfl);have kp:∀ b o,b≠e->h1.get? b=some o->((h1.push { cls := .type "traceback",dict:=none,data := .fields ts }).update e (Obj.mapFields (·.setIfInBounds 1 (Value.ref h1.objs.size)))).get? b=some o:=fun b o hb q =>
   (Aa _ _ (Ne.symm hb)).trans (AC _ q)
  refine ⟨fun b o q=>kp b o (fun z=>by rw [z,k2] at q;cases q) (kb b o q),k2,f2.of_keeps fun b o q nf => ?_,_,_,h1.objs.size,_,ts,a3,CI _ _,?_,d3,?_,?_,kb.fresh,ne1,a4,rfl,ht3⟩
  ·obtain ⟨sl,q2⟩:=so.2.2 b o q;exact ⟨_,kp b _ (fun z=>by rw [z,g1] at q;cases q;exact nf vs g2) q2,rfl⟩
  ·obtain ⟨c,d,dt,sl⟩:=oe;have g2:dt = .fields vs:=g2;subst g2;rfl
  ·simp [g3]
  ·rw [Array.getElem?_setIfInBounds_ne (by decide)];exact g4
 ·intro b o q nf;have hb:b≠e:=fun z=>by rw [z,g1] at q;cases q;exact nf vs g2
  obtain ⟨sl,q2⟩:=so.2.2 b o q;exact ⟨sl,(Aa _ _ (Ne.symm hb)).trans (AC _ q2)⟩
theorem qBA {oe:Obj} {vs:Array Value} (f1:A.frames=some (env::outer)) (f2:s.heap.FunFrames B (env::outer)) (f3:env.frame=some L) (k1:B.StaysIn s.heap) (k2:B.get? e=none)
  (g1:s.heap.get? e=some oe) (g2:oe.data = .fields vs) (g3:vs[1]? = some Value.none) (g4:vs[2]? = some Value.none) (h:∀ h',Fly B (env::outer) e oe.cls oe.dict (rawInt L) h'->s.heap.UpToSlots h'->Q () { s with heap:=h' }) :
  wpAny M A (noteFrame (.ref e) env) Q E s:=by
 unfold noteFrame;simp only [f3];refine AA (Am g1 g2 g3 ?_);rw [AJ (show ¬ ((Value.none != Value.none)=true) by decide)]
 exact qAS f1 f2 f3 k1 k2 g1 g2 (BU.mp g3).1 g4 h
theorem jA (f1:A.frames=some (env::outer)) (f3:env.frame=some L) (x:Fly B (env::outer) e cls dd .none s.heap) (h:∀ h',Fly B (env::outer) e cls dd (rawInt L) h'->s.heap.UpToSlots h'->Q () { s with heap:=h' }) :
  wpAny M A (noteFrame (.ref e) env) Q E s:=by
 obtain ⟨k1,k2,f2,oe,vs,T,oT,ts,g1,rfl,rfl,g2,g3,g4,t1,t2,t3,t4,t5⟩:=x;unfold noteFrame;simp only [f3];refine AA (Am g1 g2 g3 ?_);rw [AF (show (Value.ref T != Value.none)=true by simp)]
 refine AA (Am t3 t4 t5 ?_);rw [AJ (show ¬ ((Value.none==rawInt L)=true) by simp [rawInt])]
 refine AA (BL t3 t4 (BU.mp t5).1 ?_);have ot:∀ b,b≠T->(s.heap.update T (Obj.mapFields (·.setIfInBounds 3 Value.none))).get? b=s.heap.get? b:=fun b hb=>Aa _ _ (Ne.symm hb);have nr:∀ b o,s.heap.get? b=some o->(∀ us,o.data ≠ .fields us)->b≠T:=fun b o q nf z=>by rw [z,t3] at q;cases q;exact nf ts t4
 refine qAS f1 (f2.of_keeps fun b o q nf=>⟨o,(ot b (nr b o q nf)).trans q,rfl⟩) f3 (fun b o q=>(ot b fun z=>by rw [z,t1] at q;cases q).trans (k1 b o q)) k2 ((ot e (Ne.symm t2)).trans g1) g2 (BU.mp g3).1 g4 fun h' x u=>h h' x fun b o q nf => ?_
 exact u b o ((ot b (nr b o q nf)).trans q) nf
theorem qBz {l:List Env} {fl:Value} (x:Fly B l e cls dd fl s.heap) (h:∀ h',Fly B l e cls dd .none h'->s.heap.UpToSlots h'->Q () { s with heap:=h' }):wpAny M A (setFlight (.ref e) none) Q E s:=by
 obtain ⟨k1,k2,f2,oe,vs,T,oT,ts,g1,g0,g00,g2,g3,g4,t1,t2,t3,t4,t5⟩:=x;have t6:3 < ts.size:=(BU.mp t5).1;have ot:∀ b,b≠T->(s.heap.update T (Obj.mapFields (·.setIfInBounds 3 ((none:Option Addr).elim Value.none fun f=>rawInt f)))).get? b=s.heap.get? b:=fun b hb=>Aa _ _ (Ne.symm hb);have nr:∀ b o,s.heap.get? b=some o->(∀ us,o.data ≠ .fields us)->b≠T:=fun b o q nf z=>by rw [z,t3] at q;cases q;exact nf ts t4
 unfold setFlight;refine AA (Am g1 g2 g3 ?_);rw [AF (show (Value.ref T != Value.none)=true by simp)]
 refine BL t3 t4 t6 (h _ ⟨fun b o q=>(ot b fun z=>by rw [z,t1] at q;cases q).trans (k1 b o q),k2,f2.of_keeps fun b o q nf=>⟨o,(ot b (nr b o q nf)).trans q,rfl⟩,?_⟩ fun b o q nf=>⟨o.slots,(ot b (nr b o q nf)).trans q⟩)
 exact ⟨oe,vs,T,_,_,(ot e (Ne.symm t2)).trans g1,g0,g00,g2,g3,g4,t1,t2,As _ t3 (Bn (A9 t4 _)),A9 t4 _,by simp [t6]⟩
theorem Zu {oe:Obj} {vs:Array Value} (f1:A.frames=some (env::outer)) (f2:s.heap.FunFrames B (env::outer)) (f3:env.frame=some L) (k1:B.StaysIn s.heap) (k2:B.get? e=none)
  (g1:s.heap.get? e=some oe) (g2:oe.data = .fields vs) (g3:vs[1]? = some Value.none) (g4:vs[2]? = some Value.none) (h:∀ h',Fly B outer e oe.cls oe.dict .none h'->s.heap.UpToSlots h'->Q () { s with heap:=h' }) :
  wpAny M A (leaving env (.ref e)) Q E s:=by unfold leaving;exact AA (qBA f1 f2 f3 k1 k2 g1 g2 g3 g4 fun h1 x1 u1=>qBz x1 fun h2 x2 u2=>h h2 x2.tail (u1.trans u2))
theorem Jp (f1:A.frames=some (env::outer)) (f3:env.frame=some L) (x:Fly B (env::outer) e cls dd .none s.heap) (h:∀ h',Fly B outer e cls dd .none h'->s.heap.UpToSlots h'->Q () { s with heap:=h' }) :
  wpAny M A (leaving env (.ref e)) Q E s:=by unfold leaving;exact AA (jA f1 f3 x fun h1 x1 u1=>qBz x1 fun h2 x2 u2=>h h2 x2.tail (u1.trans u2))
end
end EX
end
section
namespace EX
open PySem PySem.Spec PyProof.Rows L2
structure UnB (fs:List Addr) (H H1:Hp) (h B:Heap):Prop where
 keep:∀ b o,h.get? b=some o->H b=none->b ∉ fs->B.get? b=some o
 free:∀ b o,h.get? b=some o->H b=none->H1 b=none
 there:∀ b o,h.get? b=some o->b ∉ fs -> ∃ o',B.get? b=some o'
 tups:∀ b xs,H b=some (.tup xs)->H1 b=some (.tup xs)
 frzs:∀ b o u,H b=some (.frz o u)->H1 b=some (.frz o u)
 tbls:∀ b ps,H b=some (.tbl ps) -> ∃ more,H1 b=some (.tbl (ps++more))
def CXF (P:Program) (w:World):CXT:=fun outer H s E e s' =>
 ∃ ea cls dd B H1,e=Value.ref ea∧Fly B outer ea cls dd .none s'.heap∧HOk P w H1 B∧s'.os=s.os∧AllBare s'.gens∧UnB (frs outer) H H1 s.heap B ∧
  (∀ b∈frs outer,∀ o,s.heap.get? b=some o -> ∃ sl,s'.heap.get? b=some { o with slots:=sl })∧E cls dd H1
theorem Yp {env:Env} {outer:List Env} {L:Addr} (h:env.frame=some L):frs (env::outer)=L::frs outer:=by unfold frs;rw [BF,h]
theorem CXF.un {P:Program} {w:World} {outer:List Env} {H H1:Hp} {s s':Shared} {B:Heap} (hs:B.StaysIn s'.heap) (un:UnB (frs outer) H H1 s.heap B) (sl:∀ b∈frs outer,∀ o,s.heap.get? b=some o -> ∃ sl,s'.heap.get? b=some { o with slots:=sl }) :
  Un (frs outer) [] H H1 s.heap s'.heap where
 keep:=fun b o e n hb _=>hs b o (un.keep b o e n hb)
 slot:=fun b o e n hb _=>sl b hb o e
 free:=fun b o e n _=>un.free b o e n
 there:=fun b o e _=>by
  by_cases hb:b∈frs outer
  ·obtain ⟨x,q⟩:=sl b hb o e;exact ⟨_,q⟩
  ·obtain ⟨o',q⟩:=un.there b o e hb;exact ⟨o',hs b o' q⟩
 tups:=un.tups
 frzs:=un.frzs
 tbls:=un.tbls
section
variable {P:Program} {w:World} {K:W.Frag} {mg:Str->Option Value} {base:Heap} {N:List Str} {qual:Str} {scope:Scope} {f:Addr} {cd:Value} {A:Around} {outer:List Env} {s₀:Shared} {H₀:Hp} {E:XK}
theorem qX:zx (CXF P w) (Qq (CXF P w) P w K mg base N qual scope f cd A outer s₀ H₀ E) E:=by
 intro pins σ H s e s' I c;obtain ⟨ea,cls,dd,B,H1,rfl,fl,hok,os,bare,un,sl,q⟩:=c;have hfr:(envOfC qual scope s₀.heap.objs.size f cd).frame=some s₀.heap.objs.size:=rfl;have ef:frs (Qq (CXF P w) P w K mg base N qual scope f cd A outer s₀ H₀ E).stack=s₀.heap.objs.size::frs outer:=Yp hfr;have Ib:Un (frs outer) [] H₀ H s₀.heap s.heap:=I.base;have ne:∀ b o,s₀.heap.get? b=some o->b≠s₀.heap.objs.size:=fun b o e=>AV (AK e);refine Jp I.ok.frames hfr fl fun h' x u=>⟨ea,cls,dd,B,H1,rfl,x,hok,os.trans I.os,bare,?_,fun b hb o e => ?_,q⟩
 ·refine ⟨fun b o e n hb => ?_,fun b o e n => ?_,fun b o e hb => ?_,fun b xs e=>un.tups b xs (Ib.tups b xs e),fun b o u e=>un.frzs b o u (Ib.frzs b o u e),fun b ps e => ?_⟩
  ·exact un.keep b o (Ib.keep b o e n hb (by simp)) (Ib.free b o e n (by simp)) (by rw [ef];intro z;exact (AD.mp z).elim (ne b o e) hb)
  ·obtain ⟨o',e'⟩:=Ib.there b o e (by simp)
   exact un.free b o' e' (Ib.free b o e n (by simp))
  ·obtain ⟨o',e'⟩:=Ib.there b o e (by simp)
   exact un.there b o' e' (by rw [ef];intro z;exact (AD.mp z).elim (ne b o e) hb)
  ·obtain ⟨m1,e1⟩:=Ib.tbls b ps e;obtain ⟨m2,e2⟩:=un.tbls b _ e1;exact ⟨m1++m2,by rw [e2,Array.append_assoc]⟩
 ·obtain ⟨sl1,e1⟩:=Ib.slot b o e (I.ok.frf b hb) hb (by simp)
  obtain ⟨sl2,e2⟩:=sl b (by rw [ef];exact AE _ hb) _ e1
  have nf:∀ vs,o.data ≠ .fields vs:=by obtain ⟨_,o2,ho2,nf⟩:=I.ok.funs.mem hb;have e:(Qq (CXF P w) P w K mg base N qual scope f cd A outer s₀ H₀ E).s₀.heap.get? b=some o:=e;rw [e] at ho2;cases ho2;exact nf
  obtain ⟨sl3,e3⟩:=u b _ e2 nf;exact ⟨sl3,e3⟩
theorem qDc {pins:List (Addr×Obj)} {σ:L2.St} {H:Hp} {s:Shared} {h':Heap} {e:Addr} {oe:Obj} {vs:Array Value} {H1:Hp} {B0:Heap} (I:L2.Inv (Qq (CXF P w) P w K mg base N qual scope f cd A outer s₀ H₀ E) pins σ H s) (k:∀ b o,s.heap.get? b=some o->h'.get? b=some o) (hn:s.heap.get? e=none)
  (g1:h'.get? e=some oe) (g2:oe.data = .fields vs) (g3:vs[1]? = some Value.none) (g4:vs[2]? = some Value.none) (q:E oe.cls oe.dict H):(Qq (CXF P w) P w K mg base N qual scope f cd A outer s₀ H₀ E).xe (.ref e) { s with heap:=h' }:=by
 have hfr:(envOfC qual scope s₀.heap.objs.size f cd).frame=some s₀.heap.objs.size:=rfl;have ef:frs (Qq (CXF P w) P w K mg base N qual scope f cd A outer s₀ H₀ E).stack=s₀.heap.objs.size::frs outer:=Yp hfr;have Ib:Un (frs outer) [] H₀ H s₀.heap s.heap:=I.base;have ne:∀ b o,s₀.heap.get? b=some o->b≠s₀.heap.objs.size:=fun b o e=>AV (AK e);generalize hB:W.hideAll s.heap (frs (Qq (CXF P w) P w K mg base N qual scope f cd A outer s₀ H₀ E).stack)=B;have toB:∀ b o,s.heap.get? b=some o->b ∉ frs (Qq (CXF P w) P w K mg base N qual scope f cd A outer s₀ H₀ E).stack->B.get? b=some o:=fun b o e hb=>by rw [← hB];exact W.hideAll_get _ e hb
 have ofB:∀ b o,B.get? b=some o->s.heap.get? b=some o:=fun b o e=>by rw [← hB] at e;exact W.of_hideAll _ e
 have trk:∀ b u,H b=some u->b ∉ frs (Qq (CXF P w) P w K mg base N qual scope f cd A outer s₀ H₀ E).stack:=fun b u e z=>by rw [I.stkFree b z] at e;cases e
 have fun1:h'.FunFrames B (Qq (CXF P w) P w K mg base N qual scope f cd A outer s₀ H₀ E).stack:=by
  have:=W.funFrames_hide (as:=frs (Qq (CXF P w) P w K mg base N qual scope f cd A outer s₀ H₀ E).stack) I.stack fun env he a ha=>Bw.mpr ⟨env,he,ha⟩
  rw [hB] at this;exact this.of_keeps fun b o e _=>⟨o,k b o e,rfl⟩
 have eB:B.get? e=none:=by
  cases z:B.get? e with
  |none=>rfl
  |some o=>have:=ofB e o z;rw [hn] at this;cases this
 refine Zu (s:={ s with heap:=h' }) I.ok.frames fun1 hfr (fun b o z=>k b o (ofB b o z)) eB g1 g2 g3 g4 fun h2 x u=>⟨e,oe.cls,oe.dict,B,H,rfl,x,?_,I.os,I.bare,?_,fun b hb o e1 => ?_,q⟩
 ·exact fun b u e1=>(I.hok b u e1).stay (fun c v hc z=>toB c v z (hc.elim (fun z=>by rw [z];exact trk b u e1) fun z=>trk c _ z)) (fun _ z=>z) fun _ _ z=>z
 ·refine ⟨fun b o e n hb => ?_,fun b o e n=>Ib.free b o e n (by simp),fun b o e hb => ?_,fun b xs e=>Ib.tups b xs e,fun b o u e=>Ib.frzs b o u e,fun b ps e=>Ib.tbls b ps e⟩
  ·exact toB b o (Ib.keep b o e n hb (by simp)) (by rw [ef];intro z;exact (AD.mp z).elim (ne b o e) hb)
  ·obtain ⟨o',e'⟩:=Ib.there b o e (by simp)
   exact ⟨o',toB b o' e' (by rw [ef];intro z;exact (AD.mp z).elim (ne b o e) hb)⟩
 ·obtain ⟨sl1,e2⟩:=Ib.slot b o e1 (I.ok.frf b hb) hb (by simp)
  have nf:∀ vs,o.data ≠ .fields vs:=by obtain ⟨_,o2,ho2,nf⟩:=I.ok.funs.mem hb;have e1:(Qq (CXF P w) P w K mg base N qual scope f cd A outer s₀ H₀ E).s₀.heap.get? b=some o:=e1;rw [e1] at ho2;cases ho2;exact nf
  obtain ⟨sl3,e3⟩:=u b _ (k b _ e2) nf;exact ⟨sl3,e3⟩
end
section
variable {prog:Program} {w:World} {A:Around} {E:Value->Shared->Prop} {s:Shared} {K:W.Frag} {x D:Addr} {ox:Obj} {od:Option Obj}
structure ExcK (K:W.Frag) (D:Addr):Prop where
 ga:W.findIn K (.ref D) "__getattribute__" = some (some (.builtin "BaseException.__getattribute__"))
 gn:W.findIn K (.ref D) "__getattr__" = some none
 fo:∀ od,W.findObj K D od "__class__" = some (.bind (.builtin "getset_descriptor.__get__") (.builtin "object.__class__"))
 mo:W.mroIn K D (.type "object")=some true
 mb:W.mroIn K D (.type "BaseException")=some true
theorem qDh {Q:Option Value->Shared->Prop} (C:ExcK K D) (X:K.In s.heap) (I:W.InstAt s.heap x ox D od) (h:Q (some (.ref D)) { s with toks:=s.toks + 1 }):wpAny (model prog w) A (getAttr? (.ref x) "__class__") Q E s:=by
 obtain ⟨hh,g,d,t,os⟩:=s;have L0:=I.type (M:=model prog w);have L1:=B8 (M:=model prog w) X C.ga;have L2:=B8 (M:=model prog w) X C.gn;have L3:=W.looks_find (M:=model prog w) X I (C.fo od);have L4:=Bh (M:=model prog w) X C.mb;have LI:W.Looks (model prog w) hh (isInstance (.ref x) (.type "BaseException")) true:=L0.andThen L4;have f3:=F.attr_ValueError.ga.bind (.ref x);unfold getAttr? getAttrBy? getAttrBy;refine AA (wpAny_mkText (AA (Bj (Ae (AA (L0.at (AA (L1.at ?_))))))));show wpAny _ _ (getAttrByItsOwn _ _ _ _ _ _) _ _ _;unfold getAttrByItsOwn;refine AA (L2.at (AA (Bj (Ae ?_))));show wpAny _ _ (boundAndCalled _ _ _) _ _ _;unfold boundAndCalled;refine AA (Ah f3 ?_);refine Bk (Bc F.attr_ValueError.ga.plain F.entry_bexc_ga ?_);have hk:builtinKind "BaseException.__getattribute__" = some .slot:=by decide +kernel
 have hsp:splitId "BaseException.__getattribute__" = some ("BaseException","__getattribute__"):=by decide +kernel
 have ha:=F.args_bexc_ga (.ref x) (.str "__class__" t);simp only [checkBuiltinCall,hk,hsp];refine AA (LI.at ?_);rw [AJ (show ¬ ((!true)=true) by decide)]
 refine Ah (a:=()) ha ?_;show wpAny _ A.in1 (Builtin.«object.__getattribute__» ⟨[.ref x,.str "__class__" t],[]⟩) _ _ _;unfold Builtin.«object.__getattribute__»;refine AA (AB ?_);refine AA (AB ?_);refine AA (L0.at (AA (L3.at ?_)));show wpAny _ A.in1 (holding [Value.builtin "object.__class__"] (call (.builtin "getset_descriptor.__get__") [.builtin "object.__class__",.ref x,.ref D]) >>= ret) _ _ _;refine AA (Ae (Bk (W.class_get X I C.mo ?_)));exact AB (AB (AB h))
end
theorem qHL {K:W.Frag} {h:Heap} {C:Addr} {bmB:List Value} {newId:String} (X:K.In h) (q:W.excIn K C bmB newId=true) :
  ∃ bm N nm qn bs hd sn sb ab co dd k0 k1 k2 k3 k5 mN,h.get? C=some (excClassObj nm qn C N bs bm hd sn sb ab co dd k0 k1 k2 k3 k5 newId)∧h.Ns N mN∧mN "__init__" = none∧OwnTail h bmB bm:=by
 unfold W.excIn at q;split at q
 ·rename_i dd cd sl ho;split at q
  ·rename_i C' bm k0 k1 k2 k3 n k5 hm hs;simp only [Ab,BK,Bool.not_eq_true'] at q;obtain ⟨⟨⟨⟨⟨e1,e2⟩,e3⟩,e4⟩,e5⟩,e6⟩:=q;subst e1;subst e2;cases cd with
   |mk nm bs mro ns qn hd sn sb ab co del =>
    have hm:mro=_:=hm;have e3:del=false:=e3;subst hm;subst e3;have hsl:sl = #[k0,k1,k2,k3,some (.builtin n),k5]:=by cases sl with |mk l=>rw [show l=_ from hs]
    subst hsl;exact ⟨bm,ns,nm,qn,bs,hd,sn,sb,ab,co,dd,k0,k1,k2,k3,k5,_,X _ _ ho,.of_isNs (W.isNs_of_in X e5),W.nsMap_none_of_in X e5 e6,W.tail_of_in X e4⟩
  ·cases q
 ·cases q
def Rz (X:Cx) (E:XK):Prop := ∀ (pins:List (Addr×Obj)) (σ:L2.St) (H:Hp) (s:Shared) (h':Heap) (e:Addr) (oe:Obj) (vs:Array Value),L2.Inv X pins σ H s->(∀ b o,s.heap.get? b=some o->h'.get? b=some o)->s.heap.get? e=none ->
 h'.get? e=some oe->oe.data = .fields vs->vs[1]? = some Value.none->vs[2]? = some Value.none->E oe.cls oe.dict H->X.xe (.ref e) { s with heap:=h' }
theorem qJr {P:Program} {w:World} {K:W.Frag} {mg:Str->Option Value} {base:Heap} {N:List Str} {qual:Str} {scope:Scope} {f:Addr} {cd:Value} {A:Around} {outer:List Env} {s₀:Shared} {H₀:Hp} {E:XK} :
  Rz (Qq (CXF P w) P w K mg base N qual scope f cd A outer s₀ H₀ E) E:=fun _ _ _ _ _ _ _ _ I k hn g1 g2 g3 g4 q=>qDc (H1:=H₀) (B0:=base) I k hn g1 g2 g3 g4 q
abbrev bmV:List Value:=[.type "ValueError",.type "Exception",.type "BaseException",.type "object"]
section
variable {X:Cx} {E:XK} {x:Str} {C:Addr} {e:Expr} {es:List Expr} {t:TA} {np cpos pos:Pos}
theorem qER (hz:Rz X E) (hc:X.calm=true) (hg:Gl X x) (hm:X.mg x=some (.ref C)) (q:W.excIn X.K C bmV "ValueError.__new__" = true) (ha:PA X (e::es) t) (hdb:(x==("__debug__":Str))=false:=by decide)
  (he:starEach (e::es) X.env=(false,eval e X.env)::starEach es X.env:=by rfl) (hpl:(backTo cpos (starEach es X.env)).any (·.1)=false:=by rfl) :
  PS X (.Raise (some (.Call (.Name x np) (e::es) [] cpos)) none pos) (fun D σ H=>t σ H fun vs H1=>vs.length≤sizeLine∧E (.ref C) none H1):=by
 intro pins s σ H D I h;obtain ⟨bm,N,nm,qn,bs,hd,sn,sb,ab,co,dd,k0,k1,k2,k3,k5,mN,o1,o2,o3,o4⟩:=qHL I.ok.mod.kin q;refine wpAny_Raise_call_subU (C:=C) (nm:=nm) (q:=qn) (N:=N) (bs:=bs) (bm:=bm) (hdct:=hd) (sn:=sn) (sub:=sb) (ab:=ab) (col:=co) (dd:=dd) (k0:=k0) (k1:=k1) (k2:=k2) (k3:=k3) (k5:=k5) (mN:=mN)
  CT F.excBase_ValueError.hasB CT (o4.hasType F.excBase_ValueError.hasBase) (I.ok.hd hc) (by rw [he];show (false || (backTo cpos (starEach es X.env)).any (·.1))=false;rw [hpl];rfl) o3 (Z2 I hg hm ⟨rfl,?_⟩ hdb)
 have ha':=ha cpos pins s σ H _ I h;rw [he] at ha' ⊢;refine Calls.evalArgs_plain (thn ha' fun us s1 ⟨vs,H1,I1,r1,q1,q2⟩=>⟨rfl,by rw [← r1.length];exact q1,I1.bk _ _ o1,o2.keeps I1.bk,o4.keeps I1.bk,fun h' ea hx => ?_⟩)
 obtain ⟨tt,h1,_,_⟩:=hx.there;exact hz pins σ H1 s1 h' ea _ _ I1 hx.keeps hx.new h1 rfl rfl rfl q2
end
section
variable {M:Model} {A:Around} {E:Value->Shared->Prop} {K:W.Frag} {h:Heap} {g:Array GenState} {d:Drawn} {t:Nat} {os:OsState} {e Bx C:Addr} {oe:Obj} {dd:Option Addr} {cd:ClassData} {sl:Array (Option Value)} {Q:Bool->Shared->Prop}
theorem Js (X:K.In h) (o1:K.lookup Bx=some ⟨.type "type",dd,.cls cd,sl⟩) (m1:W.mroIn K Bx (.type "BaseException")=some true) (he:h.get? e=some oe) (hc:oe.cls = .ref C) (m2:W.mroIn K C (.ref Bx)=some true)
  (hq:Q true ⟨h,g,d,t,os⟩):wpAny M A (excMatches (.ref e) (.ref Bx)) Q E ⟨h,g,d,t,os⟩:=by
 have hB:=X _ _ o1;have L4:=Bh (M:=M) X m1;have L5:=Bh (M:=M) X m2;have f:=tc_notTuple;unfold excMatches;repeat (first |(with_reducible refine BX he ?_;rw [hc]) |with_reducible refine BX hB ?_ |with_reducible refine L4.at ?_ |with_reducible refine L5.at ?_ |wp_step)
 exact hq
end
def qAJ (X:Cx) (pins:List (Addr×Obj)) (xe:Value->Shared->Prop):Cx:={ X with xe:=xe,pn:=X.pn++pins }
def suX (X:Cx) (ea:Addr):Cx:={ X with A:=X.A.mark (some (.ref ea)),calm:=false,xe:=fun _ _=>False }
abbrev qGy:HO := .ext fun _=>True
section
variable {X:Cx} {pins:List (Addr×Obj)} {σ:L2.St} {H:Hp} {s:Shared} {xe:Value->Shared->Prop}
theorem qHH (I:L2.Inv X pins σ H s):L2.Inv (qAJ X pins xe) [] σ H s :=
 ⟨⟨I.ok.mod,I.ok.kind,I.ok.glob,I.ok.blt,I.ok.above,I.ok.inj,I.ok.has,I.ok.cab,I.ok.hd,I.ok.frames,I.ok.stk,I.ok.exf,I.ok.bs,I.ok.bsz,I.ok.noex,I.ok.exfs,I.ok.funs,I.ok.frf⟩,I.os,I.bare,I.base,I.loc,I.cell,I.free,I.freeC,
  fun p hp=>I.pin p (by simpa [qAJ] using hp),I.hok,I.len,I.hnd⟩
theorem zJ {pins':List (Addr×Obj)} (I:L2.Inv (qAJ X pins xe) pins' σ H s):L2.Inv X pins σ H s :=
 ⟨⟨I.ok.mod,I.ok.kind,I.ok.glob,I.ok.blt,I.ok.above,I.ok.inj,I.ok.has,I.ok.cab,I.ok.hd,I.ok.frames,I.ok.stk,I.ok.exf,I.ok.bs,I.ok.bsz,I.ok.noex,I.ok.exfs,I.ok.funs,I.ok.frf⟩,I.os,I.bare,I.base,I.loc,I.cell,I.free,I.freeC,
  fun p hp=>I.pin p (CP _ hp),I.hok,I.len,I.hnd⟩
theorem qFs {D:Ends} {f:Flow} (q:SP (qAJ X pins xe) [] D f s):SP X pins D f s:=by
 cases f with
 |next=>obtain ⟨a,b,c,d⟩:=q;exact ⟨a,b,zJ c,d⟩
 |brk=>obtain ⟨a,b,c,d⟩:=q;exact ⟨a,b,zJ c,d⟩
 |cont=>obtain ⟨a,b,c,d⟩:=q;exact ⟨a,b,zJ c,d⟩
 |ret u=>obtain ⟨v,a,b,c,d⟩:=q;exact ⟨v,a,b,zJ c,d⟩
theorem qDQ (I:L2.Inv X pins σ H s) {ea:Addr} {oe:Obj} (hn:H ea=none) (ho:s.heap.get? ea=some oe) (h0:X.s₀.heap.get? ea=none) (hL:ea≠X.env.locals) (hC:∀ x c,X.env.cells.lookup x=some c->c≠ea) (hP:∀ p∈X.pn++pins,p.1≠ea) :
  L2.Inv X pins σ (upd H ea (.frz oe qGy)) s:=by
 have ne:∀ b u,H b=some u->b≠ea:=fun b u e z=>by rw [z,hn] at e;cases e
 have nb:∀ b o,X.s₀.heap.get? b=some o->b≠ea:=fun b o e z=>by rw [z,h0] at e;cases e
 refine ⟨I.ok,I.os,I.bare,⟨I.base.keep,I.base.slot,fun b o e n hx => ?_,I.base.there,fun b xs e => ?_,fun b o u e => ?_,fun b ps e => ?_⟩,I.loc,I.cell,?_,fun x c e => ?_,fun p hp => ?_,fun b u e => ?_,I.len,fun v hv => ?_⟩
 ·rw [qS (nb b o e)];exact I.base.free b o e n hx
 ·have:=I.base.tups b xs e;rw [qS (ne b _ this)];exact this
 ·have:=I.base.frzs b o u e;rw [qS (ne b _ this)];exact this
 ·obtain ⟨m,this⟩:=I.base.tbls b ps e;exact ⟨m,by rw [qS (ne b _ this)];exact this⟩
 ·rw [qS (Ne.symm hL)];exact I.free
 ·rw [qS (hC x c e)];exact I.freeC x c e
 ·obtain ⟨a,b,c,d⟩:=I.pin p hp;exact ⟨a,by rw [qS (hP p hp)];exact b,c,d⟩
 ·by_cases hb:b=ea
  ·subst hb;rw [qw] at e;cases e;exact ⟨ho,trivial,⟨oe,ho⟩,fun _ _ z _=>z⟩
  ·rw [qS hb] at e;exact (I.hok b u e).stay (fun _ _ _ z=>z) (fun c z=>by rw [qS (ne c _ z)];exact z) fun c xs z=>by rw [qS (ne c _ z)];exact z
 ·obtain ⟨a,o,u,vs,e1,e2,e3⟩:=I.hnd v hv;exact ⟨a,o,u,vs,e1,by rw [qS (ne a _ e2)];exact e2,e3⟩
theorem qC9 (I:L2.Inv X pins σ H s) {ea:Addr} {oe:Obj} {u:HO} {vs:Array Value} (h1:H ea=some (.frz oe u)) (h2:oe.data = .fields vs) (h3:vs[2]? = some Value.none):L2.Inv (suX X ea) pins σ H s :=
 ⟨⟨I.ok.mod,I.ok.kind,I.ok.glob,I.ok.blt,I.ok.above,I.ok.inj,I.ok.has,I.ok.cab,(fun z=>absurd (show false=true from z) BO),I.ok.frames,I.ok.stk,I.ok.exf,I.ok.bs,I.ok.bsz,I.ok.noex,I.ok.exfs,I.ok.funs,I.ok.frf⟩,I.os,I.bare,I.base,I.loc,I.cell,I.free,I.freeC,
  I.pin,I.hok,I.len,fun v hv=>by
   have hv:some (Value.ref ea)=some v:=hv;cases hv;exact ⟨ea,oe,u,vs,rfl,h1,h2,h3⟩⟩
theorem Jw {ea:Addr} (ok:X.Ok) (hc:X.calm=true) (I:L2.Inv (suX X ea) pins σ H s):L2.Inv X pins σ H s :=
 ⟨ok,I.os,I.bare,I.base,I.loc,I.cell,I.free,I.freeC,I.pin,I.hok,I.len,HndH.none (ok.hd hc)⟩
theorem qEq (I:L2.Inv X pins σ H s) (hN:X.N.Nodup) {i:Nat} {n:Str} (hi:X.N[i]? = some n) {m:Str->Option Value} {v:Option Value} {h':Heap} {tk:Nat} (hm:∀ (j:Nat) (x:Str) (w:V),X.N[j]? = some x->σ[j]? = some (some w)->Vis X.env.scope x -> ∃ u,RelV w u∧qKH X.env s.heap m x u)
  (hn:h'.Ns X.env.locals (fun x=>if x=n then v else m x)) (hs:Heap.SameBut X.env.locals s.heap h'):L2.Inv X pins (σ.set i none) H { s with heap:=h',toks:=tk }:=by
 have cne:=I.cne;refine ⟨I.ok,I.os,I.bare,⟨fun b o e n hb hx => ?_,fun b o e n hb hx => ?_,I.base.free,fun b o e hx => ?_,I.base.tups,I.base.frzs,I.base.tbls⟩,⟨_,hn,fun j y w e1 e2 e3 => ?_⟩,fun y c e => ?_,I.free,I.freeC,fun p hp => ?_,fun b ob e => ?_,by simpa using I.len,I.hnd⟩
 ·exact (hs.2 b (AV (Ao (AK e) I.ok.above))).trans (I.base.keep b o e n hb hx)
 ·obtain ⟨sl,e1⟩:=I.base.slot b o e n hb hx;exact ⟨sl,(hs.2 b (AV (Ao (AK e) I.ok.above))).trans e1⟩
 ·obtain ⟨o',e1⟩:=I.base.there b o e hx;exact ⟨o',(hs.2 b (AV (Ao (AK e) I.ok.above))).trans e1⟩
 ·have hj:j≠i:=fun z=>by
   subst z;by_cases hl:j < σ.length
   ·rw [A8 hl] at e2;cases e2
   ·rw [Bo (by simpa using hl)] at e2;cases e2
  rw [BJ (Ne.symm hj)] at e2;obtain ⟨u,r,l⟩:=hm j y w e1 e2 e3;refine ⟨u,r,?_⟩;rcases l with ⟨k,l⟩ |⟨k,c,e,z⟩
  ·refine .inl ⟨k,?_⟩
   have:y≠n:=fun e=>hj (Yr hN e1 (e ▸ hi))
   simp [this,l]
  ·exact .inr ⟨k,c,e,z.sameBut hs (cne y c e)⟩
 ·obtain ⟨w',z⟩:=I.cell y c e;exact ⟨w',z.sameBut hs (cne y c e)⟩
 ·obtain ⟨e,n,ne,nf,d⟩:=I.pin p hp;exact ⟨(hs.2 p.1 ne).trans e,n,ne,nf,d⟩
 ·refine (I.hok b ob e).stay (fun c w' hc q=>(hs.2 c ?_).trans q) (fun _ q=>q) fun _ _ q=>q
  rintro rfl
  rcases hc with rfl |hc
  ·rw [I.free] at e;cases e
  ·rw [I.free] at hc;cases hc
structure FrameX (X:Cx):Prop where
 stk:X.stack=X.env::X.outer
 fr:X.env.frame=some X.env.locals
 ex:X.ex=[]
theorem got {P:Program} {w:World} {H:Hp} {h:Heap} {a:Addr} {o:HO} (x:ObjOk P w H h a o):∃ u,h.get? a=some u:=by
 cases o with
 |lst xs=>obtain ⟨_,_,_,_,e⟩:=x;exact ⟨_,e⟩
 |tup xs=>obtain ⟨_,_,_,o,e,_⟩:=x;exact ⟨_,e⟩
 |dK kvs=>obtain ⟨_,_,_,_,o,_,_,e,_⟩:=x;exact ⟨_,e⟩
 |dT kvs=>obtain ⟨_,_,_,_,o,_,_,e,_⟩:=x;exact ⟨_,e⟩
 |set S n=>obtain ⟨o,_,_,_,e,_⟩:=x;exact ⟨_,e⟩
 |ins C dx fs=>obtain ⟨_,_,_,e,_⟩:=x;exact ⟨_,e⟩
 |own y=>exact x
 |xd fs=>obtain ⟨_,⟨_,_,_,e,_⟩,_⟩:=x;exact ⟨_,e⟩
 |rng lo hi=>obtain ⟨_,_,_,e⟩:=x;exact ⟨_,e⟩
 |frz ob u=>obtain ⟨e,_⟩:=x;exact ⟨_,e⟩
 |tbl ps=>exact ⟨_,x⟩
 |met f y=>exact ⟨_,x⟩
 |ext φ=>obtain ⟨_,e,_⟩:=x;exact e
end
def Yo (A:Around):List Addr:=match A.handled with
 |some (.ref ea)=>[ea]
 |_=>[]
theorem Hnd.frame {A:Around} {h h':Heap} (x:Hnd A h) (k:∀ b∈Yo A,∀ o,h.get? b=some o->h'.get? b=some o):Hnd A h':=fun v hv=>by obtain ⟨ea,oe,vs,e1,e2,e3⟩:=x v hv;subst e1;exact ⟨ea,oe,vs,rfl,k ea (by unfold Yo;rw [hv];simp) oe e2,e3⟩
theorem qJ0 {A:Around} {I:Addr} (hI:∀ ea∈Yo A,ea≠I):∀ v,A.handled=some v->v ≠ .ref I:=fun v hv z=>by subst z;exact hI I (by unfold Yo;rw [hv];simp) rfl
theorem qBa {prog:Program} {w:World} {A:Around} (I ax:Addr) (hne:ax≠I) (items:Array Value) (hI:∀ ea∈Yo A,ea≠I) :
  Walks prog w A I (I::ax::Yo A) [I] items.size (fun i v=>items[i]? = some v) (fun i h=>(h.IsListIter I ax i∧h.IsList ax items)∧Hnd A h) where
 sub:=fun b hb=>by simp at hb;simp [hb]
 frame:=fun _ _ _ st hk=>⟨⟨st.1.1.at fun o e=>hk I (by simp) o e,st.1.2.at fun o e=>hk ax (by simp) o e⟩,st.2.frame fun b hb o e=>hk b (by simp [hb]) o e⟩
 item:=fun i s Q E hi st hQ=>wpAny_pyNext_list_item st.1.1 st.1.2 (x:=items[i]) (by simp [hi]) fun h' z1 z2 =>
  hQ _ h' s.toks (by simp [hi]) ⟨⟨z1,st.1.2.extBut z2.extBut hne⟩,st.2.frame fun b hb o e=>(z2.2 b (hI b hb)).trans e⟩ fun b o hb e=>z2.extBut b o (fun h=>hb (by simp [h])) e
 done:=fun s Q E st hQ=>list_end st.2 st.1.1 st.1.2 (by simp) (qJ0 hI) fun h' z=>hQ h' s.toks fun b o hb e=>z b o (fun h=>hb (by simp [h])) e
 self:=fun _ _ _ _ st hQ=>wpAny_pyIter_listiter st.1.1 hQ
section
variable {X:Cx} {pins:List (Addr×Obj)} {σ:L2.St} {H:Hp} {s:Shared}
theorem qKS (I:L2.Inv X pins σ H s):∀ ea∈Yo X.A,ea≠s.heap.objs.size:=fun ea hea=>by
 have hd:X.A.handled=some (.ref ea):=by
  unfold Yo at hea;split at hea
  ·rename_i a ha;rw [At.mp hea];exact ha
  ·cases hea
 obtain ⟨a,oe,vs,e1,e2,_⟩:=I.hndH _ hd;cases e1;exact AV (AK e2)
theorem yR (I:L2.Inv X pins σ H s) {p:Addr} {its:List Value} (pl:PlainL s.heap p its.toArray) {E:Value->Shared->Prop} {Q:Value->Shared->Prop}
  (h:Walks X.prog X.w X.A.in1 s.heap.objs.size (s.heap.objs.size::p::Yo X.A) [s.heap.objs.size] its.toArray.size (fun i v=>its.toArray[i]? = some v) (fun i h=>(h.IsListIter s.heap.objs.size p i∧h.IsList p its.toArray)∧Hnd X.A.in1 h) ->
   ((s.heap.push { cls := .type "list_iterator",data := .fields #[.ref p,.int 0 0] }).IsListIter s.heap.objs.size p 0∧(s.heap.push { cls := .type "list_iterator",data := .fields #[.ref p,.int 0 0] }).IsList p its.toArray)∧Hnd X.A.in1 (s.heap.push { cls := .type "list_iterator",data := .fields #[.ref p,.int 0 0] }) ->
   (∀ b∈s.heap.objs.size::p::Yo X.A,b < (s.heap.push { cls := .type "list_iterator",data := .fields #[.ref p,.int 0 0] }).objs.size) ->
   (∀ h':Heap,(∀ b o,b ∉ [s.heap.objs.size]->(s.heap.push { cls := .type "list_iterator",data := .fields #[.ref p,.int 0 0] }).get? b=some o->h'.get? b=some o) -> ∀ b o,s.heap.get? b=some o->h'.get? b=some o) ->
   Q (.ref s.heap.objs.size) { s with heap:=s.heap.push { cls := .type "list_iterator",data := .fields #[.ref p,.int 0 0] } }) :
  wpAny (model X.prog X.w) X.A.in1 (pyIter (.ref p)) Q E s:=by
 obtain ⟨ob,po,_⟩:=id pl.isList;have hlt:p < s.heap.objs.size:=AK po;refine CJ pl.isList (h (qBa _ p (AV hlt) _ (qKS I)) ⟨⟨⟨_,AT _ rfl,rfl,rfl⟩,pl.isList.at fun o e=>AC _ e⟩,?_⟩ (fun b hb => ?_) fun h' k b o e => ?_)
 ·exact Hnd.frame (show Hnd X.A.in1 s.heap from I.hndH) fun b _ o e=>AC _ e
 ·rw [A3];rcases AD.mp hb with rfl |hb
  ·exact Nat.lt_succ_self _
  ·rcases AD.mp hb with rfl |hb
   ·exact BB hlt
   ·have hd:X.A.handled=some (.ref b):=by
     unfold Yo at hb;split at hb
     ·rename_i a ha;rw [At.mp hb];exact ha
     ·cases hb
    obtain ⟨a,oe,vs,e1,e2,_⟩:=I.hndH _ hd;cases e1;exact BB (AK e2)
 ·exact k b o (by simp;exact AV (AK e)) (AC _ e)
theorem qB0:∀ {bs:List Bool} {us:List Value},Vals (bs.map V.bl) us->us=bs.map Value.bool
 |[],_,.nil=>rfl
 |b::bs,_,.cons r t=>by rw [show _=Value.bool b from r,qB0 t];rfl
theorem Zt:∀ {ns:List Int} {us:List Value} {i:Nat} {v:Value},Vals (ns.map V.int) us->us[i]? = some v -> ∃ t,v=Value.int (ns.getD i 0) t
 |[],_,_,_,.nil,e=>by simp at e
 |n::ns,_,0,_,.cons r t,e=>by simp at e;subst e;exact r
 |n::ns,_,i + 1,v,.cons r t,e=>by simpa using Zt (i:=i) t (by simpa using e)
theorem qEj {prog:Program} {w:World} {A:Around} {bs:List Bool}:TruthOf prog w A (fun i v=>(bs.map Value.bool).toArray[i]? = some v) (fun i=>bs.getD i false):=fun i v s Q E hP hQ=>by
 have hP:(bs.map Value.bool).toArray[i]? = some v:=hP;rw [List.getElem?_toArray,BG] at hP;cases e:bs[i]? with
 |none=>rw [e] at hP;cases hP
 |some b =>rw [e] at hP;cases hP;have hQ:Q (bs.getD i false) s:=hQ;rw [Al,e] at hQ;exact AB hQ
theorem qCk (bs:List Bool):(List.range bs.length).all (fun i=>bs.getD i false)=bs.all id:=by
 induction bs with
 |nil=>rfl
 |cons b bs ih =>
  rw [AU,List.range_succ_eq_map,List.all_cons,List.all_map,List.all_cons]
  have:(((fun i=>(b::bs).getD i false) ∘ Nat.succ))=fun i=>bs.getD i false:=by funext i;simp
  rw [this,ih];simp
theorem qCr:Wu X (.builtin "all") (fun xs H Q => ∃ (p:Addr) (bs:List Bool),xs=[.ref p]∧SqL X.K H p (bs.map V.bl)∧Q (.bl (bs.all id)) H):=by
 intro pins s σ H xs us Q I r h;obtain ⟨p,bs,rfl,hq,q⟩:=h;obtain ⟨u,rfl,rx⟩:=Zl r;cases rx;obtain ⟨its,r',pl,hz⟩:=I.list hq;have e:=qB0 r';subst e;refine call_all_walk (yR I pl fun W st fp k=>⟨_,_,_,_,_,_,_,rfl,W,st,qEj,fun h' tk hk => ?_⟩);rw [show (bs.map Value.bool).toArray.size=bs.length by simp,qCk]
 exact ⟨.bl _,H,I.kept (k h' hk),rfl,q⟩
theorem yf (ns:List Int):∀ k,k≤ns.length->preSum (fun i=>ns.getD i 0) k=(ns.take k).sum
 |0,_=>by simp [preSum]
 |k + 1,h=>by have hk:k < ns.length:=h;rw [preSum,yf ns k (Ce hk),B9 hk,List.sum_append];simp [Al,hk]
theorem qDJ:Wu X (.builtin "sum") (fun xs H Q => ∃ (p:Addr) (ns:List Int),xs=[.ref p]∧SqL X.K H p (ns.map V.int)∧Q (.int ns.sum) H):=by
 intro pins s σ H xs us Q I r h;obtain ⟨p,ns,rfl,hq,q⟩:=h;obtain ⟨u,rfl,rx⟩:=Zl r;cases rx;obtain ⟨its,r',pl,hz⟩:=I.list hq;have hl:=r'.length;refine call_sum_walkAnyS (yR I pl fun W st fp k=>⟨_,_,_,_,_,_,_,fun i=>ns.getD i 0,rfl,W.toS,st,fp,fun i v hv=>Zt r' (by simpa using hv),fun s' t' m => ?_⟩)
 have hsz:its.toArray.size=ns.length:=by rw [AO,← hl,AI]
 rw [hsz,yf ns _ (AM _),List.take_length];obtain ⟨hh,g,d,t,o⟩:=s';have g1:g=s.gens:=m.gens;have d1:d=s.drawn:=m.drawn;have o1:o=s.os:=m.os;subst g1;subst d1;subst o1;exact ⟨.int _,H,I.kept (k hh fun b o hb e=>m.heap b o hb e),⟨t',rfl⟩,q⟩
end
theorem qD3 {K:W.Frag} {x D:Addr} (C:ExcK K D):W.KitX K (.ref x) (.ref D) (fun h => ∃ ox od,W.InstAt h x ox D od):=by
 obtain ⟨cd,hcd,_⟩:=Option.bind_eq_some_iff.mp (C.fo none);unfold W.clsIn at hcd;split at hcd
 ·rename_i c' d' cd' sl' ho;refine ⟨fun _ _ _ ⟨ox,od,I⟩=>I.type,fun M h X p => ?_,fun h tp dd its n sl X htp => ?_,fun {prog w A E Q s} X ⟨ox,od,I⟩ k=>qDh C X I k⟩
  ·intro A' Q' E' s' k q;unfold isType loadHead;exact AA (wpAny_loadPart (k _ _ (X _ _ ho)) (AB q))
  ·refine Bool.eq_false_iff.mpr fun q => ?_;have e:D=tp:=Value.ref.inj (BK.mp q);subst e;have z:=(X _ _ ho).symm.trans htp;cases z
 ·cases hcd
end EX
end
section
namespace EV
open PySem PySem.Spec PyProof.Rows L2
inductive PV where
 |non |bl (b:Bool) |int (i:Int) |str (x:Str) |tup (l:List PV) |lst (l:List PV) |ref (i:Nat) |dct |ty (n:String) |fn (a:Addr) |exc (c:Addr) (fs:List (Str×Int))
inductive SO where
 |l (xs:List PV)
 |d (kvs:List (List L2.Key×PV))
 |z (kvs:List (List L2.Key×PV))
abbrev qB:=List SO
structure Exc where
 cls:Addr
 fs:List (Str×Int)
inductive Rs (α:Type) where
 |ok (a:α) (st:qB) |ex (x:Exc) (st:qB) |no
def Rs.bind {α β:Type} (r:Rs α) (k:α->qB->Rs β):Rs β:=match r with
 | .ok a st=>k a st
 | .ex x st => .ex x st
 | .no => .no
abbrev qv:=List (Option PV)
abbrev FE:=qv->qB->Rs PV
abbrev FA:=qv->qB->Rs (List PV)
abbrev FT:=qv->qB->Rs Bool
inductive RS where
 |nx (e:qv) (st:qB) |rt (v:PV) (st:qB) |bk (e:qv) (st:qB) |ct (e:qv) (st:qB) |ex (x:Exc) (st:qB) |no
abbrev FS:=qv->qB->RS
structure Bz where
 b:List Addr
 z:List Addr
def Bz.out (b:Bz) (a:Addr):Prop:=a ∉ b.b∧a ∉ b.z
def KL (K:W.Frag) (a:Addr) (xs:List V):Prop :=
 ∃ (o:Obj) (its:Array Value) (n:Nat),K.lookup a=some o∧o.cls = .type "list" ∧ o.dict=none∧o.data = .seq its n∧its.size≤sizeLine∧Vals xs its.toList
def KT (K:W.Frag) (a:Addr) (xs:List V):Prop :=
 ∃ (o:Obj) (its:Array Value) (n:Nat),K.lookup a=some o∧o.cls = .type "tuple" ∧ o.data = .seq its n∧its.size≤sizeLine∧Vals xs its.toList
def LA (K:W.Frag) (H:Hp) (b:Bz) (a:Addr) (xs:List V):Prop:=(Rd H a (.lst xs)∧b.out a)∨KL K a xs
def TA' (K:W.Frag) (H:Hp) (b:Bz) (a:Addr) (xs:List V):Prop:=(H a=some (.tup xs)∧b.out a)∨KT K a xs
mutual
def RV (K:W.Frag) (H:Hp) (b:Bz):PV->V->Prop
 | .non,v=>v = .non
 | .bl x,v=>v = .bl x
 | .int i,v=>v = .int i
 | .str x,v=>v = .str x
 | .tup l,v => ∃ a xs,v = .ref a∧TA' K H b a xs∧RVs K H b l xs
 | .lst l,v => ∃ a xs,v = .ref a∧LA K H b a xs∧RVs K H b l xs
 | .ref i,v => ∃ a,v = .ref a∧b.b[i]? = some a
 | .dct,v => ∃ a,v = .ref a∧H a=some (.dK [])∧b.out a
 | .ty n,v=>v = .ty n
 | .fn a,v=>v = .ref a
 | .exc c fs,v => ∃ a o u,v = .ref a∧H a=some (.frz o u)∧b.out a∧o.cls = .ref c∧(∃ vs,o.data = .fields vs)∧((fs=[]∧o.dict=none) ∨ ∃ d,o.dict=some d∧H d=some (.xd (fs.map fun p=>(p.1,V.int p.2)))∧b.out d)
def RVs (K:W.Frag) (H:Hp) (b:Bz):List PV->List V->Prop
 |[],xs=>xs=[]
 |p::ps,xs => ∃ x r,xs=x::r∧RV K H b p x∧RVs K H b ps r
end
def SOk (K:W.Frag) (H:Hp) (b:Bz):SO->HO->Prop
 | .l xs,o => ∃ vs,o = .lst vs∧RVs K H b xs vs
 | .d kvs,o => ∃ vs,o = .dT vs∧kvs.map (·.1)=vs.map (·.1)∧RVs K H b (kvs.map (·.2)) (vs.map (·.2))
 | .z kvs,o => ∃ od vs,o = .frz od (.dT vs)∧kvs.map (·.1)=vs.map (·.1)∧RVs K H b (kvs.map (·.2)) (vs.map (·.2))
structure SR (K:W.Frag) (H:Hp) (b:Bz) (st:qB):Prop where
 len:b.b.length=st.length
 nd:b.b.Nodup
 at_:∀ (i:Nat) (x:SO),st[i]? = some x -> ∃ a o,b.b[i]? = some a∧H a=some o∧SOk K H b x o
 zo:∀ a∈b.z,∃ xs,H a=some (.lst xs)
 zb:∀ a∈b.z,a ∉ b.b
structure WE (H:Hp) (b:Bz) (H':Hp) (b':Bz):Prop where
 more:∃ n,b'.b=b.b++n ∧ ∀ a∈n,H a=none
 zm:∃ y,b'.z=y++b.z ∧ ∀ a∈y,H a=none
 keep:∀ a o,H a=some o->b.out a->H' a=some o
 dom:∀ a o,H a=some o -> ∃ o',H' a=some o'
theorem WE.refl (H:Hp) (b:Bz):WE H b H b:=⟨⟨[],by simp,by simp⟩,⟨[],rfl,by simp⟩,fun _ _ h _=>h,fun _ o h=>⟨o,h⟩⟩
theorem WE.none_of {H H':Hp} {b b':Bz} (e:WE H b H' b') {a:Addr} (h:H' a=none):H a=none:=by
 cases q:H a with
 |none=>rfl
 |some o=>obtain ⟨o',e'⟩:=e.dom a o q;rw [h] at e';cases e'
theorem WE.not_in {H H':Hp} {b b':Bz} (e:WE H b H' b') {a:Addr} {o:HO} (h:H a=some o) (hn:b.out a):b'.out a:=by
 obtain ⟨n,hb,hh⟩:=e.more;obtain ⟨y,hz,hy⟩:=e.zm;refine ⟨fun hm => ?_,fun hm => ?_⟩
 ·rw [hb] at hm;rcases Ax.mp hm with hm |hm
  ·exact hn.1 hm
  ·rw [hh a hm] at h;cases h
 ·rw [hz] at hm;rcases Ax.mp hm with hm |hm
  ·rw [hy a hm] at h;cases h
  ·exact hn.2 hm
theorem WE.trans {H H1 H2:Hp} {b b1 b2:Bz} (e:WE H b H1 b1) (f:WE H1 b1 H2 b2):WE H b H2 b2:=by
 obtain ⟨n,hn,hh⟩:=e.more;obtain ⟨m,hm,hk⟩:=f.more;obtain ⟨y,hz,hy⟩:=e.zm;obtain ⟨x,hx,hw⟩:=f.zm;refine ⟨⟨n++m,by rw [hm,hn,A4],fun a ha => ?_⟩,⟨x++y,by rw [hx,hz,A4],fun a ha => ?_⟩,fun a o h hb=>f.keep a o (e.keep a o h hb) (e.not_in h hb),fun a o h => ?_⟩
 ·rcases Ax.mp ha with ha |ha
  ·exact hh a ha
  ·exact e.none_of (hk a ha)
 ·rcases Ax.mp ha with ha |ha
  ·exact e.none_of (hw a ha)
  ·exact hy a ha
 ·obtain ⟨o',h'⟩:=e.dom a o h;exact f.dom a o' h'
theorem WE.ix {H H':Hp} {b b':Bz} (e:WE H b H' b') {i:Nat} {a:Addr} (h:b.b[i]? = some a):b'.b[i]? = some a:=by obtain ⟨n,hb,_⟩:=e.more;have hi:i < b.b.length:=(AQ.mp h).1;rw [hb,Ak hi];exact h
theorem WE.new {H:Hp} {b:Bz} {p:Addr} {o:HO} (h:H p=none):WE H b (upd H p o) b :=
 ⟨⟨[],by simp,by simp⟩,⟨[],rfl,by simp⟩,fun a u e _=>by rw [qS (qT e h)];exact e,fun a u e=>⟨u,by rw [qS (qT e h)];exact e⟩⟩
theorem WE.hide {H:Hp} {b:Bz} {p:Addr} {o:HO} (h:H p=none):WE H b (upd H p o) ⟨b.b,p::b.z⟩ :=
 ⟨⟨[],by simp,by simp⟩,⟨[p],rfl,fun a ha=>by rw [At.mp ha];exact h⟩,fun a u e _=>by rw [qS (qT e h)];exact e,fun a u e=>⟨u,by rw [qS (qT e h)];exact e⟩⟩
theorem WE.wr {H:Hp} {b:Bz} {p:Addr} {o:HO} (h:p∈b.b∨p∈b.z):WE H b (upd H p o) b :=
 ⟨⟨[],by simp,by simp⟩,⟨[],rfl,by simp⟩,fun a u e hb=>by rw [qS (fun z=>h.elim (fun q=>hb.1 (by rw [z];exact q)) fun q=>hb.2 (by rw [z];exact q))];exact e,fun a u e=>by
  by_cases hz:a=p
  ·exact ⟨o,by rw [hz];exact qw⟩
  ·exact ⟨u,by rw [qS hz];exact e⟩⟩
theorem Rd.some_of {H:Hp} {a:Addr} {u:HO} (h:Rd H a u):∃ o,H a=some o:=h.elim (fun h=>⟨_,h⟩) fun ⟨_,h⟩=>⟨_,h⟩
theorem Rd.wext {H H':Hp} {b b':Bz} {a:Addr} {u:HO} (e:WE H b H' b') (h:Rd H a u∧b.out a):Rd H' a u∧b'.out a:=by
 obtain ⟨o,ho⟩:=Rd.some_of h.1;refine ⟨?_,e.not_in ho h.2⟩;rcases h.1 with q |⟨o',q⟩
 ·exact .inl (e.keep _ _ q h.2)
 ·exact .inr ⟨o',e.keep _ _ q h.2⟩
theorem LA.wext {K:W.Frag} {H H':Hp} {b b':Bz} {a:Addr} {xs:List V} (e:WE H b H' b') (h:LA K H b a xs):LA K H' b' a xs:=h.elim (fun h => .inl (Rd.wext e h)) .inr
theorem TA'.wext {K:W.Frag} {H H':Hp} {b b':Bz} {a:Addr} {xs:List V} (e:WE H b H' b') (h:TA' K H b a xs):TA' K H' b' a xs:=h.elim (fun h => .inl ⟨e.keep _ _ h.1 h.2,e.not_in h.1 h.2⟩) .inr
theorem LA.sq {K:W.Frag} {H:Hp} {b:Bz} {a:Addr} {xs:List V} (h:LA K H b a xs):SqL K H a xs:=h.elim (fun h => .inl h.1) .inr
theorem TA'.sq {K:W.Frag} {H:Hp} {b:Bz} {a:Addr} {xs:List V} (h:TA' K H b a xs):SqT K H a xs:=h.elim (fun h => .inl (.inl h.1)) .inr
mutual
theorem RV.wext {K:W.Frag} {H H':Hp} {b b':Bz} (e:WE H b H' b'):∀ (p:PV) {v:V},RV K H b p v->RV K H' b' p v
 | .non,_,h=>by unfold RV at h ⊢;exact h
 | .bl _,_,h=>by unfold RV at h ⊢;exact h
 | .int _,_,h=>by unfold RV at h ⊢;exact h
 | .str _,_,h=>by unfold RV at h ⊢;exact h
 | .tup l,_,h=>by unfold RV at h ⊢;obtain ⟨a,xs,h1,h2,h3⟩:=h;exact ⟨a,xs,h1,h2.wext e,RVs.wext e l h3⟩
 | .lst l,_,h=>by unfold RV at h ⊢;obtain ⟨a,xs,h1,h2,h3⟩:=h;exact ⟨a,xs,h1,h2.wext e,RVs.wext e l h3⟩
 | .ref i,_,h=>by unfold RV at h ⊢;obtain ⟨a,h1,h2⟩:=h;exact ⟨a,h1,e.ix h2⟩
 | .ty _,_,h=>by unfold RV at h ⊢;exact h
 | .fn _,_,h=>by unfold RV at h ⊢;exact h
 | .exc _ _,_,h=>by unfold RV at h ⊢;obtain ⟨a,o,u,h1,h2,h3,h4,h6,h5⟩:=h;exact ⟨a,o,u,h1,e.keep _ _ h2 h3,e.not_in h2 h3,h4,h6,h5.imp id fun ⟨d,q1,q2,q3⟩=>⟨d,q1,e.keep _ _ q2 q3,e.not_in q2 q3⟩⟩
 | .dct,_,h=>by unfold RV at h ⊢;obtain ⟨a,h1,h2,h3⟩:=h;exact ⟨a,h1,e.keep _ _ h2 h3,e.not_in h2 h3⟩
theorem RVs.wext {K:W.Frag} {H H':Hp} {b b':Bz} (e:WE H b H' b'):∀ (l:List PV) {xs:List V},RVs K H b l xs->RVs K H' b' l xs
 |[],_,h=>by unfold RVs at h ⊢;exact h
 |p::ps,_,h=>by unfold RVs at h ⊢;obtain ⟨x,r,h1,h2,h3⟩:=h;exact ⟨x,r,h1,RV.wext e p h2,RVs.wext e ps h3⟩
end
structure Ext (H:Hp) (b:Bz) (H':Hp) (b':Bz):Prop extends WE H b H' b' where
 same:b'.z=b.z
 hid:∀ a o,a∈b.z->H a=some o->H' a=some o
 fz:∀ a o u,H a=some (.frz o u)->H' a=some (.frz o u)
theorem Ext.refl (H:Hp) (b:Bz):Ext H b H b:=⟨WE.refl H b,rfl,fun _ _ _ h=>h,fun _ _ _ h=>h⟩
theorem Ext.none_of {H H':Hp} {b b':Bz} (e:Ext H b H' b') {a:Addr} (h:H' a=none):H a=none:=e.toWE.none_of h
theorem Ext.trans {H H1 H2:Hp} {b b1 b2:Bz} (e:Ext H b H1 b1) (f:Ext H1 b1 H2 b2):Ext H b H2 b2:=⟨e.toWE.trans f.toWE,f.same.trans e.same,fun a o ha h=>f.hid a o (by rw [e.same];exact ha) (e.hid a o ha h),fun a o u h=>f.fz a o u (e.fz a o u h)⟩
theorem Ext.ix {H H':Hp} {b b':Bz} (e:Ext H b H' b') {i:Nat} {a:Addr} (h:b.b[i]? = some a):b'.b[i]? = some a:=e.toWE.ix h
theorem Ext.new {H:Hp} {b:Bz} {p:Addr} {o:HO} (h:H p=none):Ext H b (upd H p o) b:=⟨WE.new h,rfl,fun a u _ e=>by rw [qS (qT e h)];exact e,fun a u _ e=>by rw [qS (qT e h)];exact e⟩
theorem Ext.wr {H:Hp} {b:Bz} {p:Addr} {o:HO} (h:p∈b.b) (hz:∀ a∈b.z,a ∉ b.b) (hf:∀ o u,H p≠some (.frz o u)):Ext H b (upd H p o) b:=⟨WE.wr (.inl h),rfl,fun a u ha e=>by rw [qS (fun z=>hz a ha (by rw [z];exact h))];exact e,fun a u v e=>by rw [qS (fun z=>hf u v (by rw [← z];exact e))];exact e⟩
theorem nfz {H:Hp} {p:Addr} {u:HO} (h:H p=some u) (hu:∀ o v,u ≠ .frz o v):∀ o v,H p≠some (.frz o v):=fun o v z=>by rw [h] at z;cases z;exact hu _ _ rfl
theorem qHB {H:Hp} {p:Addr} {xs:List V} (h:H p=some (.lst xs)):∀ o v,H p≠some (.frz o v):=nfz h fun _ _ z=>nomatch z
theorem Ext.of_same {H H':Hp} {b:Bz} (h:Same H H'):Ext H b H' b:=⟨⟨⟨[],by simp,by simp⟩,⟨[],rfl,by simp⟩,fun a o e _=>h a o e,fun a o e=>⟨o,h a o e⟩⟩,rfl,fun a o _ e=>h a o e,fun a o u e=>h a _ e⟩
theorem RV.ext {K:W.Frag} {H H':Hp} {b b':Bz} (e:Ext H b H' b') (p:PV) {v:V} (h:RV K H b p v):RV K H' b' p v:=RV.wext e.toWE p h
theorem RVs.ext {K:W.Frag} {H H':Hp} {b b':Bz} (e:Ext H b H' b') (l:List PV) {xs:List V} (h:RVs K H b l xs):RVs K H' b' l xs:=RVs.wext e.toWE l h
theorem RVs.length {K:W.Frag} {H:Hp} {b:Bz}:∀ {l:List PV} {xs:List V},RVs K H b l xs->l.length=xs.length
 |[],_,h=>by unfold RVs at h;rw [h];rfl
 |p::ps,_,h=>by unfold RVs at h;obtain ⟨x,r,rfl,_,h3⟩:=h;rw [AU,AU,RVs.length h3]
theorem RVs.nil {K:W.Frag} {H:Hp} {b:Bz}:RVs K H b [] []:=by unfold RVs;rfl
theorem RVs.cons {K:W.Frag} {H:Hp} {b:Bz} {p:PV} {ps:List PV} {x:V} {r:List V} (h:RV K H b p x) (t:RVs K H b ps r):RVs K H b (p::ps) (x::r):=by unfold RVs;exact ⟨x,r,rfl,h,t⟩
theorem RVs.get {K:W.Frag} {H:Hp} {b:Bz}:∀ {l:List PV} {xs:List V} {i:Nat} {p:PV},RVs K H b l xs->l[i]? = some p -> ∃ x,xs[i]? = some x∧RV K H b p x
 |[],_,_,_,_,h=>by simp at h
 |q::ps,_,0,p,r,h=>by unfold RVs at r;obtain ⟨x,t,rfl,h2,h3⟩:=r;simp at h;subst h;exact ⟨x,rfl,h2⟩
 |q::ps,_,i + 1,p,r,h=>by
  unfold RVs at r;obtain ⟨x,t,rfl,h2,h3⟩:=r;obtain ⟨y,e,hy⟩:=RVs.get (i:=i) h3 (by simpa using h)
  exact ⟨y,by simpa using e,hy⟩
theorem RVs.append {K:W.Frag} {H:Hp} {b:Bz}:∀ {l m:List PV} {xs ys:List V},RVs K H b l xs->RVs K H b m ys->RVs K H b (l++m) (xs++ys)
 |[],_,_,_,h,g=>by unfold RVs at h;subst h;exact g
 |p::ps,_,_,_,h,g=>by unfold RVs at h;obtain ⟨x,r,rfl,h2,h3⟩:=h;exact RVs.cons h2 (RVs.append h3 g)
theorem RVs.take {K:W.Frag} {H:Hp} {b:Bz}:∀ {l:List PV} {xs:List V} (n:Nat),RVs K H b l xs->RVs K H b (l.take n) (xs.take n)
 |_,_,0,_=>RVs.nil
 |[],_,_ + 1,h=>by unfold RVs at h;subst h;exact RVs.nil
 |p::ps,_,n + 1,h=>by unfold RVs at h;obtain ⟨x,r,rfl,h2,h3⟩:=h;exact RVs.cons h2 (RVs.take n h3)
theorem RVs.drop {K:W.Frag} {H:Hp} {b:Bz}:∀ {l:List PV} {xs:List V} (n:Nat),RVs K H b l xs->RVs K H b (l.drop n) (xs.drop n)
 |_,_,0,h=>h
 |[],_,_ + 1,h=>by unfold RVs at h;subst h;exact RVs.nil
 |p::ps,_,n + 1,h=>by unfold RVs at h;obtain ⟨x,r,rfl,h2,h3⟩:=h;exact RVs.drop n h3
theorem RVs.set {K:W.Frag} {H:Hp} {b:Bz} {p:PV} {x:V} (hp:RV K H b p x):∀ {l:List PV} {xs:List V} (n:Nat),RVs K H b l xs->RVs K H b (l.set n p) (xs.set n x)
 |[],_,_,h=>by unfold RVs at h;subst h;exact RVs.nil
 |q::ps,_,0,h=>by unfold RVs at h;obtain ⟨y,r,rfl,h2,h3⟩:=h;exact RVs.cons hp h3
 |q::ps,_,n + 1,h=>by unfold RVs at h;obtain ⟨y,r,rfl,h2,h3⟩:=h;exact RVs.cons h2 (RVs.set hp n h3)
theorem RVs.erase {K:W.Frag} {H:Hp} {b:Bz}:∀ {l:List PV} {xs:List V} (n:Nat),RVs K H b l xs->RVs K H b (l.eraseIdx n) (xs.eraseIdx n)
 |[],_,_,h=>by unfold RVs at h;subst h;exact RVs.nil
 |q::ps,_,0,h=>by unfold RVs at h;obtain ⟨y,r,rfl,h2,h3⟩:=h;exact h3
 |q::ps,_,n + 1,h=>by unfold RVs at h;obtain ⟨y,r,rfl,h2,h3⟩:=h;exact RVs.cons h2 (RVs.erase n h3)
theorem SOk.wext {K:W.Frag} {H H':Hp} {b b':Bz} (e:WE H b H' b'):∀ {x:SO} {o:HO},SOk K H b x o->SOk K H' b' x o
 | .l xs,_,⟨vs,h,r⟩=>⟨vs,h,RVs.wext e xs r⟩
 | .d kvs,_,⟨vs,h,q,r⟩=>⟨vs,h,q,RVs.wext e _ r⟩
 | .z kvs,_,⟨od,vs,h,q,r⟩=>⟨od,vs,h,q,RVs.wext e _ r⟩
theorem SOk.ext {K:W.Frag} {H H':Hp} {b b':Bz} (e:Ext H b H' b') {x:SO} {o:HO} (h:SOk K H b x o):SOk K H' b' x o:=h.wext e.toWE
theorem SR.mem {K:W.Frag} {H:Hp} {b:Bz} {st:qB} (S:SR K H b st) {a:Addr} (h:a∈b.b):∃ o,H a=some o:=by
 obtain ⟨i,hi⟩:=BS h;have hl:i < b.b.length:=(AQ.mp hi).1;have hs:st[i]? = some (st[i]'(by rw [← S.len];exact hl)):=AL _
 obtain ⟨a',o,h1,h2,_⟩:=S.at_ i _ hs;rw [hi] at h1;cases h1;exact ⟨o,h2⟩
theorem SR.new_notin {K:W.Frag} {H:Hp} {b:Bz} {st:qB} (S:SR K H b st) {p:Addr} (h:H p=none):b.out p :=
 ⟨fun hm=>(by obtain ⟨o,e⟩:=S.mem hm;rw [h] at e;cases e),fun hm=>(by obtain ⟨o,e⟩:=S.zo p hm;rw [h] at e;cases e)⟩
theorem SR.new {K:W.Frag} {H:Hp} {b:Bz} {st:qB} (S:SR K H b st) {p:Addr} {o:HO} (h:H p=none):SR K (upd H p o) b st :=
 ⟨S.len,S.nd,fun i x hx=>by
  obtain ⟨a,u,h1,h2,h3⟩:=S.at_ i x hx;exact ⟨a,u,h1,by rw [qS (qT h2 h)];exact h2,h3.ext (Ext.new h)⟩,fun a ha=>by
  obtain ⟨u,e⟩:=S.zo a ha;exact ⟨u,by rw [qS (qT e h)];exact e⟩,S.zb⟩
theorem qKC {b:List Addr} (nd:b.Nodup) {i j:Nat} {x:Addr} (h1:b[i]? = some x) (h2:b[j]? = some x):i=j:=by obtain ⟨hi,e1⟩:=AQ.mp h1;obtain ⟨hj,e2⟩:=AQ.mp h2;exact (List.getElem_inj nd).mp (e1.trans e2.symm)
theorem SR.wr {K:W.Frag} {H:Hp} {b:Bz} {st:qB} (S:SR K H b st) {i:Nat} {p:Addr} {x:SO} {o:HO} (hp:b.b[i]? = some p) (hx:SOk K (upd H p o) b x o):SR K (upd H p o) b (st.set i x):=by
 have hm:p∈b.b:=Ar hp;refine ⟨by simp [S.len],S.nd,fun j y hy => ?_,fun a ha => ?_,S.zb⟩
 ·have hl:i < b.b.length:=(AQ.mp hp).1;by_cases hj:j=i
  ·subst hj;rw [A8 (by rw [← S.len];exact hl)] at hy
   cases hy;exact ⟨p,o,hp,qw,hx⟩
  ·rw [BJ (Ne.symm hj)] at hy;obtain ⟨a,u,h1,h2,h3⟩:=S.at_ j y hy;have hne:a≠p:=fun z=>hj (by subst z;exact qKC S.nd h1 hp)
   exact ⟨a,u,h1,by rw [qS hne];exact h2,h3.wext (WE.wr (.inl hm))⟩
 ·obtain ⟨u,e⟩:=S.zo a ha;have hz:a≠p:=fun z=>S.zb a ha (by rw [z];exact hm)
  exact ⟨u,by rw [qS hz];exact e⟩
theorem SR.wrz {K:W.Frag} {H:Hp} {b:Bz} {st:qB} (S:SR K H b st) {p:Addr} {ys:List V} (hp:p∈b.z):SR K (upd H p (.lst ys)) b st:=by
 refine ⟨S.len,S.nd,fun j y hy => ?_,fun a ha => ?_,S.zb⟩
 ·obtain ⟨a,u,h1,h2,h3⟩:=S.at_ j y hy;have hne:a≠p:=fun z=>by subst z;exact S.zb a hp (Ar h1)
  exact ⟨a,u,h1,by rw [qS hne];exact h2,h3.wext (WE.wr (.inr hp))⟩
 ·obtain ⟨u,e⟩:=S.zo a ha;by_cases hz:a=p
  ·exact ⟨ys,by rw [hz];exact qw⟩
  ·exact ⟨u,by rw [qS hz];exact e⟩
structure Sh (b b':Bz):Prop where
 ix:∀ (i:Nat) (a:Addr),b.b[i]? = some a->b'.b[i]? = some a
 out:∀ a,b.out a->b'.out a
mutual
theorem RV.sh {K:W.Frag} {H:Hp} {b b':Bz} (e:Sh b b'):∀ (p:PV) {v:V},RV K H b p v->RV K H b' p v
 | .non,_,h=>by unfold RV at h ⊢;exact h
 | .bl _,_,h=>by unfold RV at h ⊢;exact h
 | .int _,_,h=>by unfold RV at h ⊢;exact h
 | .str _,_,h=>by unfold RV at h ⊢;exact h
 | .tup l,_,h=>by unfold RV at h ⊢;obtain ⟨a,xs,h1,h2,h3⟩:=h;exact ⟨a,xs,h1,h2.elim (fun q => .inl ⟨q.1,e.out a q.2⟩) .inr,RVs.sh e l h3⟩
 | .lst l,_,h=>by unfold RV at h ⊢;obtain ⟨a,xs,h1,h2,h3⟩:=h;exact ⟨a,xs,h1,h2.elim (fun q => .inl ⟨q.1,e.out a q.2⟩) .inr,RVs.sh e l h3⟩
 | .ref i,_,h=>by unfold RV at h ⊢;obtain ⟨a,h1,h2⟩:=h;exact ⟨a,h1,e.ix i a h2⟩
 | .ty _,_,h=>by unfold RV at h ⊢;exact h
 | .fn _,_,h=>by unfold RV at h ⊢;exact h
 | .exc _ _,_,h=>by unfold RV at h ⊢;obtain ⟨a,o,u,h1,h2,h3,h4,h6,h5⟩:=h;exact ⟨a,o,u,h1,h2,e.out a h3,h4,h6,h5.imp id fun ⟨d,q1,q2,q3⟩=>⟨d,q1,q2,e.out d q3⟩⟩
 | .dct,_,h=>by unfold RV at h ⊢;obtain ⟨a,h1,h2,h3⟩:=h;exact ⟨a,h1,h2,e.out a h3⟩
theorem RVs.sh {K:W.Frag} {H:Hp} {b b':Bz} (e:Sh b b'):∀ (l:List PV) {xs:List V},RVs K H b l xs->RVs K H b' l xs
 |[],_,h=>by unfold RVs at h ⊢;exact h
 |p::ps,_,h=>by unfold RVs at h ⊢;obtain ⟨x,r,h1,h2,h3⟩:=h;exact ⟨x,r,h1,RV.sh e p h2,RVs.sh e ps h3⟩
end
theorem SOk.sh {K:W.Frag} {H:Hp} {b b':Bz} (e:Sh b b'):∀ {x:SO} {o:HO},SOk K H b x o->SOk K H b' x o
 | .l xs,_,⟨vs,h,r⟩=>⟨vs,h,RVs.sh e xs r⟩
 | .d kvs,_,⟨vs,h,q,r⟩=>⟨vs,h,q,RVs.sh e _ r⟩
 | .z kvs,_,⟨od,vs,h,q,r⟩=>⟨od,vs,h,q,RVs.sh e _ r⟩
theorem Sh.bare {b:List Addr} {p:Addr} {z:List Addr}:Sh ⟨b,p::z⟩ ⟨b,z⟩:=⟨fun _ _ h=>h,fun a h=>⟨h.1,fun q=>h.2 (AE _ q)⟩⟩
theorem Sh.slot {b:List Addr} {p:Addr} {z:List Addr}:Sh ⟨b,p::z⟩ ⟨b++[p],z⟩:=⟨fun i a h=>by
  rw [Ak (AQ.mp h).1];exact h,fun a h=>⟨fun q=>(Ax.mp q).elim h.1 fun q=>h.2 (by rw [At.mp q];exact AH),fun q=>h.2 (AE _ q)⟩⟩
theorem RV.hide {K:W.Frag} {H:Hp} {b z:List Addr} {p:Addr} {o:HO} (hp:H p=none) (q:PV) {v:V} (h:RV K H ⟨b,z⟩ q v):RV K (upd H p o) ⟨b,p::z⟩ q v:=hd q h
where
 outp {a:Addr} {u:HO} (e:H a=some u) (h:Bz.out ⟨b,z⟩ a):Bz.out ⟨b,p::z⟩ a:=⟨h.1,fun q=>(AD.mp q).elim (fun q=>by subst q;rw [hp] at e;cases e) h.2⟩
 rdd {a:Addr} {u:HO} (h:Rd H a u∧Bz.out ⟨b,z⟩ a):Rd (upd H p o) a u∧Bz.out ⟨b,p::z⟩ a:=by
  obtain ⟨w,hw⟩:=Rd.some_of h.1;refine ⟨?_,outp hw h.2⟩;rcases h.1 with q |⟨o',q⟩
  ·exact .inl (by rw [qS (qT q hp)];exact q)
  ·exact .inr ⟨o',by rw [qS (qT q hp)];exact q⟩
 hd:∀ (q:PV) {v:V},RV K H ⟨b,z⟩ q v->RV K (upd H p o) ⟨b,p::z⟩ q v
 | .non,_,h=>by unfold RV at h ⊢;exact h
 | .bl _,_,h=>by unfold RV at h ⊢;exact h
 | .int _,_,h=>by unfold RV at h ⊢;exact h
 | .str _,_,h=>by unfold RV at h ⊢;exact h
 | .tup l,_,h=>by unfold RV at h ⊢;obtain ⟨a,xs,h1,h2,h3⟩:=h;exact ⟨a,xs,h1,h2.elim (fun q => .inl ⟨by rw [qS (qT q.1 hp)];exact q.1,outp q.1 q.2⟩) .inr,hds l h3⟩
 | .lst l,_,h=>by unfold RV at h ⊢;obtain ⟨a,xs,h1,h2,h3⟩:=h;exact ⟨a,xs,h1,h2.elim (fun q => .inl (rdd q)) .inr,hds l h3⟩
 | .ref i,_,h=>by unfold RV at h ⊢;exact h
 | .ty _,_,h=>by unfold RV at h ⊢;exact h
 | .fn _,_,h=>by unfold RV at h ⊢;exact h
 | .exc _ _,_,h=>by unfold RV at h ⊢;obtain ⟨a,o',u,h1,h2,h3,h4,h6,h5⟩:=h;exact ⟨a,o',u,h1,by rw [qS (qT h2 hp)];exact h2,outp h2 h3,h4,h6,h5.imp id fun ⟨d,q1,q2,q3⟩=>⟨d,q1,by rw [qS (qT q2 hp)];exact q2,outp q2 q3⟩⟩
 | .dct,_,h=>by unfold RV at h ⊢;obtain ⟨a,h1,h2,h3⟩:=h;exact ⟨a,h1,by rw [qS (qT h2 hp)];exact h2,outp h2 h3⟩
 hds:∀ (l:List PV) {xs:List V},RVs K H ⟨b,z⟩ l xs->RVs K (upd H p o) ⟨b,p::z⟩ l xs
 |[],_,h=>by unfold RVs at h ⊢;exact h
 |q::ps,_,h=>by unfold RVs at h ⊢;obtain ⟨x,r,h1,h2,h3⟩:=h;exact ⟨x,r,h1,hd q h2,hds ps h3⟩
theorem SR.hide {K:W.Frag} {H:Hp} {b z:List Addr} {st:qB} (S:SR K H ⟨b,z⟩ st) {p:Addr} {ys:List V} (hp:H p=none):SR K (upd H p (.lst ys)) ⟨b,p::z⟩ st:=by
 have hn:=S.new_notin hp;refine ⟨S.len,S.nd,fun i x hx => ?_,fun a ha => ?_,fun a ha => ?_⟩
 ·obtain ⟨a,u,h1,h2,h3⟩:=S.at_ i x hx;refine ⟨a,u,h1,by rw [qS (qT h2 hp)];exact h2,?_⟩
  cases x with
  |l xs =>obtain ⟨vs,e1,e2⟩:=h3;exact ⟨vs,e1,RV.hide.hds hp xs e2⟩
  |d kvs =>obtain ⟨vs,e1,e2,e3⟩:=h3;exact ⟨vs,e1,e2,RV.hide.hds hp _ e3⟩
  |z kvs =>obtain ⟨od,vs,e1,e2,e3⟩:=h3;exact ⟨od,vs,e1,e2,RV.hide.hds hp _ e3⟩
 ·rcases AD.mp ha with rfl |ha
  ·exact ⟨ys,qw⟩
  ·obtain ⟨u,e⟩:=S.zo a ha;exact ⟨u,by rw [qS (qT e hp)];exact e⟩
 ·rcases AD.mp ha with rfl |ha
  ·exact hn.1
  ·exact S.zb a ha
theorem SR.bare {K:W.Frag} {H:Hp} {b z:List Addr} {st:qB} {p:Addr} (S:SR K H ⟨b,p::z⟩ st):SR K H ⟨b,z⟩ st :=
 ⟨S.len,S.nd,fun i x hx=>by
  obtain ⟨a,u,h1,h2,h3⟩:=S.at_ i x hx;exact ⟨a,u,h1,h2,h3.sh Sh.bare⟩,fun a ha=>S.zo a (AE _ ha),fun a ha=>S.zb a (AE _ ha)⟩
theorem SR.slot {K:W.Frag} {H:Hp} {b z:List Addr} {st:qB} {p:Addr} {x:SO} {o:HO} (S:SR K H ⟨b,p::z⟩ st) (hz:p ∉ z) (ho:H p=some o) (hx:SOk K H ⟨b,p::z⟩ x o):SR K H ⟨b++[p],z⟩ (st++[x]):=by
 have hp:p ∉ b:=S.zb p AH;refine ⟨by simp [show b.length=st.length from S.len],?_,fun i y hy => ?_,fun a ha=>S.zo a (AE _ ha),fun a ha hm => ?_⟩
 ·exact List.nodup_append.mpr ⟨S.nd,by simp,fun a ha c hc=>by rw [At.mp hc];intro z;subst z;exact hp ha⟩
 ·by_cases hi:i < st.length
  ·rw [Ak hi] at hy;obtain ⟨a,u,h1,h2,h3⟩:=S.at_ i y hy;exact ⟨a,u,Sh.slot.ix i a h1,h2,h3.sh Sh.slot⟩
  ·have hi':i=st.length:=by
    have:=(AQ.mp hy).1
    rw [AZ,Aq] at this;omega
   subst hi';have e1:(st++[x])[st.length]? = some x:=by simp
   rw [e1] at hy;cases hy;have hl:b.length=st.length:=S.len;exact ⟨p,o,by show (b++[p])[st.length]? = some p;rw [← hl];simp,ho,hx.sh Sh.slot⟩
 ·rcases Ax.mp hm with q |q
  ·exact S.zb a (AE _ ha) q
  ·rw [At.mp q] at ha;exact hz ha
def REnv (K:W.Frag) (H:Hp) (b:Bz) (r:qv) (s:L2.St):Prop:=r.length=s.length ∧ ∀ (i:Nat) (p:PV),r[i]? = some (some p) -> ∃ v,s[i]? = some (some v)∧RV K H b p v
theorem REnv.wext {K:W.Frag} {H H':Hp} {b b':Bz} {r:qv} {s:L2.St} (h:REnv K H b r s) (e:WE H b H' b'):REnv K H' b' r s:=⟨h.1,fun i p q=>by
 obtain ⟨v,h1,h2⟩:=h.2 i p q;exact ⟨v,h1,RV.wext e p h2⟩⟩
theorem REnv.ext {K:W.Frag} {H H':Hp} {b b':Bz} {r:qv} {s:L2.St} (h:REnv K H b r s) (e:Ext H b H' b'):REnv K H' b' r s:=⟨h.1,fun i p q=>by
 obtain ⟨v,h1,h2⟩:=h.2 i p q;exact ⟨v,h1,RV.ext e p h2⟩⟩
theorem REnv.set {K:W.Frag} {H:Hp} {b:Bz} {r:qv} {s:L2.St} {p:PV} {v:V} (h:REnv K H b r s) (hv:RV K H b p v) (i:Nat):REnv K H b (r.set i (some p)) (s.set i (some v)):=by
 refine ⟨by simp [h.1],fun j q hq => ?_⟩
 by_cases hj:i=j
 ·subst hj;have hl:i < r.length:=by
   have:=(AQ.mp hq).1
   simpa using this
  rw [A8 hl] at hq;cases hq;exact ⟨v,by rw [A8 (by rw [← h.1];exact hl)],hv⟩
 ·rw [BJ hj] at hq;obtain ⟨w,h1,h2⟩:=h.2 j q hq;exact ⟨w,by rw [BJ hj];exact h1,h2⟩
def RX (K:W.Frag) (H:Hp) (b:Bz) (x:Exc) (c:Value) (d:Option Addr):Prop :=
 c = .ref x.cls∧((x.fs=[]∧d=none) ∨ ∃ a,d=some a∧H a=some (.xd (x.fs.map fun p=>(p.1,V.int p.2)))∧b.out a)
def XP (K:W.Frag) (E:XK) (H:Hp) (b:Bz) (x:Exc) (st:qB):Prop := ∀ c d H' b',Ext H b H' b'->SR K H' b' st->RX K H' b' x c d->E c d H'
theorem XP.ext {K:W.Frag} {E:XK} {H H1:Hp} {b b1:Bz} {x:Exc} {st:qB} (h:XP K E H b x st) (e:Ext H b H1 b1):XP K E H1 b1 x st:=fun c d H' b' e' S r=>h c d H' b' (e.trans e') S r
def PostE (K:W.Frag) (E:XK) (H:Hp) (b:Bz) (r:Rs PV) (Q:VK):Prop:=match r with
 | .ok p st => ∀ v H' b',Ext H b H' b'->SR K H' b' st->RV K H' b' p v->Q v H'
 | .ex x st=>XP K E H b x st
 | .no=>False
def PostA (K:W.Frag) (E:XK) (H:Hp) (b:Bz) (r:Rs (List PV)) (Q:List V->Hp->Prop):Prop:=match r with
 | .ok ps st => ∀ vs H' b',Ext H b H' b'->SR K H' b' st->RVs K H' b' ps vs->Q vs H'
 | .ex x st=>XP K E H b x st
 | .no=>False
def PostT (K:W.Frag) (E:XK) (H:Hp) (b:Bz) (r:Rs Bool) (Q:Bool->Hp->Prop):Prop:=match r with
 | .ok k st => ∀ H' b',Ext H b H' b'->SR K H' b' st->Q k H'
 | .ex x st=>XP K E H b x st
 | .no=>False
def PostS (K:W.Frag) (E:XK) (H:Hp) (b:Bz) (r:RS) (D:Ends):Prop:=match r with
 | .nx e st => ∀ s H' b',Ext H b H' b'->SR K H' b' st->REnv K H' b' e s->D.nx s H'
 | .bk e st => ∀ s H' b',Ext H b H' b'->SR K H' b' st->REnv K H' b' e s->D.bk s H'
 | .ct e st => ∀ s H' b',Ext H b H' b'->SR K H' b' st->REnv K H' b' e s->D.ct s H'
 | .rt p st => ∀ v H' b',Ext H b H' b'->SR K H' b' st->RV K H' b' p v->D.rt v H'
 | .ex x st=>XP K E H b x st
 | .no=>False
theorem PostE.ext {K:W.Frag} {E:XK} {H H1:Hp} {b b1:Bz} {r:Rs PV} {Q:VK} (h:PostE K E H b r Q) (e:Ext H b H1 b1):PostE K E H1 b1 r Q:=by
 cases r with
 |ok p st=>exact fun v H' b' e'=>h v H' b' (e.trans e')
 |ex x st=>exact XP.ext h e
 |no=>exact h
theorem PostA.ext {K:W.Frag} {E:XK} {H H1:Hp} {b b1:Bz} {r:Rs (List PV)} {Q:List V->Hp->Prop} (h:PostA K E H b r Q) (e:Ext H b H1 b1):PostA K E H1 b1 r Q:=by
 cases r with
 |ok p st=>exact fun v H' b' e'=>h v H' b' (e.trans e')
 |ex x st=>exact XP.ext h e
 |no=>exact h
theorem PostT.ext {K:W.Frag} {E:XK} {H H1:Hp} {b b1:Bz} {r:Rs Bool} {Q:Bool->Hp->Prop} (h:PostT K E H b r Q) (e:Ext H b H1 b1):PostT K E H1 b1 r Q:=by
 cases r with
 |ok p st=>exact fun H' b' e'=>h H' b' (e.trans e')
 |ex x st=>exact XP.ext h e
 |no=>exact h
theorem PostS.ext {K:W.Frag} {E:XK} {H H1:Hp} {b b1:Bz} {r:RS} {D:Ends} (h:PostS K E H b r D) (e:Ext H b H1 b1):PostS K E H1 b1 r D:=by
 cases r with
 |nx p st=>exact fun v H' b' e'=>h v H' b' (e.trans e')
 |bk p st=>exact fun v H' b' e'=>h v H' b' (e.trans e')
 |ct p st=>exact fun v H' b' e'=>h v H' b' (e.trans e')
 |rt p st=>exact fun v H' b' e'=>h v H' b' (e.trans e')
 |ex x st=>exact XP.ext h e
 |no=>exact h
def rd (K:W.Frag) (E:XK) (f:FE):TE:=fun s H Q => ∃ b r st,SR K H b st∧REnv K H b r s∧PostE K E H b (f r st) Q
def rdA (K:W.Frag) (E:XK) (f:FA):L2.TA:=fun s H Q => ∃ b r st,SR K H b st∧REnv K H b r s∧PostA K E H b (f r st) Q
def rdT (K:W.Frag) (E:XK) (f:FT):TT:=fun s H Q => ∃ b r st,SR K H b st∧REnv K H b r s∧PostT K E H b (f r st) Q
def rdS (K:W.Frag) (E:XK) (f:FS):TS:=fun D s H => ∃ b r st,SR K H b st∧REnv K H b r s∧PostS K E H b (f r st) D
abbrev VE (X:Cx) (E:XK) (e:Expr) (f:FE):Prop:=PE X e (rd X.K E f)
abbrev VA (X:Cx) (E:XK) (e:List Expr) (f:FA):Prop:=PA X e (rdA X.K E f)
abbrev VT (X:Cx) (E:XK) (e:Expr) (f:FT):Prop:=PT X e (rdT X.K E f)
abbrev VS (X:Cx) (E:XK) (e:Stmt) (f:FS):Prop:=PS X e (rdS X.K E f)
abbrev VSs (X:Cx) (E:XK) (e:List Stmt) (f:FS):Prop:=PSs X e (rdS X.K E f)
theorem PE.imp {X:Cx} {e:Expr} {t t':TE} (h:PE X e t) (i:∀ s H Q,t' s H Q->t s H Q):PE X e t':=fun pins s σ H Q I q=>h pins s σ H Q I (i _ _ _ q)
theorem PT.imp {X:Cx} {e:Expr} {t t':TT} (h:PT X e t) (i:∀ s H Q,t' s H Q->t s H Q):PT X e t':=fun pins s σ H Q I q=>h pins s σ H Q I (i _ _ _ q)
theorem PA.imp {X:Cx} {e:List Expr} {t t':L2.TA} (h:PA X e t) (i:∀ s H Q,t' s H Q->t s H Q):PA X e t':=fun pos pins s σ H Q I q=>h pos pins s σ H Q I (i _ _ _ q)
theorem PS.imp {X:Cx} {e:Stmt} {t t':TS} (h:PS X e t) (i:∀ D s H,t' D s H->t D s H):PS X e t':=fun pins s σ H D I q=>h pins s σ H D I (i _ _ _ q)
theorem PSs.imp {X:Cx} {e:List Stmt} {t t':TS} (h:PSs X e t) (i:∀ D s H,t' D s H->t D s H):PSs X e t':=fun pins s σ H D I q=>h pins s σ H D I (i _ _ _ q)
theorem PostE.bind {K:W.Frag} {E:XK} {H:Hp} {b:Bz} {r:Rs PV} {k:PV->qB->Rs PV} {Q R:VK} (P:PostE K E H b (r.bind k) Q)
  (h:∀ p st v H1 b1,Ext H b H1 b1->SR K H1 b1 st->RV K H1 b1 p v->PostE K E H1 b1 (k p st) Q->R v H1):PostE K E H b r R:=by
 cases r with
 |ok p st=>exact fun v H1 b1 e S r=>h p st v H1 b1 e S r (PostE.ext (show PostE K E H b (k p st) Q from P) e)
 |ex x st=>exact P
 |no=>exact P
theorem PostE.bindT {K:W.Frag} {E:XK} {H:Hp} {b:Bz} {r:Rs PV} {k:PV->qB->Rs Bool} {Q:Bool->Hp->Prop} {R:VK} (P:PostT K E H b (r.bind k) Q)
  (h:∀ p st v H1 b1,Ext H b H1 b1->SR K H1 b1 st->RV K H1 b1 p v->PostT K E H1 b1 (k p st) Q->R v H1):PostE K E H b r R:=by
 cases r with
 |ok p st=>exact fun v H1 b1 e S r=>h p st v H1 b1 e S r (PostT.ext (show PostT K E H b (k p st) Q from P) e)
 |ex x st=>exact P
 |no=>exact P
theorem PostT.bind {K:W.Frag} {E:XK} {H:Hp} {b:Bz} {r:Rs Bool} {k:Bool->qB->Rs PV} {Q:VK} {R:Bool->Hp->Prop} (P:PostE K E H b (r.bind k) Q)
  (h:∀ p st H1 b1,Ext H b H1 b1->SR K H1 b1 st->PostE K E H1 b1 (k p st) Q->R p H1):PostT K E H b r R:=by
 cases r with
 |ok p st=>exact fun H1 b1 e S=>h p st H1 b1 e S (PostE.ext (show PostE K E H b (k p st) Q from P) e)
 |ex x st=>exact P
 |no=>exact P
theorem PostT.bindT {K:W.Frag} {E:XK} {H:Hp} {b:Bz} {r:Rs Bool} {k:Bool->qB->Rs Bool} {Q R:Bool->Hp->Prop} (P:PostT K E H b (r.bind k) Q)
  (h:∀ p st H1 b1,Ext H b H1 b1->SR K H1 b1 st->PostT K E H1 b1 (k p st) Q->R p H1):PostT K E H b r R:=by
 cases r with
 |ok p st=>exact fun H1 b1 e S=>h p st H1 b1 e S (PostT.ext (show PostT K E H b (k p st) Q from P) e)
 |ex x st=>exact P
 |no=>exact P
theorem PostA.bind {K:W.Frag} {E:XK} {H:Hp} {b:Bz} {r:Rs (List PV)} {k:List PV->qB->Rs PV} {Q:VK} {R:List V->Hp->Prop} (P:PostE K E H b (r.bind k) Q)
  (h:∀ p st v H1 b1,Ext H b H1 b1->SR K H1 b1 st->RVs K H1 b1 p v->PostE K E H1 b1 (k p st) Q->R v H1):PostA K E H b r R:=by
 cases r with
 |ok p st=>exact fun v H1 b1 e S r=>h p st v H1 b1 e S r (PostE.ext (show PostE K E H b (k p st) Q from P) e)
 |ex x st=>exact P
 |no=>exact P
theorem PostE.bindA {K:W.Frag} {E:XK} {H:Hp} {b:Bz} {r:Rs PV} {k:PV->qB->Rs (List PV)} {Q:List V->Hp->Prop} {R:VK} (P:PostA K E H b (r.bind k) Q)
  (h:∀ p st v H1 b1,Ext H b H1 b1->SR K H1 b1 st->RV K H1 b1 p v->PostA K E H1 b1 (k p st) Q->R v H1):PostE K E H b r R:=by
 cases r with
 |ok p st=>exact fun v H1 b1 e S r=>h p st v H1 b1 e S r (PostA.ext (show PostA K E H b (k p st) Q from P) e)
 |ex x st=>exact P
 |no=>exact P
theorem PostA.bindA {K:W.Frag} {E:XK} {H:Hp} {b:Bz} {r:Rs (List PV)} {k:List PV->qB->Rs (List PV)} {Q R:List V->Hp->Prop} (P:PostA K E H b (r.bind k) Q)
  (h:∀ p st v H1 b1,Ext H b H1 b1->SR K H1 b1 st->RVs K H1 b1 p v->PostA K E H1 b1 (k p st) Q->R v H1):PostA K E H b r R:=by
 cases r with
 |ok p st=>exact fun v H1 b1 e S r=>h p st v H1 b1 e S r (PostA.ext (show PostA K E H b (k p st) Q from P) e)
 |ex x st=>exact P
 |no=>exact P
def Rs.bindS {α:Type} (r:Rs α) (k:α->qB->RS):RS:=match r with
 | .ok a st=>k a st
 | .ex x st => .ex x st
 | .no => .no
theorem PostE.bindS {K:W.Frag} {E:XK} {H:Hp} {b:Bz} {r:Rs PV} {k:PV->qB->RS} {D:Ends} {R:VK} (P:PostS K E H b (r.bindS k) D)
  (h:∀ p st v H1 b1,Ext H b H1 b1->SR K H1 b1 st->RV K H1 b1 p v->PostS K E H1 b1 (k p st) D->R v H1):PostE K E H b r R:=by
 cases r with
 |ok p st=>exact fun v H1 b1 e S r=>h p st v H1 b1 e S r (PostS.ext (show PostS K E H b (k p st) D from P) e)
 |ex x st=>exact P
 |no=>exact P
theorem PostT.bindS {K:W.Frag} {E:XK} {H:Hp} {b:Bz} {r:Rs Bool} {k:Bool->qB->RS} {D:Ends} {R:Bool->Hp->Prop} (P:PostS K E H b (r.bindS k) D)
  (h:∀ p st H1 b1,Ext H b H1 b1->SR K H1 b1 st->PostS K E H1 b1 (k p st) D->R p H1):PostT K E H b r R:=by
 cases r with
 |ok p st=>exact fun H1 b1 e S=>h p st H1 b1 e S (PostS.ext (show PostS K E H b (k p st) D from P) e)
 |ex x st=>exact P
 |no=>exact P
theorem PostA.bindS {K:W.Frag} {E:XK} {H:Hp} {b:Bz} {r:Rs (List PV)} {k:List PV->qB->RS} {D:Ends} {R:List V->Hp->Prop} (P:PostS K E H b (r.bindS k) D)
  (h:∀ p st v H1 b1,Ext H b H1 b1->SR K H1 b1 st->RVs K H1 b1 p v->PostS K E H1 b1 (k p st) D->R v H1):PostA K E H b r R:=by
 cases r with
 |ok p st=>exact fun v H1 b1 e S r=>h p st v H1 b1 e S r (PostS.ext (show PostS K E H b (k p st) D from P) e)
 |ex x st=>exact P
 |no=>exact P
def asL (st:qB):PV->Option (List PV)
 | .lst l=>some l
 | .ref i=>match st[i]? with
  |some (.l xs)=>some xs
  |_=>none
 |_=>none
def asT:PV->Option (List PV)
 | .tup l=>some l
 |_=>none
def WG (st:qB) (p:PV):Option (List PV):=match p with
 | .tup l=>some l
 |p=>asL st p
section
variable {K:W.Frag} {H:Hp} {b:Bz} {st:qB} {p:PV} {v:V} {l:List PV}
theorem wA (S:SR K H b st) (r:RV K H b p v) (h:asL st p=some l):∃ a xs,v = .ref a∧SqL K H a xs∧RVs K H b l xs:=by
 cases p with
 |lst m =>unfold RV at r;obtain ⟨a,xs,h1,h2,h3⟩:=r;have e:m=l:=Ai h;subst e;exact ⟨a,xs,h1,h2.sq,h3⟩
 |ref i =>
  unfold RV at r;obtain ⟨a,h1,h2⟩:=r;unfold asL at h;dsimp only at h;cases q:st[i]? with
  |none=>rw [q] at h;cases h
  |some o =>
   cases o with
   |l ys =>rw [q] at h;have e:ys=l:=Ai h;subst e;obtain ⟨a',o,e1,e2,vs,e3,e4⟩:=S.at_ i _ q;rw [h2] at e1;cases e1;subst e3;exact ⟨a,vs,h1,SqL.of e2,e4⟩
   |d ys=>rw [q] at h;cases h
   |z ys=>rw [q] at h;cases h
 |_=>cases h
theorem Zx (S:SR K H b st) (r:RV K H b p v) (h:WG st p=some l):∃ a xs,v = .ref a∧(SqL K H a xs∨SqT K H a xs)∧RVs K H b l xs:=by
 cases p with
 |tup m =>unfold RV at r;obtain ⟨a,xs,h1,h2,h3⟩:=r;have e:m=l:=Ai h;subst e;exact ⟨a,xs,h1,.inr h2.sq,h3⟩
 |lst m =>obtain ⟨a,xs,h1,h2,h3⟩:=wA S r h;exact ⟨a,xs,h1,.inl h2,h3⟩
 |ref i =>obtain ⟨a,xs,h1,h2,h3⟩:=wA S r h;exact ⟨a,xs,h1,.inl h2,h3⟩
 |_=>cases h
end
abbrev FL:=qv->qB->Rs (List PV)
def PostN (K:W.Frag) (E:XK) (H:Hp) (b:Bz) (r:Rs (List PV)) (Q:VK):Prop:=match r with
 | .ok l st => ∀ p xs H' b',Ext H b H' b'->H p=none->H' p=some (.lst xs)->p ∉ b'.z->SR K H' ⟨b'.b,p::b'.z⟩ st->RVs K H' ⟨b'.b,p::b'.z⟩ l xs->Q (.ref p) H'
 | .ex x st=>XP K E H b x st
 | .no=>False
def rdN (K:W.Frag) (E:XK) (f:FL):TE:=fun s H Q => ∃ b r st,SR K H b st∧REnv K H b r s∧PostN K E H b (f r st) Q
abbrev VN (X:Cx) (E:XK) (e:Expr) (f:FL):Prop:=PE X e (rdN X.K E f)
def vFz (f:FL):FE:=fun r st=>(f r st).bind fun l s => .ok (.lst l) s
theorem PostN.of {K:W.Frag} {E:XK} {H:Hp} {b:Bz} {r:Rs (List PV)} {Q:VK} (P:PostE K E H b (r.bind fun l s => .ok (.lst l) s) Q):PostN K E H b r Q:=by
 cases r with
 |ok l st=>exact fun p xs H' b' e hn hp hz S r=>P _ H' b' e S.bare (by unfold RV;exact ⟨p,xs,rfl,.inl ⟨.inl hp,S.zb p AH,hz⟩,RVs.sh Sh.bare l r⟩)
 |ex x st=>exact P
 |no=>exact P
theorem PostN.ext {K:W.Frag} {E:XK} {H H1:Hp} {b b1:Bz} {r:Rs (List PV)} {Q:VK} (h:PostN K E H b r Q) (e:Ext H b H1 b1):PostN K E H1 b1 r Q:=by
 cases r with
 |ok p st=>exact fun p xs H' b' e' hn=>h p xs H' b' (e.trans e') (e.none_of hn)
 |ex x st=>exact XP.ext h e
 |no=>exact h
theorem PostN.lay {K:W.Frag} {E:XK} {H:Hp} {b:Bz} {st:qB} {l:List PV} {xs:List V} {Q:VK} (P:PostN K E H b (.ok l st) Q) (S:SR K H b st) (r:RVs K H b l xs) {p:Addr} (h:H p=none):Q (.ref p) (upd H p (.lst xs)) :=
 P p xs _ b (Ext.new h) h qw (S.new_notin h).2 (SR.hide S h) (RV.hide.hds h l r)
theorem PostE.layT {K:W.Frag} {E:XK} {H:Hp} {b:Bz} {st:qB} {l:List PV} {xs:List V} {Q:VK} (P:PostE K E H b (.ok (.tup l) st) Q) (S:SR K H b st) (r:RVs K H b l xs) {p:Addr} (h:H p=none):Q (.ref p) (upd H p (.tup xs)) :=
 P _ _ b (Ext.new h) (S.new h) (by unfold RV;exact ⟨p,xs,rfl,.inl ⟨qw,S.new_notin h⟩,RVs.ext (Ext.new h) l r⟩)
theorem PostE.here {K:W.Frag} {E:XK} {H:Hp} {b:Bz} {st:qB} {p:PV} {v:V} {Q:VK} (P:PostE K E H b (.ok p st) Q) (S:SR K H b st) (r:RV K H b p v):Q v H:=P v H b (Ext.refl H b) S r
section
variable {X:Cx} {E:XK} {e a c d:Expr} {es:List Expr} {f fa fb fc:FE} {pos:Pos}
theorem ql {f:FL} (h:VN X E e f):VE X E e (vFz f):=PE.imp h fun s H Q ⟨b,r,st,S,R,P⟩=>⟨b,r,st,S,R,PostN.of P⟩
def vC (p:PV):FE:=fun _ st => .ok p st
def qD (i:Nat):FE:=fun r st=>match r[i]? with
 |some (some p) => .ok p st
 |_ => .no
theorem qAy {p:PV} {v:V} (h:PE X e (tC v)) (hv:∀ H b,RV X.K H b p v):VE X E e (vC p):=PE.imp h fun s H Q ⟨b,r,st,S,R,P⟩=>PostE.here P S (hv H b)
theorem qG {i:Int} {j pos}:VE X E (.Constant (.int i) j pos) (vC (.int i)):=qAy qJM fun _ _=>by unfold RV;rfl
theorem wb {i:Bool} {j pos}:VE X E (.Constant (.bool i) j pos) (vC (.bl i)):=qAy qJx fun _ _=>by unfold RV;rfl
theorem Jb {j pos}:VE X E (.Constant .none j pos) (vC .non):=qAy qIk fun _ _=>by unfold RV;rfl
theorem Qh {x:Str} {j pos}:VE X E (.Constant (.str x) j pos) (vC (.str x)):=qAy qFL fun _ _=>by unfold RV;rfl
theorem wo {x:Str} {i:Int} {t:Tok} {pos:Pos} (hg:Gl X x) (hm:X.mg x=some (.int i t)) (hd:(x==("__debug__":Str))=false:=by decide):VE X E (.Name x pos) (vC (.int i)) :=
 qAy (qCJ (v := .int i) hg hm ⟨t,rfl⟩ hd) fun _ _=>by unfold RV;rfl
theorem qJu {i:Nat} (h:PE X e (Y1 i)):VE X E e (qD i):=PE.imp h fun s H Q ⟨b,r,st,S,R,P⟩=>by
 unfold qD at P;cases q:r[i]? with
 |none=>rw [q] at P;exact False.elim P
 |some o =>
  cases o with
  |none=>rw [q] at P;exact False.elim P
  |some p =>rw [q] at P;obtain ⟨v,h1,h2⟩:=R.2 i p q;exact ⟨v,h1,PostE.here P S h2⟩
def qN (g:PV->PV->qB->Rs PV) (fa fb:FE):FE:=fun r st=>(fa r st).bind fun p s1=>(fb r s1).bind fun q s2=>g p q s2
def OpG (X:Cx) (E:XK) (t:R2) (g:PV->PV->qB->Rs PV):Prop :=
 ∀ (H:Hp) (b:Bz) (st:qB) (p q:PV) (u v:V) (Q:VK),SR X.K H b st->RV X.K H b p u->RV X.K H b q v->PostE X.K E H b (g p q st) Q->t u v H Q
theorem jk {t:R2} {g:PV->PV->qB->Rs PV} (hg:OpG X E t g):∀ s H Q,rd X.K E (qN g fa fb) s H Q->tOp t (rd X.K E fa) (rd X.K E fb) s H Q:=fun s H Q ⟨b,r,st,S,R,P⟩ =>
 ⟨b,r,st,S,R,PostE.bind P fun p s1 u H1 b1 e1 S1 r1 P1=>⟨b1,r,s1,S1,R.ext e1,PostE.bind P1 fun q s2 v H2 b2 e2 S2 r2 P2=>hg H2 b2 s2 p q u v Q S2 (RV.ext e2 p r1) r2 P2⟩⟩
theorem Z4 {op:Operator} {t:R2} {g:PV->PV->qB->Rs PV} (ho:OpR X (binaryOp op) t) (hg:OpG X E t g) (ha:VE X E a fa) (hb:VE X E c fb):VE X E (.BinOp a op c pos) (qN g fa fb):=PE.imp (qHi ho ha hb) (jk hg)
theorem jr {op:CmpOp} {t:R2} {g:PV->PV->qB->Rs PV} (ho:OpR X (compareOp op) t) (hg:OpG X E t g) (ha:VE X E a fa) (hb:VE X E c fb) (hm:behindInMarks op c=false:=by first |exact qBp _ |with_unfolding_all rfl):VE X E (.Compare a [op] [c] pos) (qN g fa fb):=PE.imp (qGG ho ha hb hm) (jk hg)
def gI (g:Int->Int->Option PV):PV->PV->qB->Rs PV:=fun p q st=>match p,q with
 | .int i,.int j=>match g i j with
  |some z => .ok z st
  |none => .no
 |_,_ => .no
theorem qFx {C:Int->Int->Prop} {h:Int->Int->V} {g:Int->Int->Option PV} (hg:∀ i j z,g i j=some z->C i j ∧ ∀ H b,RV X.K H b z (h i j)):OpG X E (rI C h) (gI g):=by
 intro H b st p q u v Q S rp rq P;unfold gI at P;split at P
 ·rename_i i j;unfold RV at rp rq;split at P
  ·rename_i z e;obtain ⟨c,r⟩:=hg i j z e;exact ⟨i,j,rp,rq,c,PostE.here P S (r H b)⟩
  ·exact P.elim
 ·exact P.elim
theorem qAA {h:Int->Int->V} {g:Int->Int->PV} (hg:∀ i j H b,RV X.K H b (g i j) (h i j)):OpG X E (rI0 h) (gI fun i j=>some (g i j)):=by
 intro H b st p q u v Q S rp rq P;unfold gI at P;split at P
 ·rename_i i j;unfold RV at rp rq;exact ⟨i,j,rp,rq,PostE.here P S (hg i j H b)⟩
 ·exact P.elim
theorem Qx {K:W.Frag} {H:Hp} {b:Bz} {i:Int}:RV K H b (.int i) (.int i):=by unfold RV;rfl
theorem zN {K:W.Frag} {H:Hp} {b:Bz} {i:Bool}:RV K H b (.bl i) (.bl i):=by unfold RV;rfl
def zM:=gI fun i j=>some (.int (i - j))
def Wd:=gI fun i j=>if (-(2 ^ 64) < i∧i < 2 ^ 64)∨(-(2 ^ 64) < j∧j < 2 ^ 64) then some (.int (i * j)) else none
def yo:=gI fun i j=>if 0 < j∧j < 1073741824 then some (.int (i / j)) else none
def ZM:=gI fun i j=>if 0 < j then some (.int (i % j)) else none
def qGd:=gI fun i j=>if 0≤j∧j≤1000000∧i.natAbs < 2 ^ 64 then some (.int (i ^ j.toNat)) else none
theorem zW (ha:VE X E a fa) (hb:VE X E c fb):VE X E (.BinOp a .Sub c pos) (qN zM fa fb):=Z4 qIx (qAA fun _ _ _ _=>Qx) ha hb
theorem Wv (ha:VE X E a fa) (hb:VE X E c fb):VE X E (.BinOp a .Mult c pos) (qN Wd fa fb):=Z4 qI4 (qFx fun i j z e=>by
 split at e
 ·rename_i h;cases e;exact ⟨h,fun _ _=>Qx⟩
 ·cases e) ha hb
theorem qBe (ha:VE X E a fa) (hb:VE X E c fb):VE X E (.BinOp a .FloorDiv c pos) (qN yo fa fb):=Z4 qHD (qFx fun i j z e=>by
 split at e
 ·rename_i h;cases e;exact ⟨h,fun _ _=>Qx⟩
 ·cases e) ha hb
theorem yL (ha:VE X E a fa) (hb:VE X E c fb):VE X E (.BinOp a .Mod c pos) (qN ZM fa fb):=Z4 qIc (qFx fun i j z e=>by
 split at e
 ·rename_i h;cases e;exact ⟨h,fun _ _=>Qx⟩
 ·cases e) ha hb
theorem qA9 (ha:VE X E a fa) (hb:VE X E c fb):VE X E (.BinOp a .Pow c pos) (qN qGd fa fb):=Z4 qJi (qFx fun i j z e=>by
 split at e
 ·rename_i h;cases e;exact ⟨h,fun _ _=>Qx⟩
 ·cases e) ha hb
def Q3:=gI fun i j=>some (.int (i + j))
theorem Qb (ha:VE X E a fa) (hb:VE X E c fb):VE X E (.BinOp a .Add c pos) (qN Q3 fa fb):=Z4 qJU (qAA fun _ _ _ _=>Qx) ha hb
def qIo:PV->PV->qB->Rs PV:=fun p q st=>match p,q with
 | .str x,.str y=>if x.length + y.length≤sizeLine then .ok (.str (x++y)) st else .no
 |_,_ => .no
theorem qHT (ha:VE X E a fa) (hb:VE X E c fb):VE X E (.BinOp a .Add c pos) (qN qIo fa fb):=Z4 qBl (fun H b st p q u v Q S rp rq P=>by
 unfold qIo at P;split at P
 ·rename_i x y;unfold RV at rp rq;split at P
  ·rename_i h;exact ⟨x,y,rp,rq,h,PostE.here P S (by unfold RV;rfl)⟩
  ·exact P.elim
 ·exact P.elim) ha hb
def gLt:=gI fun i j=>some (.bl (decide (i < j)))
def gLe:=gI fun i j=>some (.bl (decide (i≤j)))
def gGt:=gI fun i j=>some (.bl (decide (j < i)))
theorem qHz:OpG X E (rI0 fun i j => .bl (decide (i < j))) gLt:=qAA fun _ _ _ _=>zN
theorem yi:OpG X E (rI0 fun i j => .bl (decide (i≤j))) gLe:=qAA fun _ _ _ _=>zN
theorem qAf:OpG X E (rI0 fun i j => .bl (decide (j < i))) gGt:=qAA fun _ _ _ _=>zN
theorem qHf (ha:VE X E a fa) (hb:VE X E c fb):VE X E (.Compare a [.LtE] [c] pos) (qN gLe fa fb):=jr yb yi ha hb
def zQ (g g':PV->PV->qB->Rs PV) (fa fb fc:FE):FE:=fun r st=>(fa r st).bind fun p s1=>(fb r s1).bind fun q s2=>(g p q s2).bind fun z s3=>match z with
 | .bl true=>(fc r s3).bind fun w s4=>g' q w s4
 | .bl false => .ok (.bl false) s3
 |_ => .no
theorem qEe {op op':CmpOp} {t t':R2} {g g':PV->PV->qB->Rs PV} (ho:OpR X (compareOp op) t) (ho':OpR X (compareOp op') t') (hg:OpG X E t g) (hg':OpG X E t' g') (ha:VE X E a fa) (hb:VE X E c fb) (hc:VE X E d fc)
  (hm:lastMarks [op,op'] [c,d]=false:=by with_unfolding_all rfl):VE X E (.Compare a [op,op'] [c,d] pos) (zQ g g' fa fb fc):=by
 refine PE.imp (qD9 ho ho' ha hb hc hm) fun s H Q ⟨b,r,st,S,R,P⟩ => ?_;refine ⟨b,r,st,S,R,PostE.bind P fun p s1 u H1 b1 e1 S1 r1 P1=>⟨b1,r,s1,S1,R.ext e1,PostE.bind P1 fun q s2 v H2 b2 e2 S2 r2 P2 => ?_⟩⟩;refine hg H2 b2 s2 p q u v _ S2 (RV.ext e2 p r1) r2 (PostE.bind P2 fun z s3 zv H3 b3 e3 S3 r3 P3 => ?_);split at P3
 ·unfold RV at r3;refine ⟨true,r3,qAj ⟨b3,r,s3,S3,((R.ext e1).ext e2).ext e3,PostE.bind P3 fun w s4 wv H4 b4 e4 S4 r4 P4 => ?_⟩⟩;exact hg' H4 b4 s4 q w v wv Q S4 (RV.ext e4 q (RV.ext e3 q r2)) r4 P4
 ·unfold RV at r3;exact ⟨false,r3,Jr (PostE.here P3 S3 zN)⟩
 ·exact P3.elim
def qCP (st:qB):PV->Option Bool
 | .non=>some false
 | .bl x=>some x
 | .int i=>some (i != 0)
 | .tup l=>some (!l.isEmpty)
 | .lst l=>some (!l.isEmpty)
 | .ref i=>(asL st (.ref i)).map fun l => !l.isEmpty
 |_=>none
theorem YO {K:W.Frag} {H:Hp} {b:Bz} {st:qB} {p:PV} {v:V} {k:Bool} (S:SR K H b st) (r:RV K H b p v) (h:qCP st p=some k):qE7 K v H k:=by
 have emp:∀ {l:List PV} {xs:List V},RVs K H b l xs->(!l.isEmpty) = !xs.isEmpty:=fun {l xs} q=>by
  have:=q.length
  cases l <;> cases xs <;> first |rfl |(simp at this)
 cases p with
 |non=>unfold RV at r;subst r;exact (Ai h).symm
 |bl x=>unfold RV at r;subst r;exact (Ai h).symm
 |int x=>unfold RV at r;subst r;exact (Ai h).symm
 |tup l =>unfold RV at r;obtain ⟨a,xs,rfl,h2,h3⟩:=r;exact .inr (.inl ⟨xs,h2.sq,by rw [← emp h3];exact (Ai h).symm⟩)
 |lst l =>obtain ⟨a,xs,rfl,h2,h3⟩:=wA S r rfl;exact .inl ⟨xs,h2,by rw [← emp h3];exact (Ai h).symm⟩
 |ref i =>
  unfold qCP at h;dsimp only at h;cases q:asL st (.ref i) with
  |none=>rw [q] at h;cases h
  |some l =>rw [q] at h;obtain ⟨a,xs,rfl,h2,h3⟩:=wA S r q;exact .inl ⟨xs,h2,by rw [← emp h3];exact (Ai h).symm⟩
 |_=>cases h
def Qd (f:FE):FT:=fun r st=>(f r st).bind fun p s=>match qCP s p with
 |some k => .ok k s
 |none => .no
theorem qEl {R:Bool->Hp->Prop} {s:L2.St} {H:Hp} (h:rdT X.K E (Qd f) s H R):rd X.K E f s H fun x H' => ∃ k,qE7 X.K x H' k∧R k H':=by
 obtain ⟨b,r,st,S,RE,P⟩:=h;refine ⟨b,r,st,S,RE,PostE.bindT P fun p s1 u H1 b1 e1 S1 r1 P1 => ?_⟩;split at P1
 ·rename_i k e;exact ⟨k,YO S1 r1 e,P1 H1 b1 (Ext.refl _ _) S1⟩
 ·exact P1.elim
theorem Q8 (h:VE X E e f) (he:∀ whole,isTrue e X.env whole=(do let v ← whole;standAt e.pos;holding [v] (truthy v)):=by intro _;rfl):VT X E e (Qd f):=PT.imp (qEV h he) fun s H Q q=>qEl q
def vTB (f:FE):FT:=fun r st=>(f r st).bind fun p s=>match p with
 | .bl k => .ok k s
 |_ => .no
theorem qHe {R:Bool->Hp->Prop} {s:L2.St} {H:Hp} (h:rdT X.K E (vTB f) s H R):rd X.K E f s H fun x H' => ∃ k,x = .bl k∧R k H':=by
 obtain ⟨b,r,st,S,RE,P⟩:=h;refine ⟨b,r,st,S,RE,PostE.bindT P fun p s1 u H1 b1 e1 S1 r1 P1 => ?_⟩;split at P1
 ·rename_i k;unfold RV at r1;exact ⟨k,r1,P1 H1 b1 (Ext.refl _ _) S1⟩
 ·exact P1.elim
theorem Qf {op:CmpOp} {t:R2} {g:PV->PV->qB->Rs PV} (ho:OpR X (compareOp op) t) (hg:OpG X E t g) (ha:VE X E a fa) (hb:VE X E c fb) (hm:behindInMarks op c=false:=by first |exact qBp _ |with_unfolding_all rfl):VT X E (.Compare a [op] [c] pos) (vTB (qN g fa fb)) :=
 PT.imp (qF2 ho ha hb hm) fun s H Q q=>jk hg s H _ (qHe q)
theorem J1 {op op':CmpOp} {t t':R2} {g g':PV->PV->qB->Rs PV} (ho:OpR X (compareOp op) t) (ho':OpR X (compareOp op') t') (hg:OpG X E t g) (hg':OpG X E t' g') (ha:VE X E a fa) (hb:VE X E c fb) (hc:VE X E d fc)
  (hm:lastMarks [op,op'] [c,d]=false:=by with_unfolding_all rfl):VT X E (.Compare a [op,op'] [c,d] pos) (vTB (zQ g g' fa fb fc)):=by
 refine PT.imp (qFp ho ho' ha hb hc hm) fun s H Q q => ?_;obtain ⟨b,r,st,S,R,P⟩:=qHe q;refine ⟨b,r,st,S,R,PostE.bind P fun p s1 u H1 b1 e1 S1 r1 P1=>⟨b1,r,s1,S1,R.ext e1,PostE.bind P1 fun q s2 v H2 b2 e2 S2 r2 P2 => ?_⟩⟩;refine hg H2 b2 s2 p q u v _ S2 (RV.ext e2 p r1) r2 (PostE.bind P2 fun z s3 zv H3 b3 e3 S3 r3 P3 => ?_);split at P3
 ·unfold RV at r3;refine ⟨true,r3,qAj ⟨b3,r,s3,S3,((R.ext e1).ext e2).ext e3,PostE.bind P3 fun w s4 wv H4 b4 e4 S4 r4 P4 => ?_⟩⟩;exact hg' H4 b4 s4 q w v wv _ S4 (RV.ext e4 q (RV.ext e3 q r2)) r4 P4
 ·unfold RV at r3;exact ⟨false,r3,Jr (PostE.here P3 S3 zN)⟩
 ·exact P3.elim
def wF (f:FT):FT:=fun r st=>(f r st).bind fun k s => .ok (!k) s
theorem Q2 {f:FT} (h:VT X E a f):VT X E (.UnaryOp .Not a pos) (wF f):=PT.imp (qJE h) fun s H Q ⟨b,r,st,S,R,P⟩=>⟨b,r,st,S,R,PostT.bindT P fun k s1 H1 b1 e1 S1 P1=>P1 H1 b1 (Ext.refl _ _) S1⟩
abbrev VW (X:Cx) (E:XK) (e:Expr) (f:FT):Prop:=PW X e (rdT X.K E f)
theorem PW.imp {X:Cx} {e:Expr} {t t':TT} (h:PW X e t) (i:∀ s H Q,t' s H Q->t s H Q):PW X e t':=fun w pins s σ H Q I q=>h w pins s σ H Q I (i _ _ _ q)
def Yn (f g:FT):FT:=fun r st=>(f r st).bind fun k s=>if k=true then g r s else .ok false s
def zD (f g:FT):FT:=fun r st=>(f r st).bind fun k s=>if k=true then .ok true s else g r s
theorem qHI {f:FT} (h:VT X E a f):VW X E (.BoolOp .And [a] pos) f:=qG7 h
theorem Wb {f:FT} (h:VT X E a f):VW X E (.BoolOp .Or [a] pos) f:=qJI h
theorem qJF {f g:FT} {rest:List Expr} (h:VT X E a f) (h2:VW X E (.BoolOp .And (c::rest) pos) g):VW X E (.BoolOp .And (a::c::rest) pos) (Yn f g):=PW.imp (qI5 h h2) fun s H Q ⟨b,r,st,S,R,P⟩ =>
 ⟨b,r,st,S,R,PostT.bindT P fun k s1 H1 b1 e1 S1 P1=>by
  cases k with
  |true=>exact qAj ⟨b1,r,s1,S1,R.ext e1,P1⟩
  |false=>exact Jr (P1 H1 b1 (Ext.refl _ _) S1)⟩
theorem W4 {f g:FT} {rest:List Expr} (h:VT X E a f) (h2:VW X E (.BoolOp .Or (c::rest) pos) g):VW X E (.BoolOp .Or (a::c::rest) pos) (zD f g):=PW.imp (qKG h h2) fun s H Q ⟨b,r,st,S,R,P⟩ =>
 ⟨b,r,st,S,R,PostT.bindT P fun k s1 H1 b1 e1 S1 P1=>by
  cases k with
  |true=>exact qAj (P1 H1 b1 (Ext.refl _ _) S1)
  |false=>exact Jr ⟨b1,r,s1,S1,R.ext e1,P1⟩⟩
theorem Z8 {f:FT} (h:VW X E e f):VT X E e f:=h.pt
def qIA (f:FE):FE:=fun r st=>(f r st).bind fun p s=>match p with
 | .bl k => .ok (.bl (!k)) s
 |_ => .no
theorem qFu (h:VE X E a fa):VE X E (.UnaryOp .Not a pos) (qIA fa):=PE.imp (qIy h) fun s H Q ⟨b,r,st,S,R,P⟩ =>
 ⟨b,r,st,S,R,PostE.bind P fun p s1 u H1 b1 e1 S1 r1 P1=>by
  split at P1
  ·rename_i k;unfold RV at r1;exact ⟨k,r1,PostE.here P1 S1 zN⟩
  ·exact P1.elim⟩
def zy (f g:FE):FE:=fun r st=>(f r st).bind fun p s=>match p with
 | .bl true=>g r s
 | .bl false => .ok (.bl false) s
 |_ => .no
theorem ZE {op} (h:VE X E a fa):VE X E (.BoolOp op [a] pos) fa:=qJQ h
theorem zt {rest:List Expr} (h:VE X E a fa) (h2:VE X E (.BoolOp .And (c::rest) pos) fb):VE X E (.BoolOp .And (a::c::rest) pos) (zy fa fb):=PE.imp (qJd h h2) fun s H Q ⟨b,r,st,S,R,P⟩ =>
 ⟨b,r,st,S,R,PostE.bind P fun p s1 u H1 b1 e1 S1 r1 P1=>by
  split at P1
  ·unfold RV at r1;exact ⟨true,r1,qAj ⟨b1,r,s1,S1,R.ext e1,P1⟩⟩
  ·unfold RV at r1;exact ⟨false,r1,Jr (PostE.here P1 S1 zN)⟩
  ·exact P1.elim⟩
def vIf (t:FT) (f g:FE):FE:=fun r st=>(t r st).bind fun k s=>if k=true then f r s else g r s
theorem qKa {t:FT} (hc:VT X E e t) (ha:VE X E a fa) (hb:VE X E c fb):VE X E (.IfExp e a c pos) (vIf t fa fb):=PE.imp (qFN hc ha hb) fun s H Q ⟨b,r,st,S,R,P⟩ =>
 ⟨b,r,st,S,R,PostT.bind P fun k s1 H1 b1 e1 S1 P1=>by
  cases k with
  |true=>exact qAj ⟨b1,r,s1,S1,R.ext e1,P1⟩
  |false=>exact Jr ⟨b1,r,s1,S1,R.ext e1,P1⟩⟩
def qC:FA:=fun _ st => .ok [] st
def qA (f:FE) (g:FA):FA:=fun r st=>(f r st).bind fun p s=>(g r s).bind fun ps s' => .ok (p::ps) s'
theorem qF:VA X E [] qC:=PA.imp Z9 fun s H Q ⟨b,r,st,S,R,P⟩=>P [] H b (Ext.refl _ _) S RVs.nil
theorem wD {f:FE} {g:FA} (h:VE X E e f) (h2:VA X E es g) (hs:starEach (e::es) X.env=(false,eval e X.env)::starEach es X.env:=by rfl):VA X E (e::es) (qA f g):=PA.imp (zY h h2 hs) fun s H Q ⟨b,r,st,S,R,P⟩ =>
 ⟨b,r,st,S,R,PostE.bindA P fun p s1 u H1 b1 e1 S1 r1 P1=>⟨b1,r,s1,S1,R.ext e1,PostA.bindA P1 fun ps s2 us H2 b2 e2 S2 r2 P2=>P2 (u::us) H2 b2 (Ext.refl _ _) S2 (RVs.cons (RV.ext e2 p r1) r2)⟩⟩
def QT (g:FA):FE:=fun r st=>(g r st).bind fun ps s=>if ps.length≤sizeLine then .ok (.tup ps) s else .no
theorem qr {g:FA} {x1} (h:VA X E es g):VE X E (.Tuple es x1 pos) (QT g):=PE.imp (qIW h) fun s H Q ⟨b,r,st,S,R,P⟩ =>
 ⟨b,r,st,S,R,PostA.bind P fun ps s1 us H1 b1 e1 S1 r1 P1=>by
  split at P1
  ·rename_i hl;exact ⟨by rw [← r1.length];exact hl,fun p hp=>PostE.layT P1 S1 r1 hp⟩
  ·exact P1.elim⟩
def Q6 (g:FA):FL:=fun r st=>(g r st).bind fun ps s=>if ps.length≤sizeLine then .ok ps s else .no
theorem PostA.bindN {K:W.Frag} {E:XK} {H:Hp} {b:Bz} {r:Rs (List PV)} {k:List PV->qB->Rs (List PV)} {Q:VK} {R:List V->Hp->Prop} (P:PostN K E H b (r.bind k) Q)
  (h:∀ p st v H1 b1,Ext H b H1 b1->SR K H1 b1 st->RVs K H1 b1 p v->PostN K E H1 b1 (k p st) Q->R v H1):PostA K E H b r R:=by
 cases r with
 |ok p st=>exact fun v H1 b1 e S r=>h p st v H1 b1 e S r (PostN.ext (show PostN K E H b (k p st) Q from P) e)
 |ex x st=>exact P
 |no=>exact P
theorem PostE.bindN {K:W.Frag} {E:XK} {H:Hp} {b:Bz} {r:Rs PV} {k:PV->qB->Rs (List PV)} {Q:VK} {R:VK} (P:PostN K E H b (r.bind k) Q)
  (h:∀ p st v H1 b1,Ext H b H1 b1->SR K H1 b1 st->RV K H1 b1 p v->PostN K E H1 b1 (k p st) Q->R v H1):PostE K E H b r R:=by
 cases r with
 |ok p st=>exact fun v H1 b1 e S r=>h p st v H1 b1 e S r (PostN.ext (show PostN K E H b (k p st) Q from P) e)
 |ex x st=>exact P
 |no=>exact P
theorem QX {g:FA} (h:VA X E es g):VN X E (.List es pos) (Q6 g):=PE.imp (qJD h) fun s H Q ⟨b,r,st,S,R,P⟩ =>
 ⟨b,r,st,S,R,PostA.bindN P fun ps s1 us H1 b1 e1 S1 r1 P1=>by
  split at P1
  ·rename_i hl;exact ⟨by rw [← r1.length];exact hl,fun p hp=>PostN.lay P1 S1 r1 hp⟩
  ·exact P1.elim⟩
theorem qGa {K:W.Frag} {H:Hp} {b:Bz} {l:List PV} {xs:List V} {i:Int} {p:PV} (r:RVs K H b l xs) (h:atI l i=some p):∃ x,atI xs i=some x∧RV K H b p x:=by
 unfold atI at h ⊢;rw [← r.length];cases q:ixN l.length i with
 |none=>rw [q] at h;cases h
 |some j=>rw [q] at h;exact r.get h
def gIx:PV->PV->qB->Rs PV:=fun p q st=>match q with
 | .int i=>match WG st p with
  |some l=>match atI l i with
   |some z => .ok z st
   |none => .no
  |none => .no
 |_ => .no
theorem wT (ha:VE X E a fa) (hb:VE X E c fb) (hs:qCO c:=by exact fun _ _=>rfl):VE X E (.Subscript a c pos) (qN gIx fa fb):=PE.imp (qKM qIz ha hb hs) (jk fun H b st p q u v Q S rp rq P=>by
 unfold gIx at P;split at P
 ·rename_i i;unfold RV at rq;split at P
  ·rename_i l e;split at P
   ·rename_i z ez;obtain ⟨x1,xs,h1,h2,h3⟩:=Zx S rp e;obtain ⟨x,h4,h5⟩:=qGa h3 ez;rcases h2 with h2 |h2
    ·exact .inl ⟨x1,xs,i,x,h1,rq,h2,h4,PostE.here P S h5⟩
    ·exact .inr (.inl ⟨x1,xs,i,x,h1,rq,h2,h4,PostE.here P S h5⟩)
   ·exact P.elim
  ·exact P.elim
 ·exact P.elim)
def qI (g:List PV->qB->Rs PV) (t:FA):FE:=fun r st=>(t r st).bind fun ps s=>g ps s
def spG (K:W.Frag) (n:Nat) (g:List PV->qB->Rs PV):Sp:=fun vs H Q E=>vs.length=n ∧ ∃ b ps st,SR K H b st∧RVs K H b ps vs∧PostE K E H b (g ps st) Q
def qIV (X:Cx) (E:XK) (x:Str) (g:List PV->qB->Rs PV):Prop := ∀ (p pos:Pos) (e:Expr) (es:List Expr) (t:FA),VA X E (e::es) t->starEach (e::es) X.env=(false,eval e X.env)::starEach es X.env->(backTo pos (starEach es X.env)).any (·.1)=false->VE X E (.Call (.Name x p) (e::es) [] pos) (qI g t)
theorem qP {x:Str} {g:List PV->qB->Rs PV} {t:FA} {p:Pos} (hc:qIV X E x g) (ha:VA X E (e::es) t) (he:starEach (e::es) X.env=(false,eval e X.env)::starEach es X.env:=by rfl) (hpl:(backTo pos (starEach es X.env)).any (·.1)=false:=by rfl):VE X E (.Call (.Name x p) (e::es) [] pos) (qI g t):=hc p pos e es t ha he hpl
theorem qLC {CX:CXT} {k n:Nat} {fa:Addr} {fd:FuncData} {ps:List Str} {x:Str} {g:List PV->qB->Rs PV} (F:FnOk X.prog X.w X.K X.mg X.base CX k fa fd ps (spG X.K ps.length g)) (hr:Room k X.A) (hg:Gl X x) (hm:X.mg x=some (.ref fa)) (hk:W.keepIn X.K (.ref fa)=true)
  (hb:Binds X.K fd ps []) (hx:zx CX X E) (hlen:∀ l st,g l st ≠ .no->l.length=ps.length) (hdb:(x==("__debug__":Str))=false:=by decide):qIV X E x g:=fun p pos e es t ha he hpl =>
 PE.imp (qGq F hr hg hm hk hb .nil hx ha hdb he hpl) fun s H Q ⟨b,r,st,S,R,P⟩=>⟨b,r,st,S,R,PostA.bind P fun l s1 us H1 b1 e1 S1 r1 P1=>by
  have hne:g l s1 ≠ .no:=fun z=>by rw [z] at P1;exact P1
  rw [BA];exact ⟨by rw [← r1.length];exact hlen l s1 hne,b1,l,s1,S1,r1,P1⟩⟩
def ZP (X:Cx) (E:XK) (t:List V->Hp->VK->Prop) (g:List PV->qB->Rs PV):Prop :=
 ∀ (H:Hp) (b:Bz) (st:qB) (ps:List PV) (vs:List V) (Q:VK),SR X.K H b st->RVs X.K H b ps vs->PostE X.K E H b (g ps st) Q->t vs H Q
theorem WZ {x:Str} {id:String} {t:List V->Hp->VK->Prop} {g:List PV->qB->Rs PV} {ta:FA} {p:Pos} (hc:Wu X (.builtin id) t) (hG:ZP X E t g) (hg:Gl X x) (hm:X.mg x=none) (hv:bootBuiltins x=some (.builtin id)) (ha:VA X E (e::es) ta) (hn:x ≠ "__name__" := by decide) (hdb:(x==("__debug__":Str))=false:=by decide)
  (he:starEach (e::es) X.env=(false,eval e X.env)::starEach es X.env:=by rfl) (hpl:(backTo pos (starEach es X.env)).any (·.1)=false:=by rfl):VE X E (.Call (.Name x p) (e::es) [] pos) (qI g ta) :=
 PE.imp (qD2 hc hg hm hv ha hn hdb he hpl) fun s H Q ⟨b,r,st,S,R,P⟩=>⟨b,r,st,S,R,PostA.bind P fun l s1 us H1 b1 e1 S1 r1 P1=>hG H1 b1 s1 l us Q S1 r1 P1⟩
theorem jO {x:Str} {T:String} {t:List V->Hp->VK->Prop} {g:List PV->qB->Rs PV} {ta:FA} {p:Pos} (hc:Wu X (.type T) t) (hG:ZP X E t g) (hg:Gl X x) (hm:X.mg x=none) (hv:bootBuiltins x=some (.type T)) (ha:VA X E (e::es) ta) (hn:x ≠ "__name__" := by decide) (hdb:(x==("__debug__":Str))=false:=by decide)
  (he:starEach (e::es) X.env=(false,eval e X.env)::starEach es X.env:=by rfl) (hpl:(backTo pos (starEach es X.env)).any (·.1)=false:=by rfl):VE X E (.Call (.Name x p) (e::es) [] pos) (qI g ta) :=
 PE.imp (jS hc hg hm hv ha hn hdb he hpl) fun s H Q ⟨b,r,st,S,R,P⟩=>⟨b,r,st,S,R,PostA.bind P fun l s1 us H1 b1 e1 S1 r1 P1=>hG H1 b1 s1 l us Q S1 r1 P1⟩
theorem RVs.one {K:W.Frag} {H:Hp} {b:Bz} {p:PV} {vs:List V} (h:RVs K H b [p] vs):∃ v,vs=[v]∧RV K H b p v:=by unfold RVs at h;obtain ⟨x,r,rfl,h2,h3⟩:=h;unfold RVs at h3;subst h3;exact ⟨x,rfl,h2⟩
theorem RVs.two {K:W.Frag} {H:Hp} {b:Bz} {p q:PV} {vs:List V} (h:RVs K H b [p,q] vs):∃ v w,vs=[v,w]∧RV K H b p v∧RV K H b q w:=by unfold RVs at h;obtain ⟨x,r,rfl,h2,h3⟩:=h;obtain ⟨y,rfl,h4⟩:=RVs.one h3;exact ⟨x,y,rfl,h2,h4⟩
def w8:List PV->qB->Rs PV:=fun ps st=>match ps with
 |[p]=>match WG st p with
  |some l => .ok (.int l.length) st
  |none => .no
 |_ => .no
theorem qJb:ZP X E (fun xs H Q => ∃ p ys,xs=[.ref p]∧(SqL X.K H p ys∨SqT X.K H p ys)∧Q (.int ys.length) H) w8:=by
 intro H b st ps vs Q S r P;unfold w8 at P;split at P
 ·rename_i p;obtain ⟨v,rfl,r1⟩:=RVs.one r;split at P
  ·rename_i l e;obtain ⟨a,xs,rfl,h2,h3⟩:=Zx S r1 e;refine ⟨a,xs,rfl,h2,?_⟩;rw [← h3.length];exact PostE.here P S Qx
  ·exact P.elim
 ·exact P.elim
def wL:List PV->qB->Rs PV:=fun ps st=>match ps with
 |[p]=>match WG st p with
  |some l => .ok (.tup l) st
  |none => .no
 |_ => .no
theorem qFV:ZP X E (fun xs H Q => ∃ p ys,xs=[.ref p]∧((SqL X.K H p ys ∧ ∀ l,H l=none->Q (.ref l) (upd H l (.tup ys)))∨(SqT X.K H p ys∧Q (.ref p) H))) wL:=by
 intro H b st ps vs Q S r P;unfold wL at P;split at P
 ·rename_i p;obtain ⟨v,rfl,r1⟩:=RVs.one r;split at P
  ·rename_i l e;cases p with
   |tup m =>have e':m=l:=Ai e;subst e';have r0:=r1;unfold RV at r1;obtain ⟨a,xs,rfl,h2,h3⟩:=r1;exact ⟨a,xs,rfl,.inr ⟨h2.sq,PostE.here P S r0⟩⟩
   |lst m =>obtain ⟨a,xs,rfl,h2,h3⟩:=wA S r1 e;exact ⟨a,xs,rfl,.inl ⟨h2,fun p hp=>PostE.layT P S h3 hp⟩⟩
   |ref i =>obtain ⟨a,xs,rfl,h2,h3⟩:=wA S r1 e;exact ⟨a,xs,rfl,.inl ⟨h2,fun p hp=>PostE.layT P S h3 hp⟩⟩
   |_=>cases e
  ·exact P.elim
 ·exact P.elim
def qFI:List PV->qB->Rs PV:=fun ps st=>match ps with
 |[.int i] => .ok (.int i) st
 |[.bl k] => .ok (.int (if k then 1 else 0)) st
 |_ => .no
theorem qJh:ZP X E (fun xs H Q=>(∃ i,xs=[.int i]∧Q (.int i) H) ∨ ∃ k,xs=[.bl k]∧Q (.int (if k then 1 else 0)) H) qFI:=by
 intro H b st ps vs Q S r P;unfold qFI at P;split at P
 ·obtain ⟨v,rfl,r1⟩:=RVs.one r;unfold RV at r1;subst r1;exact .inl ⟨_,rfl,PostE.here P S Qx⟩
 ·obtain ⟨v,rfl,r1⟩:=RVs.one r;unfold RV at r1;subst r1;exact .inr ⟨_,rfl,PostE.here P S Qx⟩
 ·exact P.elim
def qBU:List PV->qB->Rs PV:=fun ps st=>match ps with
 |[.int i] => .ok (.int (if i < 0 then -i else i)) st
 |_ => .no
theorem qJT:ZP X E (fun xs H Q => ∃ i,xs=[.int i]∧Q (.int (if i < 0 then -i else i)) H) qBU:=by
 intro H b st ps vs Q S r P;unfold qBU at P;split at P
 ·obtain ⟨v,rfl,r1⟩:=RVs.one r;unfold RV at r1;subst r1;exact ⟨_,rfl,PostE.here P S Qx⟩
 ·exact P.elim
def qDp:List PV->qB->Rs PV:=fun ps st=>match ps with
 |[.int i,.int j] => .ok (.int (if j > i then j else i)) st
 |_ => .no
def qEE:List PV->qB->Rs PV:=fun ps st=>match ps with
 |[.int i,.int j] => .ok (.int (if j < i then j else i)) st
 |_ => .no
theorem qIs:ZP X E (fun xs H Q => ∃ i j,xs=[.int i,.int j]∧Q (.int (if j > i then j else i)) H) qDp:=by
 intro H b st ps vs Q S r P;unfold qDp at P;split at P
 ·obtain ⟨v,w,rfl,r1,r2⟩:=RVs.two r;unfold RV at r1 r2;subst r1;subst r2;exact ⟨_,_,rfl,PostE.here P S Qx⟩
 ·exact P.elim
theorem qJj:ZP X E (fun xs H Q => ∃ i j,xs=[.int i,.int j]∧Q (.int (if j < i then j else i)) H) qEE:=by
 intro H b st ps vs Q S r P;unfold qEE at P;split at P
 ·obtain ⟨v,w,rfl,r1,r2⟩:=RVs.two r;unfold RV at r1 r2;subst r1;subst r2;exact ⟨_,_,rfl,PostE.here P S Qx⟩
 ·exact P.elim
def qHw:PV->qB->Rs (List PV):=fun p st=>match WG st p with
 |some l => .ok l st
 |none => .no
def yV (f:FE):FL:=fun r st=>(f r st).bind qHw
theorem qHV {p:Pos} (hg:Gl X "list") (hm:X.mg "list" = none) (hv:bootBuiltins "list" = some (.type "list")) (ha:VE X E e f)
  (he:starEach [e] X.env=(false,eval e X.env)::starEach [] X.env:=by rfl) (hpl:(backTo pos (starEach [] X.env)).any (·.1)=false:=by rfl):VN X E (.Call (.Name "list" p) [e] [] pos) (yV f) :=
 PE.imp (jS JV hg hm hv (zY ha Z9 he) (he:=he) (hpl:=hpl)) fun s H Q ⟨b,r,st,S,R,P⟩=>⟨b,r,st,S,R,PostE.bindN P fun q s1 u H1 b1 e1 S1 r1 P1=>by
  unfold qHw at P1;split at P1
  ·rename_i l el;obtain ⟨a,xs,rfl,h2,h3⟩:=Zx S1 r1 el;exact ⟨a,xs,rfl,h2,fun p hp=>PostN.lay P1 S1 h3 hp⟩
  ·exact P1.elim⟩
end
def Qo:FS:=fun r st => .nx r st
def qU (F G:FS):FS:=fun r st=>match F r st with
 | .nx r' st'=>G r' st'
 |o=>o
section
variable {X:Cx} {E:XK} {e a c d:Expr} {es:List Expr} {f fa fb fc:FE} {pos:Pos} {F G:FS} {s1:Stmt} {ss:List Stmt}
theorem q9:VSs X E [] Qo:=PSs.imp qG4 fun D s H ⟨b,r,st,S,R,P⟩=>P s H b (Ext.refl _ _) S R
theorem PostS.seq {K:W.Frag} {E:XK} {H:Hp} {b:Bz} {o:RS} {G:FS} {D:Ends} (P:PostS K E H b (match o with | .nx r' st'=>G r' st' |o=>o) D):PostS K E H b o { D with nx:=rdS K E G D }:=by
 cases o with
 |nx r st=>exact fun s H' b' e S R=>⟨b',r,st,S,R,PostS.ext (show PostS K E H b (G r st) D from P) e⟩
 |rt p st=>exact P
 |bk p st=>exact P
 |ct p st=>exact P
 |ex x st=>exact P
 |no=>exact P
theorem qM (h1:VS X E s1 F) (h2:VSs X E ss G):VSs X E (s1::ss) (qU F G):=PSs.imp (YH h1 h2) fun D s H ⟨b,r,st,S,R,P⟩=>⟨b,r,st,S,R,PostS.seq P⟩
theorem qR (h1:VS X E s1 F):VSs X E [s1] F:=qCF h1
def zC (f:FE):FS:=fun r st=>(f r st).bindS fun _ s => .nx r s
theorem JD (h:VE X E e f) (hs:swapsWith e none pos.line X.env=pure false:=by rfl):VS X E (.Expr e pos) (zC f):=PS.imp (jy h hs) fun D s H ⟨b,r,st,S,R,P⟩ =>
 ⟨b,r,st,S,R,PostE.bindS P fun p s1 u H1 b1 e1 S1 r1 P1=>P1 s H1 b1 (Ext.refl _ _) S1 (R.ext e1)⟩
def qm (f:FE):FS:=fun r st=>(f r st).bindS fun p s => .rt p s
theorem qe (h:VE X E e f):VS X E (.Return (some e) pos) (qm f):=PS.imp (qEO h) fun D s H ⟨b,r,st,S,R,P⟩ =>
 ⟨b,r,st,S,R,PostE.bindS P fun p s1 u H1 b1 e1 S1 r1 P1=>P1 u H1 b1 (Ext.refl _ _) S1 r1⟩
def Yf (f:FL):FS:=fun r st=>(f r st).bindS fun l s => .rt (.ref s.length) (s++[.l l])
def Q9 (t:FT) (F G:FS):FS:=fun r st=>(t r st).bindS fun k s=>if k=true then F r s else G r s
theorem Q5 {t:FT} {bs cs:List Stmt} (hc:VT X E e t) (ha:VSs X E bs F) (hb:VSs X E cs G):VS X E (.If e bs cs pos) (Q9 t F G):=PS.imp (qJt hc ha hb) fun D s H ⟨b,r,st,S,R,P⟩ =>
 ⟨b,r,st,S,R,PostT.bindS P fun k s1 H1 b1 e1 S1 P1=>by
  cases k with
  |true=>exact qAj ⟨b1,r,s1,S1,R.ext e1,P1⟩
  |false=>exact Jr ⟨b1,r,s1,S1,R.ext e1,P1⟩⟩
def QJ (i:Nat) (f:FE):FS:=fun r st=>(f r st).bindS fun p s => .nx (r.set i (some p)) s
theorem QD (i:Nat) {x:Str} {p':Pos} (hN:X.N.Nodup) (h:VE X E e f) (hi:X.N[i]? = some x:=by rfl) (hx:Loc X.env.scope x:=by first |exact Or.inl rfl |exact Or.inr rfl) (hs:swapsWith e (some (.Name x p')) pos.line X.env=pure false:=by rfl) (hf:X.fn x=true∨X.env.scope.names.lookup x=some .local:=by first |exact .inl rfl |exact .inr rfl |assumption) :
  VS X E (.Assign [.Name x p'] e pos) (QJ i f):=PS.imp (qEu hN hi hx h hs hf) fun D s H ⟨b,r,st,S,R,P⟩ =>
 ⟨b,r,st,S,R,PostE.bindS P fun p s1 u H1 b1 e1 S1 r1 P1=>P1 _ H1 b1 (Ext.refl _ _) S1 ((R.ext e1).set r1 i)⟩
def W9 (i:Nat) (f:FL):FS:=fun r st=>(f r st).bindS fun l s => .nx (r.set i (some (.ref s.length))) (s++[.l l])
theorem Ext.adopt {H H':Hp} {b b':Bz} {p:Addr} (e:Ext H b H' b') (hn:H p=none):Ext H b H' ⟨b'.b++[p],b'.z⟩:=by
 obtain ⟨n,hb,hh⟩:=e.more;refine ⟨⟨⟨n++[p],by rw [hb,A4],fun a ha => ?_⟩,e.zm,e.keep,e.dom⟩,e.same,e.hid,e.fz⟩
 rcases Ax.mp ha with ha |ha
 ·exact hh a ha
 ·rw [At.mp ha];exact hn
theorem PostN.bindS {K:W.Frag} {E:XK} {H:Hp} {b:Bz} {r:Rs (List PV)} {k:PV->qB->RS} {D:Ends} {R:VK} (P:PostS K E H b (r.bindS fun l s=>k (.ref s.length) (s++[.l l])) D)
  (h:∀ q st v H1 b1,Ext H b H1 b1->SR K H1 b1 st->RV K H1 b1 q v->PostS K E H1 b1 (k q st) D->R v H1):PostN K E H b r R:=by
 cases r with
 |ok l st =>intro p xs H' b' e hn hp hz S rs;have e':=e.adopt hn;have hl:b'.b.length=st.length:=S.len;refine h (.ref st.length) (st++[.l l]) (.ref p) H' ⟨b'.b++[p],b'.z⟩ e' (S.slot (x := .l l) hz hp ⟨xs,rfl,rs⟩) ?_ (PostS.ext (show PostS K E H b (k (.ref st.length) (st++[.l l])) D from P) e');unfold RV;exact ⟨p,rfl,by show (b'.b++[p])[st.length]? = some p;rw [← hl];simp⟩
 |ex x st=>exact P
 |no=>exact P
theorem yz (i:Nat) {f:FL} {x:Str} {p':Pos} (hN:X.N.Nodup) (h:VN X E e f) (hi:X.N[i]? = some x:=by rfl) (hx:Loc X.env.scope x:=by first |exact Or.inl rfl |exact Or.inr rfl) (hs:swapsWith e (some (.Name x p')) pos.line X.env=pure false:=by rfl) (hf:X.fn x=true∨X.env.scope.names.lookup x=some .local:=by first |exact .inl rfl |exact .inr rfl |assumption) :
  VS X E (.Assign [.Name x p'] e pos) (W9 i f):=PS.imp (qEu hN hi hx h hs hf) fun D s H ⟨b,r,st,S,R,P⟩ =>
 ⟨b,r,st,S,R,PostN.bindS (k:=fun q s => .nx (r.set i (some q)) s) P fun p s1 u H1 b1 e1 S1 r1 P1=>P1 _ H1 b1 (Ext.refl _ _) S1 ((R.ext e1).set r1 i)⟩
theorem qCU {f:FL} (h:VN X E e f):VS X E (.Return (some e) pos) (Yf f):=PS.imp (qEO h) fun D s H ⟨b,r,st,S,R,P⟩ =>
 ⟨b,r,st,S,R,PostN.bindS (k:=fun q s => .rt q s) P fun p s1 u H1 b1 e1 S1 r1 P1=>P1 u H1 b1 (Ext.refl _ _) S1 r1⟩
abbrev FG:=PV->qv->Option qv
abbrev FGs:=List PV->qv->Option qv
def rdG (K:W.Frag) (g:FG):TG:=fun v s H Q => ∃ b r p st,SR K H b st∧REnv K H b r s∧RV K H b p v ∧ ∃ r',g p r=some r' ∧ ∀ s',REnv K H b r' s'->Q s' H
def qLE (K:W.Frag) (g:FGs):TGs:=fun v s H Q => ∃ b r p st,SR K H b st∧REnv K H b r s∧RVs K H b p v ∧ ∃ r',g p r=some r' ∧ ∀ s',REnv K H b r' s'->Q s' H
abbrev VG (X:Cx) (e:Expr) (g:FG):Prop:=PG X e (rdG X.K g)
abbrev VGs (X:Cx) (e:List Expr) (g:FGs):Prop:=PGs X e (qLE X.K g)
theorem PG.imp {X:Cx} {e:Expr} {t t':TG} (h:PG X e t) (i:∀ v s H Q,t' v s H Q->t v s H Q):PG X e t':=fun pins s σ H v u Q I r q=>h pins s σ H v u Q I r (i _ _ _ _ q)
theorem PGs.imp {X:Cx} {e:List Expr} {t t':TGs} (h:PGs X e t) (i:∀ v s H Q,t' v s H Q->t v s H Q):PGs X e t':=fun pins s σ H v u Q I r q=>h pins s σ H v u Q I r (i _ _ _ _ q)
def wP (i:Nat):FG:=fun p r=>some (r.set i (some p))
theorem Qz (i:Nat) {x:Str} (hN:X.N.Nodup) (hi:X.N[i]? = some x:=by rfl) (hx:Loc X.env.scope x:=by first |exact Or.inl rfl |exact Or.inr rfl) (hf:X.fn x=true∨X.env.scope.names.lookup x=some .local:=by first |exact .inl rfl |exact .inr rfl |assumption):VG X (.Name x pos) (wP i) :=
 PG.imp (qG2 hN hi hx hf) fun v s H Q ⟨b,r,p,st,S,R,rv,r',e,q⟩=>q _ (by cases e;exact R.set rv i)
def zA:FGs:=fun l r=>match l with
 |[]=>some r
 |_=>none
def QL (g:FG) (gs:FGs):FGs:=fun l r=>match l with
 |p::ps=>match g p r with
  |some r'=>gs ps r'
  |none=>none
 |[]=>none
theorem WW:VGs X [] zA:=PGs.imp qHF fun v s H Q ⟨b,r,p,st,S,R,rv,r',e,q⟩=>by
 cases p with
 |nil=>unfold RVs at rv;subst rv;cases e;exact ⟨rfl,q s R⟩
 |cons _ _=>cases e
theorem QB {g:FG} {gs:FGs} (h1:VG X e g) (h2:VGs X es gs) (hs:(assignEach (e::es) X.env).map (·.2)=assign e X.env::(assignEach es X.env).map (·.2):=by rfl):VGs X (e::es) (QL g gs) :=
 PGs.imp (qFB h1 h2 hs) fun v s H Q ⟨b,r,p,st,S,R,rv,r',e,q⟩=>by
  cases p with
  |nil=>cases e
  |cons p ps =>
   unfold RVs at rv;obtain ⟨x,xr,rfl,h3,h4⟩:=rv;unfold QL at e;dsimp only at e;cases e2:g p r with
   |none=>rw [e2] at e;cases e
   |some r2 =>rw [e2] at e;exact ⟨x,xr,rfl,b,r,p,st,S,R,h3,r2,e2,fun s' R'=>⟨b,r2,ps,st,S,R',h4,r',e,q⟩⟩
def zE (n:Nat) (gs:FGs):FG:=fun p r=>match p with
 | .tup l=>if l.length=n then gs l r else none
 |_=>none
theorem zd {k:Nat} {n:Nat} {gs:FGs} (hc:X.calm=true) (h:VGs X es gs) (hn:(assignEach es X.env).length=n:=by rfl) (hst:(assignEach es X.env).findIdx? (·.1)=none:=by rfl):VG X (.Tuple es k pos) (zE n gs) :=
 PG.imp (qJf hc h hn hst) fun v s H Q ⟨b,r,p,st,S,R,rv,r',e,q⟩=>by
  unfold zE at e;split at e
  ·rename_i l;split at e
   ·rename_i hl;unfold RV at rv;obtain ⟨a,xs,rfl,h2,h3⟩:=rv;exact ⟨a,xs,rfl,h2.sq,by rw [← h3.length];exact hl,b,r,l,st,S,R,h3,r',e,q⟩
   ·cases e
  ·cases e
def jQ (f:FE) (g:FG):FS:=fun r st=>(f r st).bindS fun p s=>match g p r with
 |some r' => .nx r' s
 |none => .no
theorem qBj {g:FG} (h:VE X E e f) (hg:VG X d g) (hs:swapsWithSole [d] e pos.line X.env=pure false:=by rfl) (hw:swappedStores [d] e X.env=pure none:=by rfl)
  (h1:(assignEach [d] X.env).map (·.2)=[assign d X.env]:=by rfl):VS X E (.Assign [d] e pos) (jQ f g):=PS.imp (qFd h hg hs hw h1) fun D s H ⟨b,r,st,S,R,P⟩ =>
 ⟨b,r,st,S,R,PostE.bindS P fun p s1 u H1 b1 e1 S1 r1 P1=>by
  cases e2:g p r with
  |none=>rw [e2] at P1;exact P1.elim
  |some r'=>rw [e2] at P1;exact ⟨b1,r,p,s1,S1,R.ext e1,r1,r',e2,fun s' R'=>P1 s' H1 b1 (Ext.refl _ _) S1 R'⟩⟩
def jI (i j:Nat) (t:FA):FS:=fun r st=>(t r st).bindS fun l s=>match l with
 |[p,q] => .nx ((r.set i (some p)).set j (some q)) s
 |_ => .no
theorem qF0 (i j:Nat) {x y:Str} {t:FA} {px py pt:Pos} {kt k2 pt2} (hc:X.calm=true) (hN:X.N.Nodup) (ha:VA X E [a,c] t) (hw:swappedStores [.Tuple [.Name x px,.Name y py] kt pt] (.Tuple [a,c] k2 pt2) X.env=pure (some [x,y]):=by rfl)
  (hi:X.N[i]? = some x:=by rfl) (hj:X.N[j]? = some y:=by rfl) (hij:i≠j:=by decide) (hx:X.env.scope.names.lookup x=some .local:=by rfl) (hy:X.env.scope.names.lookup y=some .local:=by rfl)
  (hs:swapsWithSole [.Tuple [.Name x px,.Name y py] kt pt] (.Tuple [a,c] k2 pt2) pos.line X.env=pure false:=by rfl):VS X E (.Assign [.Tuple [.Name x px,.Name y py] kt pt] (.Tuple [a,c] k2 pt2) pos) (jI i j t) :=
 PS.imp (qJS hc hN hi hj hij hx hy ha hw hs) fun D s H ⟨b,r,st,S,R,P⟩=>⟨b,r,st,S,R,PostA.bindS P fun l s1 us H1 b1 e1 S1 r1 P1=>by
  split at P1
  ·obtain ⟨u,v,rfl,h1,h2⟩:=RVs.two r1;exact ⟨u,v,rfl,P1 _ H1 b1 (Ext.refl _ _) S1 (((R.ext e1).set h1 i).set h2 j)⟩
  ·exact P1.elim⟩
def jE (st:qB) (o i v:PV):Option qB:=match o,i with
 | .ref n,.int k=>match st[n]? with
  |some (.l xs)=>match ixN xs.length k with
   |some j=>some (st.set n (.l (xs.set j v)))
   |none=>none
  |_=>none
 |_,_=>none
def qEm (fo fi f:FE):FS:=fun r st=>(f r st).bindS fun p s1=>(fo r s1).bindS fun o s2=>(fi r s2).bindS fun i s3=>match jE s3 o i p with
 |some s4 => .nx r s4
 |none => .no
theorem qEr {K:W.Frag} {H:Hp} {b:Bz} {st st':qB} {o i p:PV} {ov iv v:V} {Q:Hp->Prop} (S:SR K H b st) (ro:RV K H b o ov) (ri:RV K H b i iv) (rp:RV K H b p v) (e:jE st o i p=some st')
  (q:∀ H' b',Ext H b H' b'->SR K H' b' st'->Q H'):qHk ov iv v H Q:=by
 unfold jE at e;split at e
 ·rename_i n k;split at e
  ·rename_i xs e1;split at e
   ·rename_i j e2;cases e;unfold RV at ro ri;obtain ⟨a,rfl,ha⟩:=ro;obtain ⟨a',o',h1,h2,vs,rfl,h4⟩:=S.at_ n _ e1;rw [ha] at h1;cases h1;have hm:a∈b.b:=Ar ha;refine ⟨a,vs,k,j,rfl,ri,h2,by rw [← h4.length];exact e2,q _ b (Ext.wr hm S.zb (qHB h2)) (S.wr (x := .l (xs.set j p)) ha ⟨_,rfl,?_⟩)⟩
    have ew:Ext H b (upd H a (.lst (vs.set j v))) b:=Ext.wr hm S.zb (qHB h2);exact RVs.set (RV.ext ew p rp) j (RVs.ext ew xs h4)
   ·cases e
  ·cases e
 ·cases e
theorem qH9 {fo fi:FE} {o i:Expr} {tpos:Pos} (ho:VE X E o fo) (hi:VE X E i fi) (h:VE X E e f)
  (hs:swapsWithSole [.Subscript o i tpos] e pos.line X.env=pure false:=by rfl) (hw:swappedStores [.Subscript o i tpos] e X.env=pure none:=by rfl) (h1:(assignEach [.Subscript o i tpos] X.env).map (·.2)=[assign (.Subscript o i tpos) X.env]:=by rfl)
  (ha:∀ v,assign (.Subscript o i tpos) X.env v=(do
   let ov ← holding [v] (eval o X.env);let iv ← holding [v,ov] (eval i X.env)
   standAt tpos
   holding [v,ov,iv] (setItem ov iv v)
   release [v,ov,iv] []):=by intro _;rfl):VS X E (.Assign [.Subscript o i tpos] e pos) (qEm fo fi f) :=
 PS.imp (qFd h (qJB ho hi qFw ha) hs hw h1) fun D s H ⟨b,r,st,S,R,P⟩=>⟨b,r,st,S,R,PostE.bindS P fun p s1 u H1 b1 e1 S1 r1 P1 =>
  ⟨b1,r,s1,S1,R.ext e1,PostE.bindS P1 fun o s2 ou H2 b2 e2 S2 r2 P2=>⟨b2,r,s2,S2,(R.ext e1).ext e2,PostE.bindS P2 fun i s3 iu H3 b3 e3 S3 r3 P3=>by
   split at P3
   ·rename_i s4 e4;exact qEr S3 (RV.ext e3 o r2) r3 (RV.ext e3 p (RV.ext e2 p r1)) e4 fun H' b' e' S'=>P3 s H' b' e' S' ((((R.ext e1).ext e2).ext e3).ext e')
   ·exact P3.elim⟩⟩⟩
structure ItP where
 l:List PV
 G:qB->Prop
def Yq (K:W.Frag) (H0:Hp) (b0:Bz) (J:It) (w:ItP):Prop := ∀ H1 b1 st1,WE H0 b0 H1 b1->SR K H1 b1 st1->w.G st1 ->
 (∀ (i:Nat) (p:PV),w.l[i]? = some p->J.go i H1 ∧ ∀ x H2,J.yld i H1 x H2->Same H1 H2∧SR K H2 b1 st1∧RV K H2 b1 p x) ∧ ∀ i,w.l.length≤i->J.stop i H1
def PostI (K:W.Frag) (E:XK) (H:Hp) (b:Bz) (r:Rs ItP) (R:It->Hp->Prop):Prop:=match r with
 | .ok w st => ∀ J H' b',Ext H b H' b'->SR K H' b' st->Yq K H' b' J w->R J H'
 | .ex x st=>XP K E H b x st
 | .no=>False
abbrev FI:=qv->qB->Rs ItP
def rdI (K:W.Frag) (E:XK) (f:FI):TI:=fun s H R => ∃ b r st,SR K H b st∧REnv K H b r s∧PostI K E H b (f r st) R
abbrev VI (X:Cx) (E:XK) (tg e:Expr) (f:FI):Prop:=PI X tg e (rdI X.K E f)
theorem PostI.ext {K:W.Frag} {E:XK} {H H1:Hp} {b b1:Bz} {r:Rs ItP} {R:It->Hp->Prop} (h:PostI K E H b r R) (e:Ext H b H1 b1):PostI K E H1 b1 r R:=by
 cases r with
 |ok p st=>exact fun J H' b' e'=>h J H' b' (e.trans e')
 |ex x st=>exact XP.ext h e
 |no=>exact h
theorem PostE.bindI {K:W.Frag} {E:XK} {H:Hp} {b:Bz} {r:Rs PV} {k:PV->qB->Rs ItP} {Q:It->Hp->Prop} {R:VK} (P:PostI K E H b (r.bind k) Q)
  (h:∀ p st v H1 b1,Ext H b H1 b1->SR K H1 b1 st->RV K H1 b1 p v->PostI K E H1 b1 (k p st) Q->R v H1):PostE K E H b r R:=by
 cases r with
 |ok p st=>exact fun v H1 b1 e S r=>h p st v H1 b1 e S r (PostI.ext (show PostI K E H b (k p st) Q from P) e)
 |ex x st=>exact P
 |no=>exact P
theorem PostA.bindI {K:W.Frag} {E:XK} {H:Hp} {b:Bz} {r:Rs (List PV)} {k:List PV->qB->Rs ItP} {Q:It->Hp->Prop} {R:List V->Hp->Prop} (P:PostI K E H b (r.bind k) Q)
  (h:∀ p st v H1 b1,Ext H b H1 b1->SR K H1 b1 st->RVs K H1 b1 p v->PostI K E H1 b1 (k p st) Q->R v H1):PostA K E H b r R:=by
 cases r with
 |ok p st=>exact fun v H1 b1 e S r=>h p st v H1 b1 e S r (PostI.ext (show PostI K E H b (k p st) Q from P) e)
 |ex x st=>exact P
 |no=>exact P
def qKd (p:PV) (st:qB):Rs ItP:=match p with
 | .ref i=>match asL st (.ref i) with
  |some l => .ok ⟨l,fun s=>s[i]? = some (.l l)⟩ st
  |none => .no
 |p=>match WG st p with
  |some l => .ok ⟨l,fun _=>True⟩ st
  |none => .no
def QA (f:FE):FI:=fun r st=>(f r st).bind qKd
theorem qJW {l tg:Expr} {tl:TE} (hl:PE X l tl):PI X tg l (fun σ H R=>tl σ H fun x H1 => ∃ a,x = .ref a∧(((∃ xs,SqL X.K H1 a xs)∧R (Itl X.K a) H1)∨((∃ xs,SqT X.K H1 a xs)∧R (Itt X.K a) H1))):=by
 intro pins s σ H R I h;refine thn (hl pins s σ H _ I h) fun v s1 ⟨x,H1,I1,r1,q1⟩ => ?_;obtain ⟨a,e,q⟩:=q1;subst e;cases r1;rcases q with ⟨⟨xs,hq⟩,q⟩ |⟨⟨xs,hq⟩,q⟩
 ·obtain ⟨its,rv,p,hz⟩:=I1.list hq;refine CJ p.isList ?_;refine ⟨s1.heap.objs.size,[s1.heap.objs.size],_,_,H1,rfl,I1.kept (t':=s1.toks) fun b o e=>AC _ e,qDV a _,⟨_,AT _ rfl,rfl,rfl⟩,fun b hb => ?_,q⟩;have e:b=s1.heap.objs.size:=by simpa using hb
  subst e;exact I1.fpOk (AM _) (I1.hok.fresh (AM _))
 ·obtain ⟨its,rv,p,hz⟩:=I1.tuple hq;refine wpAny_pyIter_tuple (show s1.heap.IsTuple a its.toArray from p) ?_;refine ⟨s1.heap.objs.size,[s1.heap.objs.size],_,_,H1,rfl,I1.kept (t':=s1.toks) fun b o e=>AC _ e,qBZ a _,⟨_,AT _ rfl,rfl,rfl⟩,fun b hb => ?_,q⟩;have e:b=s1.heap.objs.size:=by simpa using hb
  subst e;exact I1.fpOk (AM _) (I1.hok.fresh (AM _))
theorem jf {K:W.Frag} {H0:Hp} {b0:Bz} {a:Addr} {l:List PV} {G:qB->Prop}
  (h:∀ H1 b1 st1,WE H0 b0 H1 b1->SR K H1 b1 st1->G st1 -> ∃ xs,SqL K H1 a xs∧RVs K H1 b1 l xs):Yq K H0 b0 (Itl K a) ⟨l,G⟩:=by
 intro H1 b1 st1 e S g;obtain ⟨xs,hq,r⟩:=h H1 b1 st1 e S g;refine ⟨fun i p hp => ?_,fun i hi=>⟨xs,hq,by rw [← r.length];exact hi⟩⟩
 obtain ⟨x,hx,rx⟩:=r.get hp;exact ⟨⟨xs,x,hq,hx⟩,fun y H2 ⟨e2,hy⟩=>by
  subst e2
  have:=hy xs hq
  rw [hx] at this;cases this;exact ⟨Same.refl _,S,rx⟩⟩
theorem qDr {K:W.Frag} {H0:Hp} {b0:Bz} {a:Addr} {l:List PV} {G:qB->Prop}
  (h:∀ H1 b1 st1,WE H0 b0 H1 b1->SR K H1 b1 st1->G st1 -> ∃ xs,SqT K H1 a xs∧RVs K H1 b1 l xs):Yq K H0 b0 (Itt K a) ⟨l,G⟩:=by
 intro H1 b1 st1 e S g;obtain ⟨xs,hq,r⟩:=h H1 b1 st1 e S g;refine ⟨fun i p hp => ?_,fun i hi=>⟨xs,hq,by rw [← r.length];exact hi⟩⟩
 obtain ⟨x,hx,rx⟩:=r.get hp;exact ⟨⟨xs,x,hq,hx⟩,fun y H2 ⟨e2,hy⟩=>by
  subst e2
  have:=hy xs hq
  rw [hx] at this;cases this;exact ⟨Same.refl _,S,rx⟩⟩
theorem wK {tg:Expr} (h:VE X E e f):VI X E tg e (QA f):=fun pins s σ H R I q=>qJW h pins s σ H R I (by
 obtain ⟨b,r,st,S,RE,P⟩:=q;refine ⟨b,r,st,S,RE,PostE.bindI P fun p s1 u H1 b1 e1 S1 r1 P1 => ?_⟩;unfold qKd at P1;split at P1
 ·rename_i i;split at P1
  ·rename_i l el;have r0:=r1;unfold RV at r1;obtain ⟨a,rfl,ha⟩:=r1;obtain ⟨a',xs,e2,hq,hr⟩:=wA S1 r0 el;cases e2;refine ⟨a,rfl,.inl ⟨⟨xs,hq⟩,P1 _ H1 b1 (Ext.refl _ _) S1 (jf fun H2 b2 st2 e2 S2 g2 => ?_)⟩⟩;obtain ⟨a'',o,k1,k2,vs,rfl,k4⟩:=S2.at_ i _ g2;rw [e2.ix ha] at k1;cases k1;exact ⟨vs,SqL.of k2,k4⟩
  ·exact P1.elim
 ·split at P1
  ·rename_i l el;cases p with
   |tup m =>have em:m=l:=Ai el;subst em;unfold RV at r1;obtain ⟨a,xs,rfl,h2,h3⟩:=r1;exact ⟨a,rfl,.inr ⟨⟨xs,h2.sq⟩,P1 _ H1 b1 (Ext.refl _ _) S1 (qDr fun H2 b2 st2 e2 S2 _=>⟨xs,(h2.wext e2).sq,RVs.wext e2 m h3⟩)⟩⟩
   |lst m =>have em:m=l:=Ai el;subst em;unfold RV at r1;obtain ⟨a,xs,rfl,h2,h3⟩:=r1;exact ⟨a,rfl,.inl ⟨⟨xs,h2.sq⟩,P1 _ H1 b1 (Ext.refl _ _) S1 (jf fun H2 b2 st2 e2 S2 _=>⟨xs,(h2.wext e2).sq,RVs.wext e2 m h3⟩)⟩⟩
   |ref i=>rename_i hx;exact (hx i rfl).elim
   |_=>cases el
  ·exact P1.elim)
def yC (lo hi:Int):List PV:=(List.range (hi - lo).toNat).map fun (i:Nat)=>PV.int (lo + (i:Int))
def jj (l:List PV) (st:qB):Rs ItP:=match l with
 |[.int j]=>if -(2 ^ 62)≤j∧j < 2 ^ 62 then .ok ⟨yC 0 j,fun _=>True⟩ st else .no
 |_ => .no
def jp (l:List PV) (st:qB):Rs ItP:=match l with
 |[.int i,.int j]=>if -(2 ^ 62)≤i∧i < 2 ^ 62 ∧ -(2 ^ 62)≤j∧j < 2 ^ 62 then .ok ⟨yC i j,fun _=>True⟩ st else .no
 |_ => .no
theorem qAC {K:W.Frag} {H0:Hp} {b0:Bz} {lo hi:Int}:Yq K H0 b0 (Itr lo (hi - lo).toNat) ⟨yC lo hi,fun _=>True⟩:=by
 intro H1 b1 st1 e S g;have hl:(yC lo hi).length=(hi - lo).toNat:=by simp [yC]
 refine ⟨fun i p hp => ?_,fun i hi'=>by rw [show (ItP.mk (yC lo hi) fun _=>True).l.length=(hi - lo).toNat from hl] at hi';exact hi'⟩
 have hi':i < (hi - lo).toNat:=by
  have:=(AQ.mp hp).1
  rw [← hl];exact this
 unfold yC at hp;dsimp only at hp;rw [BG,List.getElem?_range hi'] at hp;cases hp;exact ⟨hi',fun x H2 ⟨e1,e2⟩=>by subst e1;subst e2;exact ⟨Same.refl _,S,Qx⟩⟩
def Qn (t:FA):FI:=fun r st=>(t r st).bind jj
def qAL (t:FA):FI:=fun r st=>(t r st).bind jp
theorem Qk {tg:Expr} {t:FA} {p:Pos} (hg:Gl X "range") (hm:X.mg "range" = none) (ha:VA X E [a] t) (hs:starEach [a] X.env=[(false,eval a X.env)]:=by rfl):VI X E tg (.Call (.Name "range" p) [a] [] pos) (Qn t):=fun pins s σ H R I q=>qDB hg hm ha hs pins s σ H R I (by
 obtain ⟨b,r,st,S,RE,P⟩:=q;refine ⟨b,r,st,S,RE,PostA.bindI P fun l s1 us H1 b1 e1 S1 r1 P1 => ?_⟩;unfold jj at P1;split at P1
 ·obtain ⟨u,rfl,h1⟩:=RVs.one r1;unfold RV at h1;subst h1;split at P1
  ·rename_i j hj;refine ⟨j,rfl,hj.1,hj.2,?_⟩
   have:=P1 (Itr 0 (j - 0).toNat) H1 b1 (Ext.refl _ _) S1 qAC
   rw [Int.sub_zero] at this;exact this
  ·exact P1.elim
 ·exact P1.elim)
theorem qDZ {tg:Expr} {t:FA} {p:Pos} (hg:Gl X "range") (hm:X.mg "range" = none) (ha:VA X E [a,c] t) (hs:starEach [a,c] X.env=[(false,eval a X.env),(false,eval c X.env)]:=by rfl) (hs2:starEach [c] X.env=[(false,eval c X.env)]:=by rfl):VI X E tg (.Call (.Name "range" p) [a,c] [] pos) (qAL t):=fun pins s σ H R I q=>qDE hg hm ha hs hs2 pins s σ H R I (by
 obtain ⟨b,r,st,S,RE,P⟩:=q;refine ⟨b,r,st,S,RE,PostA.bindI P fun l s1 us H1 b1 e1 S1 r1 P1 => ?_⟩;unfold jp at P1;split at P1
 ·obtain ⟨u,v,rfl,h1,h2⟩:=RVs.two r1;unfold RV at h1 h2;subst h1;subst h2;split at P1
  ·rename_i i j hj;exact ⟨i,j,rfl,hj,P1 _ H1 b1 (Ext.refl _ _) S1 qAC⟩
  ·exact P1.elim
 ·exact P1.elim)
theorem PSs.unbare {X:Cx} {st:List Stmt} {t:TS} (h:PSs X.nox st t) {pins:List (Addr×Obj)} {s:Shared} {σ:L2.St} {H:Hp} {D:Ends} {E:Value->Shared->Prop} (I:L2.Inv X pins σ H s) (q:t D σ H):wpAny (model X.prog X.w) X.A (execs st X.env) (SP X pins D) E s :=
 wpAny_noRaise (thn (h pins s σ H D (I.wish _) q) fun f s' hs=>hs.unwish)
theorem PG.unbare {X:Cx} {tg:Expr} {t:TG} (h:PG X.nox tg t) {pins:List (Addr×Obj)} {s:Shared} {σ:L2.St} {H:Hp} {v:V} {u:Value} {Q:L2.St->Hp->Prop} {E:Value->Shared->Prop} (I:L2.Inv X pins σ H s) (r:RelV v u) (q:t v σ H Q):wpAny (model X.prog X.w) X.A (assign tg X.env u) (fun _ s' => ∃ σ' H',L2.Inv X pins σ' H' s'∧Q σ' H') E s :=
 wpAny_noRaise (thn (h pins s σ H v u Q (I.wish _) r q) fun f s' ⟨σ',H',I',q'⟩=>⟨σ',H',I'.unwish,q'⟩)
theorem qG9 {tg iter:Expr} {body:List Stmt} {wi:TI} {g:TG} {tb:TS} {pos:Pos} (hi:PI X tg iter wi) (hg:PG X.nox tg g) (hb:PSs X.nox body tb)
  (hs:∀ x,foldedSetIterable iter X.env x=pure x:=by intro _;rfl):PS X (.For tg iter body [] pos) (qK3 wi g tb):=by
 intro pins s σ H D I h;refine wpAny_For (thn (hi pins s σ H _ I h) fun v s1 h1=>thn h1 fun itv s2 h2 => ?_) hs;obtain ⟨it,fp,tn,J,H2,e,I2,T,st2,f2,W,⟨m0,w0⟩,turn⟩:=h2;subst e;have stat:∀ {H':Hp},(∀ b∈fp,H' b=none) -> ∀ b∈fp,yJ X pins H' b:=fun hn b hb=>⟨hn b hb,(f2 b hb).2⟩;refine codeAny_forLoop_any (fun n s' => ∃ i σ' H',L2.Inv X pins σ' H' s'∧tn i s'.heap∧(∀ b∈fp,H' b=none)∧W i n σ' H') ?_ m0 ⟨0,σ,H2,I2,st2,fun b hb=>(f2 b hb).1,w0⟩
 rintro n s3 ⟨i,σ3,H3,I3,st3,fr3,w3⟩
 rcases turn i n σ3 H3 w3 with ⟨stop,qn⟩ |⟨go,N,hN,step⟩
 ·refine thn (T.done X rfl rfl rfl rfl i pins s3 σ3 H3 _ I3 (stat fr3) st3 stop) fun r s4 ⟨hr,I4⟩ => ?_;subst hr;exact wpAny_execs_nil ⟨σ3,H3,I4,qn⟩
 ·refine thn (T.item X rfl rfl rfl rfl i pins s3 σ3 H3 _ I3 (stat fr3) st3 go) fun r s4 ⟨u,hr,h4⟩ => ?_;subst hr;refine thn h4 fun _ s5 ⟨x,H5,I5,r5,y5,st5,fr5⟩ => ?_;have I5':=I5.pinned (stat fr5) (T.obj _ _ st5);refine thn (PG.unbare hg I5' r5 (step x H5 y5)) fun _ s6 ⟨σ6,H6,I6,q6⟩ => ?_;refine thn (PSs.unbare hb I6 q6) fun f s7 q7 => ?_;have again:∀ {σ7:L2.St} {H7:Hp},L2.Inv X (pins++Ye fp s5.heap) σ7 H7 s7->N σ7 H7 -> ∃ m,m < n ∧ ∃ i σ' H',L2.Inv X pins σ' H' s7∧tn i s7.heap∧(∀ b∈fp,H' b=none)∧W i m σ' H':=fun {σ7 H7} I7 n7=>by obtain ⟨m',hm,w7⟩:=hN σ7 H7 n7;refine ⟨m',hm,i + 1,σ7,H7,I7.unpinned,T.keep _ _ _ st5 fun b hb o e=>(I7.pin (b,o) (A7 _ (A7 _ (zR hb e)))).1,fun b hb => ?_,w7⟩;obtain ⟨o,e,d⟩:=T.obj _ _ st5 b hb;exact (I7.pin (b,o) (A7 _ (A7 _ (zR hb e)))).2.1
  cases f with
  |next=>obtain ⟨σ7,H7,I7,n7⟩:=q7;exact again I7 n7
  |cont=>obtain ⟨σ7,H7,I7,n7⟩:=q7;exact again I7 n7
  |brk=>obtain ⟨σ7,H7,I7,q7⟩:=q7;exact ⟨σ7,H7,I7.unpinned,q7⟩
  |ret v=>obtain ⟨x7,σ7,H7,I7,r7,q7⟩:=q7;exact ⟨x7,σ7,H7,I7.unpinned,r7,q7⟩
open Classical in
noncomputable def Q4 (G:qB->Prop) (g:FG) (F:FS):List PV->qv->qB->RS
 |[],r,st=>if G st then .nx r st else .no
 |p::ps,r,st=>if G st then
   match g p r with
   |none => .no
   |some r1=>match F r1 st with
    | .nx r2 s2=>Q4 G g F ps r2 s2
    | .ct r2 s2=>Q4 G g F ps r2 s2
    | .bk r2 s2 => .nx r2 s2
    | .rt v s2 => .rt v s2
    | .ex _ _ => .no
    | .no => .no
  else .no
noncomputable def z9 (fi:FI) (g:FG) (F:FS):FS:=fun r st=>(fi r st).bindS fun w s=>Q4 w.G g F w.l r s
theorem PostI.bindS {K:W.Frag} {E:XK} {H:Hp} {b:Bz} {r:Rs ItP} {k:ItP->qB->RS} {D:Ends} {R:It->Hp->Prop} (P:PostS K E H b (r.bindS k) D)
  (h:∀ w st J H1 b1,Ext H b H1 b1->SR K H1 b1 st->Yq K H1 b1 J w->PostS K E H1 b1 (k w st) D->R J H1):PostI K E H b r R:=by
 cases r with
 |ok p st=>exact fun J H1 b1 e S r=>h p st J H1 b1 e S r (PostS.ext (show PostS K E H b (k p st) D from P) e)
 |ex x st=>exact P
 |no=>exact P
theorem Zh {tg iter:Expr} {body:List Stmt} {fi:FI} {g:FG} (hi:VI X E tg iter fi) (hg:VG X.nox tg g) (hb:VSs X.nox E0 body F) (hs:∀ x,foldedSetIterable iter X.env x=pure x:=by intro _;rfl):VS X E (.For tg iter body [] pos) (z9 fi g F):=by
 refine PS.imp (qG9 hi hg hb hs) fun D s H ⟨b,r,st,S,R,P⟩ => ?_;refine ⟨b,r,st,S,R,PostI.bindS P fun w st1 J H1 b1 e1 S1 it P1 => ?_⟩;refine ⟨fun i m σ' H' => ∃ b2 r2 st2,Ext H1 b1 H' b2∧SR X.K H' b2 st2∧REnv X.K H' b2 r2 σ'∧m=w.l.length + 1 - i∧i≤w.l.length∧PostS X.K E H' b2 (Q4 w.G g F (w.l.drop i) r2 st2) D,⟨w.l.length + 1,b1,r,st1,Ext.refl _ _,S1,R.ext e1,by omega,BV _,by simpa using P1⟩,?_⟩
 rintro i m σ' H' ⟨b2,r2,st2,e2,S2,R2,hm,hi',P2⟩
 by_cases hlt:i < w.l.length
 ·have hd:w.l.drop i=w.l[i]::w.l.drop (i + 1):=List.drop_eq_getElem_cons hlt;rw [hd] at P2;unfold Q4 at P2;by_cases hG:w.G st2
  ·rw [AF hG] at P2;obtain ⟨h1,h2⟩:=it H' b2 st2 e2.toWE S2 hG;obtain ⟨go,yl⟩:=h1 i w.l[i] (AL hlt);refine .inr ⟨go,fun σ3 H3 => ∃ b3 r3 st3,Ext H1 b1 H3 b3∧SR X.K H3 b3 st3∧REnv X.K H3 b3 r3 σ3∧PostS X.K E H3 b3 (Q4 w.G g F (w.l.drop (i + 1)) r3 st3) D,?_,?_⟩
   ·rintro σ3 H3 ⟨b3,r3,st3,k1,k2,k3,k4⟩
    exact ⟨w.l.length + 1 - (i + 1),by omega,b3,r3,st3,k1,k2,k3,rfl,hlt,k4⟩
   ·intro x H3 hx;obtain ⟨e3',S3,r3⟩:=yl x H3 hx;have e3:Ext H' b2 H3 b2:=Ext.of_same e3';cases eg:g w.l[i] r2 with
    |none=>rw [eg] at P2;exact P2.elim
    |some r4 =>
     rw [eg] at P2;refine ⟨b2,r2,w.l[i],st2,S3,R2.ext e3,r3,r4,eg,fun s4 R4=>⟨b2,r4,st2,S3,R4,?_⟩⟩;have P3:=PostS.ext P2 e3;dsimp only at P3;have e13:=e2.trans e3;cases eF:F r4 st2 with
     |nx r5 s5=>rw [eF] at P3;exact fun s6 H6 b6 e6 S6 R6=>⟨b6,r5,s5,e13.trans e6,S6,R6,PostS.ext P3 e6⟩
     |ct r5 s5=>rw [eF] at P3;exact fun s6 H6 b6 e6 S6 R6=>⟨b6,r5,s5,e13.trans e6,S6,R6,PostS.ext P3 e6⟩
     |bk r5 s5=>rw [eF] at P3;exact P3
     |rt v s5=>rw [eF] at P3;exact P3
     |ex x s5=>rw [eF] at P3;exact P3.elim
     |no=>rw [eF] at P3;exact P3.elim
  ·rw [AJ hG] at P2;exact P2.elim
 ·have hl:i=w.l.length:=by omega
  subst hl;rw [List.drop_length] at P2;unfold Q4 at P2;by_cases hG:w.G st2
  ·rw [AF hG] at P2;obtain ⟨h1,h2⟩:=it H' b2 st2 e2.toWE S2 hG;exact .inl ⟨h2 _ (AM _),P2 σ' H' b2 (Ext.refl _ _) S2 R2⟩
  ·rw [AJ hG] at P2;exact P2.elim
end
theorem Qa {x n:Str} {a c:Addr} {r:List (Str×Addr)} (h:List.lookup x ((n,a)::r)=some c):(x=n∧a=c)∨(x≠n∧List.lookup x r=some c):=by
 rw [Ap] at h;cases hb:x==n with
 |true=>rw [hb] at h;exact .inl ⟨BK.mp hb,Ai h⟩
 |false=>rw [hb] at h;exact .inr ⟨fun z=>(by rw [BK.mpr z] at hb;cases hb),h⟩
theorem wG {x:Str} {c:Addr}:∀ {names:List (Str×NameKind)} {n:Nat} {acc:List (Str×Addr)},(cellsFrom n names acc).lookup x=some c->(n≤c∧(x,NameKind.cell)∈names)∨acc.lookup x=some c
 |[],_,_,h => .inr h
 |(nm,k)::r,n,acc,h=>by
  unfold cellsFrom at h;split at h
  ·rename_i hk;have hk':k = .cell:=by simpa using hk
   rcases wG h with ⟨h1,h2⟩ |h1
   ·exact .inl ⟨Nat.le_of_succ_le h1,AE _ h2⟩
   ·rcases Qa h1 with ⟨e1,e2⟩ |⟨_,e2⟩
    ·exact .inl ⟨Nat.le_of_eq e2,by rw [e1,hk'];exact AH⟩
    ·exact .inr e2
  ·rcases wG h with ⟨h1,h2⟩ |h1
   ·exact .inl ⟨h1,AE _ h2⟩
   ·exact .inr h1
theorem zG {x:Str} {c:Addr} {n0:Nat}:∀ {names:List (Str×NameKind)} {n:Nat} {acc:List (Str×Addr)},n0≤n->((∃ a,acc.lookup x=some a∧n0≤a)∨(x,NameKind.cell)∈names)->(cellsFrom n names acc).lookup x=some c->n0≤c
 |[],_,acc,_,h,e=>by
  rcases h with ⟨a,h1,h2⟩ |h
  ·have:acc.lookup x=some c:=e
   rw [h1] at this;cases this;exact h2
  ·exact absurd h (by simp)
 |(nm,k)::r,n,acc,hn,h,e=>by
  unfold cellsFrom at e;split at e
  ·rename_i hk;refine zG (n:=n + 1) (Nat.le_succ_of_le hn) ?_ e;by_cases hx:x=nm
   ·exact .inl ⟨n,by rw [Ap,hx,Aj],hn⟩
   ·rcases h with ⟨a,h1,h2⟩ |h
    ·exact .inl ⟨a,by rw [Ap,B2 hx];exact h1,h2⟩
    ·rcases AD.mp h with q |q
     ·exact absurd (CZ q).1 hx
     ·exact .inr q
  ·rename_i hk;refine zG hn ?_ e;rcases h with h |h
   ·exact .inl h
   ·rcases AD.mp h with q |q
    ·exact absurd (by rw [← (CZ q).2];rfl) hk
    ·exact .inr q
theorem zB {x y:Str} {c:Addr}:∀ {names:List (Str×NameKind)} {n:Nat} {acc:List (Str×Addr)},(∀ z a,acc.lookup z=some a->a < n)->(cellsFrom n names acc).lookup x=some c->(cellsFrom n names acc).lookup y=some c ->
  x=y∨(acc.lookup x=some c∧acc.lookup y=some c)
 |[],_,_,_,h1,h2 => .inr ⟨h1,h2⟩
 |(nm,k)::r,n,acc,hb,h1,h2=>by
  unfold cellsFrom at h1 h2;split at h1
  ·rename_i hk;rw [AF hk] at h2;have hb':∀ z a,List.lookup z ((nm,n)::acc)=some a->a < n + 1:=fun z a h=>by
    rcases Qa h with ⟨_,e⟩ |⟨_,e⟩
    ·rw [← e];exact Nat.lt_succ_self _
    ·exact BB (hb z a e)
   rcases zB hb' h1 h2 with e |⟨e1,e2⟩
   ·exact .inl e
   ·rcases Qa e1 with ⟨p1,p2⟩ |⟨p1,p2⟩ <;> rcases Qa e2 with ⟨q1,q2⟩ |⟨q1,q2⟩
    ·exact .inl (p1.trans q1.symm)
    ·exact absurd (hb y c q2) (by rw [← p2];exact Ba _)
    ·exact absurd (hb x c p2) (by rw [← q2];exact Ba _)
    ·exact .inr ⟨p2,q2⟩
  ·rename_i hk;rw [AJ hk] at h2;exact zB hb h1 h2
theorem WX {x:Str}:∀ {names:List (Str×NameKind)} {n:Nat} {acc:List (Str×Addr)},((∃ a,acc.lookup x=some a)∨(x,NameKind.cell)∈names) -> ∃ c,(cellsFrom n names acc).lookup x=some c
 |[],_,_,h=>h.elim (fun h=>h) fun h=>absurd h (by simp)
 |(nm,k)::r,n,acc,h=>by
  unfold cellsFrom;split
  ·rename_i hk;refine WX ?_;by_cases hx:x=nm
   ·exact .inl ⟨n,by rw [Ap,hx,Aj]⟩
   ·rcases h with ⟨a,h1⟩ |h
    ·exact .inl ⟨a,by rw [Ap,B2 hx];exact h1⟩
    ·rcases AD.mp h with q |q
     ·exact absurd (CZ q).1 hx
     ·exact .inr q
  ·rename_i hk;refine WX ?_;rcases h with h |h
   ·exact .inl h
   ·rcases AD.mp h with q |q
    ·exact absurd (by rw [← (CZ q).2];rfl) hk
    ·exact .inr q
theorem Wn {x:Str} {c:Addr}:∀ {names:List (Str×NameKind)} {h:Heap} {acc:List (Str×Addr)},(cellsFrom h.objs.size names acc).lookup x=some c->(∃ o,acc.lookup x=some c∧o=())∨(pushCells h names).IsCell c none
 |[],_,_,e => .inl ⟨(),e,rfl⟩
 |(nm,k)::r,h,acc,e=>by
  unfold cellsFrom at e;unfold pushCells;split at e
  ·rename_i hk;rw [AF hk];have e':(cellsFrom (h.push { cls := .type "cell",data := .cell none }).objs.size r ((nm,h.objs.size)::acc)).lookup x=some c:=by rw [A3];exact e
   rcases Wn e' with ⟨_,q,_⟩ |q
   ·rcases Qa q with ⟨_,e2⟩ |⟨_,e2⟩
    ·subst e2;exact .inr ⟨_,pushCells_keeps _ _ _ _ (AT _ rfl),rfl⟩
    ·exact .inl ⟨(),e2,rfl⟩
   ·exact .inr q
  ·rename_i hk;rw [AJ hk];exact Wn e
def clF (env:Env):List (Str×NameKind)->List (Str×Addr)->List (Str×Addr)
 |[],acc=>acc
 |(n,k)::r,acc=>if k == .free then clF env r ((n,(env.cells.lookup n).getD 0)::acc) else clF env r acc
theorem qEn {env:Env} (f:Str×NameKind->List (Str×Addr)->Sem (ForInStep (List (Str×Addr))))
  (hf:∀ n k acc,f (n,k) acc=if k == .free then (do let a ← cellOf env n;pure (.yield ((n,a)::acc))) else pure (.yield acc)) :
  ∀ (names:List (Str×NameKind)) (acc:List (Str×Addr)),(∀ x∈names,x.2 = .free -> ∃ c,env.cells.lookup x.1=some c)->forIn names acc f=(pure (clF env names acc):Sem _)
 |[],acc,_=>by rw [List.forIn_nil];rfl
 |(n,k)::r,acc,h=>by
  rw [Cb,hf];unfold clF;have ih:=fun a=>qEn f hf r a fun x hx=>h x (AE _ hx);split
  ·rename_i hk;have hk':k = .free:=by simpa using hk
   obtain ⟨c,e⟩:=h (n,k) AH hk';have ec:cellOf env n=pure c:=by unfold cellOf;rw [show env.cells.lookup n=some c from e]
   rw [ec];simp only [pure_bind];rw [ih,show env.cells.lookup n=some c from e];rfl
  ·simp only [pure_bind];exact ih acc
theorem qBS {scope:Scope} {env:Env} (h:∀ x∈scope.names,x.2 = .free -> ∃ c,env.cells.lookup x.1=some c):closureFor scope env=pure (clF env scope.names []):=by
 unfold closureFor;dsimp only;rw [qEn _ (fun n k acc=>by cases hk:k==NameKind.free <;> simp [hk]) _ _ h]
 rfl
theorem Yc {env:Env} {x:Str} {c:Addr}:∀ {names:List (Str×NameKind)} {acc:List (Str×Addr)},(∀ y∈names,y.2 = .free -> ∃ c,env.cells.lookup y.1=some c)->(clF env names acc).lookup x=some c->env.cells.lookup x=some c∨acc.lookup x=some c
 |[],_,_,e => .inr e
 |(n,k)::r,acc,h,e=>by
  unfold clF at e;have h':=fun y hy=>h y (AE _ hy);split at e
  ·rename_i hk;have hk':k = .free:=by simpa using hk
   obtain ⟨a,ea⟩:=h (n,k) AH hk';rcases Yc h' e with q |q
   ·exact .inl q
   ·rcases Qa q with ⟨e1,e2⟩ |⟨_,e2⟩
    ·rw [show env.cells.lookup n=some a from ea] at e2;exact .inl (by rw [e1,show env.cells.lookup n=some a from ea];exact B5 some e2)
    ·exact .inr e2
  ·exact Yc h' e
theorem y0 {env:Env} {x:Str}:∀ {names:List (Str×NameKind)} {acc:List (Str×Addr)},((x,NameKind.free)∈names ∨ ∃ a,acc.lookup x=some a) -> ∃ c,(clF env names acc).lookup x=some c
 |[],_,h=>h.elim (fun h=>absurd h (by simp)) fun h=>h
 |(n,k)::r,acc,h=>by
  unfold clF;split
  ·refine y0 ?_;by_cases hx:x=n
   ·exact .inr ⟨_,by rw [Ap,hx,Aj]⟩
   ·rcases h with h |⟨a,h⟩
    ·rcases AD.mp h with q |q
     ·exact absurd (CZ q).1 hx
     ·exact .inl q
    ·exact .inr ⟨a,by rw [Ap,B2 hx];exact h⟩
  ·rename_i hk;refine y0 ?_;rcases h with h |h
   ·rcases AD.mp h with q |q
    ·exact absurd (by rw [← (CZ q).2];rfl) hk
    ·exact .inl q
   ·exact .inr h
def qLB (X:Cx) (scope:Scope) (C:Addr):Env :=
 { scope:=relabel scope X.env,locals:=C,globals:=X.env.globals,cells:=cellsFrom (C + 1) scope.names (clF X.env scope.names []),qual:=X.env.qual,func:=none,code:=X.env.code,frame:=X.env.frame,builtins:=X.env.builtins }
def cCx (X:Cx) (scope:Scope) (N:List Str) (s:Shared) (H:Hp) (fp:List Addr) (pn:List (Addr×Obj)):Cx where
 prog:=X.prog
 w:=X.w
 K:=X.K
 mg:=X.mg
 base:=X.base
 A:=X.A
 N:=N
 s₀:=s
 H₀:=H
 env:=qLB X scope s.heap.objs.size
 outer:=X.stack
 stack:=X.stack
 ex:=fp
 fn:=fun x=>scope.names.lookup x==some .cell
 calm:=X.calm
 pn:=pn
 xe:=fun _ _=>False
structure CSc (X:Cx) (scope:Scope) (capN locN:List Str) (caps:List Nat):Prop where
 kind:scope.kind = .function
 nd:(scope.names.map (·.1)).Nodup
 fr:∀ x∈scope.names,x.2 = .free->(X.env.kindOf x.1=some .cell∨X.env.kindOf x.1=some .free)
 len:capN.length=caps.length
 cap:∀ (i:Nat) (x:Str) (j:Nat),capN[i]? = some x->caps[i]? = some j->X.N[j]? = some x∧(x,NameKind.free)∈scope.names
theorem za {x:Str} {k:NameKind}:∀ {names:List (Str×NameKind)},(names.map (·.1)).Nodup->(x,k)∈names->names.lookup x=some k
 |(n,k')::r,nd,h=>by
  rw [An,BD] at nd;rw [Ap];rcases AD.mp h with q |q
  ·obtain ⟨rfl,rfl⟩:=CZ q;rw [Aj]
  ·have hne:x≠n:=fun z=>nd.1 (by rw [← z];exact Ag.mpr ⟨(x,k),q,rfl⟩)
   rw [B2 hne];exact za nd.2 q
theorem w9 {env:Env} {x:Str}:∀ {names:List (Str×NameKind)},
  (names.map fun (n,k)=>if (k==NameKind.free&&env.scope.kind == .function&&env.kindOf n==some .cell) then (n,NameKind.cell) else (n,k)).lookup x=(names.lookup x).map fun k=>if (k==NameKind.free&&env.scope.kind == .function&&env.kindOf x==some .cell) then NameKind.cell else k
 |[]=>rfl
 |(n,k)::r=>by
  rw [An,Ap];show List.lookup x ((if (k==NameKind.free&&env.scope.kind == .function&&env.kindOf n==some .cell)=true then (n,NameKind.cell) else (n,k))::_)=_;cases hx:x==n with
  |true =>
   have hx':x=n:=BK.mp hx;subst hx';by_cases hc:(k==NameKind.free&&env.scope.kind == .function&&env.kindOf x==some .cell)=true
   ·rw [AF hc];simp only [Ap,Aj,Option.map_some];rw [AF hc]
   ·rw [AJ hc];simp only [Ap,Aj,Option.map_some];rw [AJ hc]
  |false =>
   by_cases hc:(k==NameKind.free&&env.scope.kind == .function&&env.kindOf n==some .cell)=true
   ·rw [AF hc];simp only [Ap,hx];exact w9
   ·rw [AJ hc];simp only [Ap,hx];exact w9
theorem qAs {X:Cx} {scope:Scope} {capN locN:List Str} {caps:List Nat} (cs:CSc X scope capN locN caps) {pins:List (Addr×Obj)} {σ:L2.St} {H:Hp} {s s4:Shared} {fp:List Addr} (I:L2.Inv X pins σ H s) (hf:∀ b∈fp,yJ X pins H b) (hlt:∀ b∈fp,b < s.heap.objs.size)
  (h4:s4={ s with heap:=pushCells (s.heap.push { cls := .type "dict",data := .dict #[] }) scope.names }) :
  L2.Inv (cCx X scope (capN++locN) s H fp (X.pn++pins)) [] ((caps.map fun j=>(σ[j]?).join)++List.replicate locN.length none) H s4:=by
 have hfree:∀ x∈scope.names,x.2 = .free -> ∃ c,X.env.cells.lookup x.1=some c:=fun x hx hk=>I.ok.has x.1 (cs.fr x hx hk);have keep:∀ b o,s.heap.get? b=some o->s4.heap.get? b=some o:=fun b o e=>by subst h4;exact pushCells_keeps _ _ _ _ (AC _ e)
 have clook:∀ x c,(clF X.env scope.names []).lookup x=some c->X.env.cells.lookup x=some c:=fun x c e=>(Yc hfree e).elim (fun q=>q) fun q=>by cases q
 have clt:∀ x c,(clF X.env scope.names []).lookup x=some c->c < s.heap.objs.size:=fun x c e=>by obtain ⟨v,q⟩:=I.cell x c (clook x c e);exact q.lt
 have cases':∀ x c,(cellsFrom (s.heap.objs.size + 1) scope.names (clF X.env scope.names [])).lookup x=some c->(s.heap.objs.size + 1≤c)∨(c < s.heap.objs.size∧X.env.cells.lookup x=some c):=fun x c e=>by
  rcases wG e with ⟨q,_⟩ |q
  ·exact .inl q
  ·exact .inr ⟨clt x c q,clook x c q⟩
 have isfree:∀ x,(X.env.kindOf x=some .cell∨X.env.kindOf x=some .free)->True:=fun _ _=>trivial;refine ⟨⟨I.ok.mod,cs.kind,I.ok.glob,I.ok.blt,AM _,fun x y c h1 h2 => ?_,fun x hx => ?_,fun x c hx e => ?_,I.ok.hd,I.ok.frames,.inl rfl,fun b hb=>⟨AV (hlt b hb),fun x c e => ?_⟩,fun b o e=>I.bs b o e,Ac I.ok.bsz I.sz,fun b o e hb => ?_,fun b hb hm => ?_,I.stack,I.stkFree⟩,
  by subst h4;rfl,by subst h4;exact I.bare,Un.kept keep,?_,fun x c e => ?_,I.hok.fresh (AM _),fun x c e => ?_,fun p hp => ?_,I.hok.kept keep,?_,I.hnd⟩
 ·rcases zB (fun z a e=>BB (clt z a e)) h1 h2 with e |⟨e1,e2⟩
  ·exact e
  ·exact I.ok.inj x y c (clook x c e1) (clook y c e2)
 ·refine WX ?_;have hx':(relabel scope X.env).names.lookup x=some .cell∨(relabel scope X.env).names.lookup x=some .free:=hx;have e:(relabel scope X.env).names.lookup x=(scope.names.lookup x).map fun k=>if (k==NameKind.free&&X.env.scope.kind == .function&&X.env.kindOf x==some .cell) then NameKind.cell else k:=w9;rw [e] at hx';cases q:scope.names.lookup x with
  |none=>rw [q] at hx';rcases hx' with z |z <;> cases z
  |some k =>
   rw [q] at hx';have hm:=Bg q;by_cases hk:k = .free
   ·subst hk;exact .inl (y0 (.inl hm))
   ·have hkf:(k==NameKind.free)=false:=by simpa using hk
    simp only [Option.map_some,hkf,Ci,A6,Bm] at hx';rcases hx' with z |z
    ·cases z;exact .inr hm
    ·cases z;exact absurd rfl hk
 ·have hx':scope.names.lookup x=some .cell:=by simpa [cCx] using hx
  exact Nat.le_of_succ_le (zG (n0:=s.heap.objs.size + 1) (AM _) (.inr (Bg hx')) e)
 ·rcases cases' x c e with q |⟨q,q'⟩
  ·exact fun z=>by rw [z] at q;exact absurd (hlt b hb) (Nat.not_lt.mpr (Nat.le_of_succ_le q))
  ·exact (hf b hb).2.2.2.2.1 x c q'
 ·obtain ⟨_,_,_,h3,_⟩:=hf b hb;rcases h3 with q |q
  ·exact I.ok.noex b o e q
  ·exact absurd (AK e) (Nat.not_lt.mpr (Ac I.ok.bsz q))
 ·obtain ⟨_,h1,h2,_⟩:=hf b hb;exact (AD.mp (I.stkSub b hm)).elim h1 h2
 ·refine ⟨fun _=>none,?_,fun i x v e1 e2 e3 => ?_⟩
  ·subst h4;exact (Heap.Ns.new s.heap (.type "dict")).keeps (pushCells_keeps _ _)
  ·have hi:i < caps.length:=by
    by_cases hi:i < caps.length
    ·exact hi
    ·rw [Aw (by simpa using hi),Bs] at e2
     split at e2 <;> cases e2
   rw [Ak (by simpa using hi),BG] at e2
   have e1':(capN++locN)[i]? = some x:=e1;rw [Ak (by rw [cs.len];exact hi)] at e1'
   cases ej:caps[i]? with
   |none=>rw [ej] at e2;cases e2
   |some j =>
    rw [ej] at e2;obtain ⟨k1,k2⟩:=cs.cap i x j e1' ej;have e2':σ[j]? = some (some v):=by
     have e2'':(σ[j]?).join=some v:=Ai e2;cases q:σ[j]? with
     |none=>rw [q] at e2'';cases e2''
     |some o=>rw [q] at e2'';exact B5 some e2''
    have hk:=cs.fr _ k2 rfl;obtain ⟨m,hn,hl⟩:=I.loc;obtain ⟨u,ru,lu⟩:=hl j x v k1 e2' (hk.elim (fun z => .inr (.inl z)) fun z => .inr (.inr z));refine ⟨u,ru,.inr ?_⟩;have hc:∃ c,X.env.cells.lookup x=some c∧s.heap.IsCell c (some u):=by
     rcases lu with ⟨z,_⟩ |⟨_,z⟩
     ·rcases hk with y |y <;> · rw [z] at y;cases y
     ·exact z
    obtain ⟨c,c1,c2⟩:=hc;obtain ⟨c',e'⟩:=y0 (env:=X.env) (acc:=[]) (.inl k2);have e2:=clook x c' e';rw [c1] at e2;cases e2;have hlk:scope.names.lookup x=some .free:=za cs.nd k2;refine ⟨?_,c,?_,c2.keeps keep⟩
    ·show (relabel scope X.env).names.lookup x=some .cell∨(relabel scope X.env).names.lookup x=some .free;have e:(relabel scope X.env).names.lookup x=(scope.names.lookup x).map fun k=>if (k==NameKind.free&&X.env.scope.kind == .function&&X.env.kindOf x==some .cell) then NameKind.cell else k:=w9;rw [e,hlk];simp only [Option.map_some];split
     ·exact .inl rfl
     ·exact .inr rfl
    ·obtain ⟨d,hd⟩:=WX (names:=scope.names) (n:=s.heap.objs.size + 1) (acc:=clF X.env scope.names []) (x:=x) (.inl ⟨c,e'⟩);rcases wG hd with ⟨q,q'⟩ |q
     ·have:=za cs.nd q'
      rw [hlk] at this;cases this
     ·rw [e'] at q;cases q;exact hd
 ·rcases wG e with ⟨q,_⟩ |q
  ·have e':(cellsFrom (s.heap.push { cls := .type "dict",data := .dict #[] }).objs.size scope.names (clF X.env scope.names [])).lookup x=some c:=by rw [A3];exact e
   rcases Wn e' with ⟨_,z,_⟩ |z
   ·obtain ⟨v,y⟩:=I.cell x c (clook x c z);exact ⟨v,y.keeps keep⟩
   ·subst h4;exact ⟨none,z⟩
  ·obtain ⟨v,y⟩:=I.cell x c (clook x c q);exact ⟨v,y.keeps keep⟩
 ·rcases cases' x c e with q |⟨q,q'⟩
  ·exact I.hok.fresh (Nat.le_of_succ_le q)
  ·exact I.freeC x c q'
 ·have hp':p∈X.pn++pins:=by simpa [cCx] using hp
  obtain ⟨k1,k2,k3,k4,k5⟩:=I.pin p hp';exact ⟨keep _ _ k1,k2,AV (AK k1),fun z=>(AD.mp (I.stkSub p.1 z)).elim k3 k4,k5⟩
 ·show ((caps.map fun j=>(σ[j]?).join)++List.replicate locN.length none).length=(capN++locN).length;rw [AZ,AI,List.length_replicate,AZ,cs.len]
theorem qFY {X:Cx} {scope:Scope} {N:List Str} {pins:List (Addr×Obj)} {σ σ':L2.St} {H H':Hp} {s s':Shared} {h'':Heap} {fp:List Addr} (I:L2.Inv X pins σ H s) (hf:∀ b∈fp,yJ X pins H b)
  (J:L2.Inv (cCx X scope N s H fp (X.pn++pins)) [] σ' H' s') (sb:Heap.SameBut s.heap.objs.size s'.heap h''):L2.Inv X pins σ H' { s' with heap:=h'' }:=by
 have hos:s'.os=s.os:=J.os;have hC:∀ b o,s.heap.get? b=some o->b≠s.heap.objs.size:=fun b o e=>AV (AK e);have u:Un (frs X.stack) fp H H' s.heap h'':=by have u0:=J.base;exact ⟨fun b o e n h1 h2=>sb.extBut b o (hC b o e) (u0.keep b o e n h1 h2),fun b o e n h1 h2=>(u0.slot b o e n h1 h2).elim fun sl q=>⟨sl,sb.extBut b _ (hC b o e) q⟩,u0.free,fun b o e h2=>(u0.there b o e h2).elim fun o' q=>⟨o',sb.extBut b o' (hC b o e) q⟩,u0.tups,u0.frzs,u0.tbls⟩
 have hok:HOk X.prog X.w H' h'':=fun a o e=>by
  refine (J.hok a o e).stay (fun b v hb q=>sb.extBut b v ?_ q) (fun _ q=>q) fun _ _ q=>q;have hn:H' s.heap.objs.size=none:=J.free;rcases hb with z |z
  ·rw [z];exact qT e hn
  ·exact qT z hn
 obtain ⟨hh,g,d,t,os'⟩:=s';obtain rfl:os'=s.os:=hos;have fin:=L2.Inv.call (s:=s) (h':=h'') (g':=g) (d':=d) (t':=t) (ch:=fp) I u hok J.bare fun b hb=>by obtain ⟨k0,k1,k2,k3,k4,k5⟩:=hf b hb;exact ⟨k3,k1,k4,k5⟩
 exact fin
theorem Y2 {elt:Expr} {gens:List Comprehension} {scope:Scope} {pos:Pos} {d:Nat} {it acc:Value} {env:Env} {g:Comprehension} (hg:gens[d]? = some g) (ha:g.is_async=0) (hn:gens[d + 1]? = none) :
  compTurn (.ListComp elt gens scope pos) d it acc env=(standAt g.iter.pos >>= fun _=>pyNext it >>= fun r=>match r with
   |none=>pure (.done .next)
   |some v=>letOwnedTupleGo g.target it v >>= fun _=>assign g.target env v >>= fun _ =>
    (forIn g.ifs true fun c r=>if r=true then do let ok ← isTrue c env (eval c env);pure (ForInStep.yield ok) else pure (ForInStep.yield r)) >>= fun ok =>
    if ok=true then (eval elt env >>= fun x=>call (.builtin "list.append") [acc,x] >>= fun _=>pure ()) >>= fun _=>again (.compLoop (.ListComp elt gens scope pos) d it acc env)
    else again (.compLoop (.ListComp elt gens scope pos) d it acc env)):=by unfold compTurn;dsimp only;rw [hg];dsimp only;rw [hn,ha];rfl
theorem Y4 {elt:Expr} {gens:List Comprehension} {scope:Scope} {pos:Pos} {d:Nat} {it acc:Value} {env:Env} {g g':Comprehension} (hg:gens[d]? = some g) (ha:g.is_async=0) (hn:gens[d + 1]? = some g') (ha':g'.is_async=0) :
  compTurn (.ListComp elt gens scope pos) d it acc env=(standAt g.iter.pos >>= fun _=>pyNext it >>= fun r=>match r with
   |none=>pure (.done .next)
   |some v=>letOwnedTupleGo g.target it v >>= fun _=>assign g.target env v >>= fun _ =>
    (forIn g.ifs true fun c r=>if r=true then do let ok ← isTrue c env (eval c env);pure (ForInStep.yield ok) else pure (ForInStep.yield r)) >>= fun ok =>
    if ok=true then (eval g'.iter env >>= fun x=>standAt g'.iter.pos >>= fun _=>foldedSetIterable g'.iter env x >>= fun x=>holding [x] (pyIter x) >>= fun it'=>runOwn (.compStart (.ListComp elt gens scope pos) (d + 1) it' acc env) env >>= fun _=>again (.compLoop (.ListComp elt gens scope pos) d it acc env))
    else again (.compLoop (.ListComp elt gens scope pos) d it acc env)):=by unfold compTurn;dsimp only;rw [hg];dsimp only;rw [hn,ha];dsimp only;rw [ha'];rfl
theorem Zw {prog:Program} {w:World} {A:Around} {R:Result->Shared->Prop} {s:Shared} {elt:Expr} {gens:List Comprehension} {scope:Scope} {pos:Pos} {d:Nat} {it acc:Value} {env:Env} {g:Comprehension} (hg:gens[d]? = some g) (ha:g.is_async=0)
  (h0:codeAny (model prog w) A (.compLoop (.ListComp elt gens scope pos) d it acc env) R s)
  (h:wpAny (model prog w) A (pyIter it) (fun it' s'=>codeAny (model prog w) A (.compLoop (.ListComp elt gens scope pos) d it' acc env) R s') (notedBy (model prog w) A env fun x s'=>R (.error x) s') s) :
  codeAny (model prog w) A (.compStart (.ListComp elt gens scope pos) d it acc env) R s:=by
 refine codeAny_of_tree ?_;show wpAny _ _ ((compStart (.ListComp elt gens scope pos) d it acc env).onRaise (fun x=>do noteFrame x env;standAt theWindowsPlace)) _ _ s;refine wpAny_notedAt ?_;unfold compStart;have e1:(clausesOf (.ListComp elt gens scope pos))[d]? = some g:=hg;rw [e1];simp only [Option.elim_some,ha];refine AA (CA (wpAny_ite ?_));split
 ·exact AA (AB (AB (And.intro rfl h0)))
 ·exact AA (B7 (AA (B6 (AA (Bb h (fun it' s' h'=>AB (And.intro rfl h')) fun _ _ x=>x)))))
structure GenF where
 fi:FI
 g:FG
 ts:List FT
def wf:List FT->FT
 |[],_,st => .ok true st
 |t::ts,r,st=>(t r st).bind fun k s=>if k=true then wf ts r s else .ok false s
open Classical in
noncomputable def qz (G:qB->Prop) (k:PV->qB->Rs (List PV)):List PV->qB->Rs (List PV)
 |[],st=>if G st then .ok [] st else .no
 |p::ps,st=>if G st then (k p st).bind fun l s=>(qz G k ps s).bind fun m s' => .ok (l++m) s' else .no
def Qi (g:GenF) (rest:FL) (r:qv) (p:PV) (s:qB):Rs (List PV):=match g.g p r with
 |none => .no
 |some r'=>(wf g.ts r' s).bind fun k s1=>if k=true then rest r' s1 else .ok [] s1
noncomputable def Q7:List GenF->FE->FL
 |[],f=>fun r st=>(f r st).bind fun p s => .ok [p] s
 |g::gs,f=>fun r st=>(g.fi r st).bind fun w s=>qz w.G (Qi g (Q7 gs f) r) w.l s
def Le (r r':qv):Prop:=r.length=r'.length ∧ ∀ (i:Nat) (p:PV),r[i]? = some (some p)->r'[i]? = some (some p)
theorem REnv.le {K:W.Frag} {H:Hp} {b:Bz} {r r':qv} {s:L2.St} (h:REnv K H b r' s) (l:Le r r'):REnv K H b r s:=⟨l.1.trans h.1,fun i p e=>h.2 i p (l.2 i p e)⟩
def qB7 (g:FG):Prop := ∀ p r r',g p r=some r'->Le r r'
inductive TsOk (X:Cx):List Expr->List FT->Prop where
 |nil:TsOk X [] []
 |cons {e:Expr} {t:FT} {es:List Expr} {ts:List FT} (h:VT X E0 e t) (r:TsOk X es ts):TsOk X (e::es) (t::ts)
theorem qAg {X:Cx} (hx:∀ e s,X.xe e s->False):∀ {es:List Expr} {ts:List FT},TsOk X es ts -> ∀ {pins:List (Addr×Obj)} {s:Shared} {σ:L2.St} {H:Hp} {b:Bz} {r:qv} {st st':qB} {k:Bool} {Q:Bool->Shared->Prop} {E:Value->Shared->Prop},L2.Inv X pins σ H s->SR X.K H b st->REnv X.K H b r σ->wf ts r st = .ok k st' ->
  (∀ s' H' b',L2.Inv X pins σ H' s'->Ext H b H' b'->SR X.K H' b' st'->Q k s') ->
  wpAny (model X.prog X.w) X.A (forIn es true fun c r=>if r=true then do let ok ← isTrue c X.env (eval c X.env);pure (ForInStep.yield ok) else pure (ForInStep.yield r)) Q E s
 |_,_,.nil,pins,s,σ,H,b,r,st,st',k,Q,E,I,S,R,e,q=>by cases e;exact wpAny_tests_nil (q s H b I (Ext.refl _ _) S)
 |_,_,@TsOk.cons _ c t es ts h hr,pins,s,σ,H,b,r,st,st',k,Q,E,I,S,R,e,q=>by
  rw [Cb];simp only [CY];unfold wf at e;cases et:t r st with
  |no=>rw [et] at e;cases e
  |ex x s1=>rw [et] at e;cases e
  |ok k1 s1 =>
   rw [et] at e;have e:(if k1=true then wf ts r s1 else .ok false s1) = .ok k st':=e;refine AA (AA (Bb (h pins s σ H (fun k' H'=>k'=k1 ∧ ∃ b',Ext H b H' b'∧SR X.K H' b' s1) I ⟨b,r,st,S,R,by rw [et];exact fun H' b' e' S'=>⟨rfl,b',e',S'⟩⟩) (fun k' s2 hq => ?_) fun e' s' z=>(hx e' s' z).elim))
   obtain ⟨H2,I2,rfl,b2,e2,S2⟩:=hq;refine AB ?_;dsimp only;cases k' with
   |true =>rw [AF rfl] at e;exact qAg hx hr I2 S2 (R.ext e2) e fun s' H' b' I' e' S'=>q s' H' b' I' (e2.trans e') S'
   |false =>
    rw [AJ BO] at e;cases e;have skip:∀ (es:List Expr),wpAny (model X.prog X.w) X.A (forIn es false fun c r=>if r=true then do let ok ← isTrue c X.env (eval c X.env);pure (ForInStep.yield ok) else pure (ForInStep.yield r)) Q E s2:=by
     intro es;induction es with
     |nil=>rw [List.forIn_nil];exact AB (q s2 H2 b2 I2 e2 S2)
     |cons c es ih =>rw [Cb];simp only [A6,Bm];exact AA (AB ih)
    exact skip es
structure GOk (X:Cx) (c:Comprehension) (g:GenF):Prop where
 tg:VG X c.target g.g
 fr:qB7 g.g
 ts:TsOk X c.ifs g.ts
 asy:c.is_async=0
structure GOk' (X:Cx) (c:Comprehension) (g:GenF):Prop extends GOk X c g where
 it:VI X E0 c.target c.iter g.fi
 fold:∀ x,foldedSetIterable c.iter X.env x=pure x
inductive GsOk (X:Cx):List Comprehension->List GenF->Prop where
 |nil:GsOk X [] []
 |cons {c:Comprehension} {g:GenF} {cs:List Comprehension} {gs:List GenF} (h:GOk' X c g) (r:GsOk X cs gs):GsOk X (c::cs) (g::gs)
theorem qDP {X:Cx} (hx:∀ e s,X.xe e s->False) {pins:List (Addr×Obj)} {s:Shared} {σ:L2.St} {H:Hp} {D:Addr} {xs:List V} {y:V} {u:Value} {Q:Value->Shared->Prop} {E:Value->Shared->Prop} (I:L2.Inv X pins σ H s) (hD:H D=some (.lst xs)) (hl:xs.length < sizeLine) (ry:RelV y u)
  (q:∀ v s',L2.Inv X pins σ (upd H D (.lst (xs++[y]))) s'->Q v s'):wpAny (model X.prog X.w) X.A (call (.builtin "list.append") [.ref D,u]) Q E s :=
 Bb (jF pins s σ H (.ref D) [y] (.ref D) [u] (fun v H'=>H'=upd H D (.lst (xs++[y]))) I rfl (.cons ry .nil) ⟨D,xs,y,rfl,rfl,hD,hl,rfl⟩) (fun v s' ⟨x,H',I',r',e⟩=>by subst e;exact q v s' I') fun e' s' z=>(hx e' s' z).elim
structure DE (D:Addr) (H:Hp) (b:Bz) (H':Hp) (b':Bz):Prop extends WE H b H' b' where
 same:b'.z=b.z
 hid:∀ a o,a∈b.z->a≠D->H a=some o->H' a=some o
 fz:∀ a o u,a≠D->H a=some (.frz o u)->H' a=some (.frz o u)
theorem DE.of {D:Addr} {H H':Hp} {b b':Bz} (e:Ext H b H' b'):DE D H b H' b':=⟨e.toWE,e.same,fun a o ha _ h=>e.hid a o ha h,fun a o u _ h=>e.fz a o u h⟩
theorem DE.trans {D:Addr} {H H1 H2:Hp} {b b1 b2:Bz} (e:DE D H b H1 b1) (f:DE D H1 b1 H2 b2):DE D H b H2 b2:=⟨e.toWE.trans f.toWE,f.same.trans e.same,fun a o ha hn h=>f.hid a o (by rw [e.same];exact ha) hn (e.hid a o ha hn h),fun a o u n h=>f.fz a o u n (e.fz a o u n h)⟩
theorem DE.wr {D:Addr} {H:Hp} {b:Bz} {o:HO} (h:D∈b.z):DE D H b (upd H D o) b:=⟨WE.wr (.inr h),rfl,fun a u ha hn e=>by rw [qS hn];exact e,fun a u v hn e=>by rw [qS hn];exact e⟩
def qKx (X:Cx) (D:Addr) (c:Code) (inner:Sem Fin) (rest:FL):Prop :=
 ∀ (pins:List (Addr×Obj)) (s:Shared) (σ:L2.St) (H:Hp) (b:Bz) (r:qv) (st st':qB) (l:List PV) (accV:List V) (QF:Fin->Shared->Prop) (E:Value->Shared->Prop),L2.Inv X pins σ H s->SR X.K H b st->REnv X.K H b r σ->D∈b.z->H D=some (.lst accV) ->
  rest r st = .ok l st'->accV.length + l.length≤sizeLine ->
  (∀ s' σ' H' b' lV,L2.Inv X pins σ' H' s'->DE D H b H' b'->SR X.K H' b' st'->REnv X.K H' b' r σ'->H' D=some (.lst (accV++lV))->RVs X.K H' b' l lV->QF (.again c) s')->wpAny (model X.prog X.w) X.A inner QF E s
theorem qAI {X:Cx} (hx:∀ e s,X.xe e s->False) {elt:Expr} {gens:List Comprehension} {scope:Scope} {pos:Pos} {d:Nat} {it D:Addr} {c:Comprehension} {g:GenF} (hg:GOk X c g) {inner:Sem Fin} {rest:FL} (hin:qKx X D (.compLoop (.ListComp elt gens scope pos) d (.ref it) (.ref D) X.env) inner rest)
  (hturn:compTurn (.ListComp elt gens scope pos) d (.ref it) (.ref D) X.env=(standAt c.iter.pos >>= fun _=>pyNext (.ref it) >>= fun r=>match r with
   |none=>pure (.done .next)
   |some v=>letOwnedTupleGo c.target (.ref it) v >>= fun _=>assign c.target X.env v >>= fun _ =>
    (forIn c.ifs true fun c r=>if r=true then do let ok ← isTrue c X.env (eval c X.env);pure (ForInStep.yield ok) else pure (ForInStep.yield r)) >>= fun ok =>
    if ok=true then inner else again (.compLoop (.ListComp elt gens scope pos) d (.ref it) (.ref D) X.env)))
  {pins:List (Addr×Obj)} {s:Shared} {σ:L2.St} {H:Hp} {b:Bz} {r:qv} {st st':qB} {fp:List Addr} {tn:Nat->Heap->Prop} {J:It} {w:ItP} {accV:List V} {l:List PV} {R:Result->Shared->Prop}
  (I:L2.Inv X pins σ H s) (S:SR X.K H b st) (RE:REnv X.K H b r σ) (hDz:D∈b.z) (hD:H D=some (.lst accV)) (T:Turn X.prog X.w X.K X.A c.target J fp it tn) (t0:tn 0 s.heap) (hf:∀ a∈fp,yJ X pins H a)
  (hit:Yq X.K H b J w)
  (hv:qz w.G (Qi g rest r) w.l st = .ok l st') (hsz:accV.length + l.length≤sizeLine)
  (hR:∀ s' σ' H' b' lV,L2.Inv X pins σ' H' s'->DE D H b H' b'->SR X.K H' b' st'->REnv X.K H' b' r σ'->H' D=some (.lst (accV++lV))->RVs X.K H' b' l lV->R (.ok .next) s') :
  codeAny (model X.prog X.w) X.A (.compLoop (.ListComp elt gens scope pos) d (.ref it) (.ref D) X.env) R s:=by
 have stat:∀ {H':Hp},(∀ a∈fp,H' a=none) -> ∀ a∈fp,yJ X pins H' a:=fun hn a ha=>⟨hn a ha,(hf a ha).2⟩;refine codeAny_loop rfl (fun n s1 => ∃ i σ1 H1 b1 st1 done doneV m,n=w.l.length + 1 - i∧i≤w.l.length∧L2.Inv X pins σ1 H1 s1∧DE D H b H1 b1∧SR X.K H1 b1 st1∧REnv X.K H1 b1 r σ1∧H1 D=some (.lst (accV++doneV))∧RVs X.K H1 b1 done doneV∧tn i s1.heap∧(∀ a∈fp,H1 a=none) ∧
  qz w.G (Qi g rest r) (w.l.drop i) st1 = .ok m st'∧done++m=l) ?_ (w.l.length + 1)
  ⟨0,σ,H,b,st,[],[],l,by omega,BV _,I,DE.of (Ext.refl _ _),S,RE,by simpa using hD,RVs.nil,t0,fun a ha=>(hf a ha).1,by simpa using hv,rfl⟩
 rintro n s1 ⟨i,σ1,H1,b1,st1,done,doneV,m,hn,hi,I1,e1,S1,R1,hD1,rd1,t1,fr1,hv1,hm⟩
 show wpAny _ X.A ((compTurn (.ListComp elt gens scope pos) d (.ref it) (.ref D) X.env).onRaise (fun x=>do noteFrame x X.env;theTreesLotGoes x)) _ _ s1;refine wpAny_noted ?_;rw [hturn];refine AA (B6 (AA ?_));have hz1:D∈b1.z:=by rw [e1.same];exact hDz
 by_cases hlt:i < w.l.length
 ·have hd:w.l.drop i=w.l[i]::w.l.drop (i + 1):=List.drop_eq_getElem_cons hlt;rw [hd] at hv1;unfold qz at hv1;by_cases hG:w.G st1
  ·rw [AF hG] at hv1;obtain ⟨h1,h2⟩:=hit H1 b1 st1 e1.toWE S1 hG;obtain ⟨go,yl⟩:=h1 i w.l[i] (AL hlt);cases ek:Qi g rest r w.l[i] st1 with
   |no=>rw [ek] at hv1;cases hv1
   |ex x s5=>rw [ek] at hv1;cases hv1
   |ok l1 s5 =>
    rw [ek] at hv1;have hv1:(qz w.G (Qi g rest r) (w.l.drop (i + 1)) s5).bind (fun m s' => .ok (l1++m) s') = .ok m st':=hv1;cases ek2:qz w.G (Qi g rest r) (w.l.drop (i + 1)) s5 with
    |no=>rw [ek2] at hv1;cases hv1
    |ex x s6=>rw [ek2] at hv1;cases hv1
    |ok m2 s6 =>
     rw [ek2] at hv1;have hv1:Rs.ok (l1++m2) s6 = .ok m st':=hv1;injection hv1 with hv1a hv1b;subst hv1a;subst hv1b;refine thn (T.item X rfl rfl rfl rfl i pins s1 σ1 H1 _ I1 (stat fr1) t1 go) fun rr s2 ⟨u,hr,h4⟩ => ?_;subst hr;refine AA (thn h4 fun _ s3 ⟨x,H3,I3,r3,y3,t3,fr3⟩ => ?_);obtain ⟨sm3,S3,rx3⟩:=yl x H3 y3;have e3:Ext H1 b1 H3 b1:=Ext.of_same sm3;have hD3:=sm3 _ _ hD1;unfold Qi at ek;cases eg:g.g w.l[i] r with
     |none=>rw [eg] at ek;cases ek
     |some r' =>
      rw [eg] at ek;have ek:(wf g.ts r' st1).bind (fun k s1=>if k=true then rest r' s1 else .ok [] s1) = .ok l1 s5:=ek;cases et:wf g.ts r' st1 with
      |no=>rw [et] at ek;cases ek
      |ex x s7=>rw [et] at ek;cases ek
      |ok k s7 =>
       rw [et] at ek;have ek:(if k=true then rest r' s7 else .ok [] s7) = .ok l1 s5:=ek;have I3':=I3.pinned (stat fr3) (T.obj _ _ t3);refine AA (Bb (hg.tg _ s3 σ1 H3 x u (fun σ' H'=>H'=H3∧REnv X.K H3 b1 r' σ') I3' r3 ⟨b1,r,w.l[i],st1,S3,R1.ext e3,rx3,r',eg,fun s' R'=>⟨rfl,R'⟩⟩) (fun _ s4 hq => ?_) fun e' s' z=>(hx e' s' z).elim);obtain ⟨σ4,H4,I4,rfl,R4⟩:=hq;refine AA (qAg hx hg.ts I4 S3 R4 et fun s5' H5 b5 I5 e5 S5 => ?_);have hz5:D∈b5.z:=by rw [e5.same];exact hz1
       have hD5:=e5.hid _ _ hz1 hD3;have e15:DE D H b H5 b5:=(e1.trans (DE.of e3)).trans (DE.of e5);have back:∀ {s7':Shared} {σ7:L2.St} {H7:Hp} {b7:Bz} {l1V:List V},L2.Inv X (pins++Ye fp s3.heap) σ7 H7 s7'->DE D H5 b5 H7 b7->SR X.K H7 b7 s5->REnv X.K H7 b7 r' σ7->H7 D=some (.lst (accV++doneV++l1V))->RVs X.K H7 b7 l1 l1V ->
         ∃ m,m < n ∧ ∃ i σ1 H1 b1 st1 done doneV mm,m=w.l.length + 1 - i∧i≤w.l.length∧L2.Inv X pins σ1 H1 s7'∧DE D H b H1 b1∧SR X.K H1 b1 st1∧REnv X.K H1 b1 r σ1∧H1 D=some (.lst (accV++doneV))∧RVs X.K H1 b1 done doneV∧tn i s7'.heap∧(∀ a∈fp,H1 a=none) ∧
         qz w.G (Qi g rest r) (w.l.drop i) st1 = .ok mm s6∧done++mm=l:=fun {s7' σ7 H7 b7 l1V} I7 e7 S7 R7 hD7 rl7=>by
        refine ⟨w.l.length + 1 - (i + 1),by omega,i + 1,σ7,H7,b7,s5,done++l1,doneV++l1V,m2,rfl,hlt,I7.unpinned,e15.trans e7,S7,R7.le (hg.fr _ _ _ eg),by rw [hD7,A4],?_,T.keep _ _ _ t3 fun a ha o e=>(I7.pin (a,o) (A7 _ (A7 _ (zR ha e)))).1,fun a ha => ?_,ek2,by rw [A4];exact hm⟩
        ·exact RVs.append (RVs.wext e7.toWE done (RVs.ext e5 done (RVs.ext e3 done rd1))) rl7
        ·obtain ⟨o,e,_⟩:=T.obj _ _ t3 a ha;exact (I7.pin (a,o) (A7 _ (A7 _ (zR ha e)))).2.1
       cases k with
       |false =>rw [AJ BO] at ek ⊢;injection ek with ek1 ek2';subst ek1;subst ek2';refine AB ⟨rfl,back I5 (DE.of (Ext.refl _ _)) S5 (R4.ext e5) (by rw [BA];exact hD5) RVs.nil⟩
       |true =>
        rw [AF rfl] at ek ⊢;refine hin _ s5' σ4 H5 b5 r' s7 s5 l1 (accV++doneV) _ _ I5 S5 (R4.ext e5) hz5 hD5 ek ?_ fun s8 σ8 H8 b8 lV I8 e8 S8 R8 hD8 r8=>⟨rfl,back I8 e8 S8 R8 hD8 r8⟩;have h1:=rd1.length;have h2:l.length=done.length + (l1.length + m2.length):=by rw [← hm,AZ,AZ]
        rw [AZ];omega
  ·rw [AJ hG] at hv1;cases hv1
 ·have hl:i=w.l.length:=by omega
  subst hl;rw [List.drop_length] at hv1;unfold qz at hv1;by_cases hG:w.G st1
  ·rw [AF hG] at hv1;injection hv1 with k1 k2;subst k1;subst k2;obtain ⟨h1,h2⟩:=hit H1 b1 st1 e1.toWE S1 hG;refine thn (T.done X rfl rfl rfl rfl _ pins s1 σ1 H1 _ I1 (stat fr1) t1 (h2 _ (AM _))) fun r2 s2 ⟨hr,I2⟩ => ?_;subst hr;rw [BA] at hm;subst hm;exact AB (hR s2 σ1 H1 b1 doneV I2 e1 S1 R1 hD1 rd1)
  ·rw [AJ hG] at hv1;cases hv1
theorem qCp {X:Cx} (hx:∀ e s,X.xe e s->False) {elt:Expr} {gens:List Comprehension} {scope:Scope} {pos:Pos} {f:FE} {D:Addr} (he:VE X E0 elt f) :
  ∀ (gs:List GenF) (cs:List Comprehension) (d:Nat) (c:Comprehension) (g:GenF),gens.drop d=c::cs->GOk X c g->GsOk X cs gs ->
  ∀ (pins:List (Addr×Obj)) (s:Shared) (σ:L2.St) (H:Hp) (b:Bz) (r:qv) (st st':qB) (it:Addr) (fp:List Addr) (tn:Nat->Heap->Prop) (J:It) (w:ItP) (accV:List V) (l:List PV) (R:Result->Shared->Prop),
  L2.Inv X pins σ H s->SR X.K H b st->REnv X.K H b r σ->D∈b.z->H D=some (.lst accV)->Turn X.prog X.w X.K X.A c.target J fp it tn->tn 0 s.heap->(∀ a∈fp,yJ X pins H a)->Yq X.K H b J w ->
  qz w.G (Qi g (Q7 gs f) r) w.l st = .ok l st'->accV.length + l.length≤sizeLine ->
  (∀ s' σ' H' b' lV,L2.Inv X pins σ' H' s'->DE D H b H' b'->SR X.K H' b' st'->REnv X.K H' b' r σ'->H' D=some (.lst (accV++lV))->RVs X.K H' b' l lV->R (.ok .next) s') ->
  codeAny (model X.prog X.w) X.A (.compLoop (.ListComp elt gens scope pos) d (.ref it) (.ref D) X.env) R s:=by
 intro gs;induction gs with
 |nil =>
  intro cs d c g hdr hg hgs pins s σ H b r st st' it fp tn J w accV l R I S RE hDz hD T t0 hf hit hv hsz hR;cases hgs;have hgd:gens[d]? = some c:=by
   have:(gens.drop d)[0]? = some c:=by rw [hdr];rfl
   simpa using this
  have hgn:gens[d + 1]? = none:=by
   have:(gens.drop d)[1]? = none:=by rw [hdr];rfl
   simpa using this
  refine qAI hx hg ?_ (Y2 hgd hg.asy hgn) I S RE hDz hD T t0 hf hit hv hsz hR;intro pins s σ H b r st st' l accV QF E I S RE hDz hD hv hsz q;have hv:(f r st).bind (fun p s => .ok [p] s) = .ok l st':=hv;cases ef:f r st with
  |no=>rw [ef] at hv;cases hv
  |ex x s1=>rw [ef] at hv;cases hv
  |ok p s1 =>
   rw [ef] at hv;have hv:Rs.ok [p] s1 = .ok l st':=hv;injection hv with h1 h2;subst h1;subst h2;refine AA (AA (Bb (he pins s σ H (fun v H' => ∃ b',Ext H b H' b'∧SR X.K H' b' s1∧RV X.K H' b' p v) I ⟨b,r,st,S,RE,by rw [ef];exact fun v H' b' e' S' r'=>⟨b',e',S',r'⟩⟩) (fun u s2 hq => ?_) fun e' s' z=>(hx e' s' z).elim))
   obtain ⟨v,H2,I2,rv,b2,e2,S2,r2⟩:=hq;have hz2:D∈b2.z:=by rw [e2.same];exact hDz
   refine AA (qDP hx I2 (e2.hid _ _ hDz hD) (by rw [Aq] at hsz;omega) rv fun _ s3 I3=>AB (AB ?_))
   have dw:DE D H2 b2 (upd H2 D (.lst (accV++[v]))) b2:=DE.wr hz2;exact q s3 σ _ b2 [v] I3 ((DE.of e2).trans dw) (SR.wrz S2 hz2) ((RE.ext e2).wext dw.toWE) qw (RVs.cons (RV.wext dw.toWE p r2) RVs.nil)
 |cons g2 gs ih =>
  intro cs d c g hdr hg hgs pins s σ H b r st st' it fp tn J w accV l R I S RE hDz hD T t0 hf hit hv hsz hR;cases hgs with
  | @cons c2 _ cs _ h2 hr2 =>
   have hgd:gens[d]? = some c:=by
    have:(gens.drop d)[0]? = some c:=by rw [hdr];rfl
    simpa using this
   have hgn:gens[d + 1]? = some c2:=by
    have:(gens.drop d)[1]? = some c2:=by rw [hdr];rfl
    simpa using this
   have hdr2:gens.drop (d + 1)=c2::cs:=by
    have:(gens.drop d).drop 1=c2::cs:=by rw [hdr];rfl
    rwa [List.drop_drop] at this
   refine qAI hx hg ?_ (Y4 hgd hg.asy hgn h2.asy) I S RE hDz hD T t0 hf hit hv hsz hR;intro pins s σ H b r st st' l accV QF E I S RE hDz hD hv hsz q;have hv:(g2.fi r st).bind (fun w s=>qz w.G (Qi g2 (Q7 gs f) r) w.l s) = .ok l st':=hv;cases ef:g2.fi r st with
   |no=>rw [ef] at hv;cases hv
   |ex x s1=>rw [ef] at hv;cases hv
   |ok w2 s1 =>
    rw [ef] at hv;have hv:qz w2.G (Qi g2 (Q7 gs f) r) w2.l s1 = .ok l st':=hv;have hi:=h2.it pins s σ H (fun J H' => ∃ b',Ext H b H' b'∧SR X.K H' b' s1∧Yq X.K H' b' J w2) I ⟨b,r,st,S,RE,by rw [ef];exact fun J H' b' e' S' i'=>⟨b',e',S',i'⟩⟩
    refine AA (Bb hi (fun u s2 hq => ?_) fun e' s' z=>(hx e' s' z).elim);refine AA (B6 (AA (Ah (h2.fold u) (AA (Ae (Bb hq (fun itv s3 hq3 => ?_) fun e' s' z=>(hx e' s' z).elim))))));obtain ⟨it2,fp2,tn2,J2,H3,rfl,I3,T2,t2,f2,b3,e3,S3,i3⟩:=hq3;have hz3:D∈b3.z:=by rw [e3.same];exact hDz
    have hD3:=e3.hid _ _ hDz hD;refine AA (wpAny_runOwn ?_);have loop:=ih cs (d + 1) c2 g2 hdr2 h2.toGOk hr2 pins s3 σ H3 b3 r s1 st' it2 fp2 tn2 J2 w2 accV l (fun r s'=>match r with
     | .ok f=>wpAny (model X.prog X.w) X.A (again (.compLoop (.ListComp elt gens scope pos) d (.ref it) (.ref D) X.env)) QF E s'
     | .error e=>cameBackBy (model X.prog X.w) X.A X.env E e s') I3 S3 (RE.ext e3) hz3 hD3 T2 t2 f2 i3 hv hsz
     fun s' σ' H' b' lV I' e' S' R' hD' r'=>AB (q s' σ' H' b' lV I' ((DE.of e3).trans e') S' R' hD' r')
    exact Zw hgn h2.asy loop (T2.self X.A 0 s3 _ _ t2 loop)
theorem qE4 {M:Model} {A:Around} {E:Value->Shared->Prop} {s:Shared} {scope:Scope} {env:Env} {cl:List (Str×Addr)} {Q:Env->Shared->Prop}
  (h:Q { scope:=scope,locals:=s.heap.objs.size,globals:=env.globals,cells:=cellsFrom (s.heap.objs.size + 1) scope.names cl,qual:=env.qual,func:=none,code:=env.code,frame:=env.frame,builtins:=env.builtins } { s with heap:=pushCells (s.heap.push { cls := .type "dict",data := .dict #[] }) scope.names }) :
  wpAny M A (newFunctionEnv scope env.globals cl [] env.qual none .none (some env)) Q E s:=by
 simp only [newFunctionEnv,Option.isSome_some,CY];refine AA (wpAny_alloc ?_);refine AA (wpAny_layCells _ (fun name kind cells=>by cases hkc:kind==NameKind.cell <;> simp [hkc]) _ _ _ _ ?_)
 rw [show ({ s with heap:=s.heap.push { cls := .type "dict",data := .dict #[] } }:Shared).heap.objs.size=s.heap.objs.size + 1 from A3 ..];exact AA (AB (AB h))
def Wz (caps:List Nat) (n:Nat) (r:qv):qv:=(caps.map fun j=>(r[j]?).join)++List.replicate n none
noncomputable def qt (caps:List Nat) (n:Nat) (fi:FI) (g:FG) (ts:List FT) (gs:List GenF) (f:FE):FL:=fun r st=>(fi r st).bind fun w s=>match qz w.G (Qi ⟨fi,g,ts⟩ (Q7 gs f) (Wz caps n r)) w.l s with
 | .ok l s'=>if l.length≤sizeLine then .ok l s' else .no
 |_ => .no
theorem qEA {K:W.Frag} {H:Hp} {b:Bz} {r:qv} {σ:L2.St} {caps:List Nat} {n:Nat} (R:REnv K H b r σ):REnv K H b (Wz caps n r) ((caps.map fun j=>(σ[j]?).join)++List.replicate n none):=by
 refine ⟨by simp [Wz],fun i p e => ?_⟩
 unfold Wz at e;by_cases hi:i < caps.length
 ·rw [Ak (by simpa using hi),BG] at e
  rw [Ak (by simpa using hi),BG]
  cases ej:caps[i]? with
  |none=>rw [ej] at e;cases e
  |some j =>
   rw [ej] at e;have e':(r[j]?).join=some p:=Ai e;have e2:r[j]? = some (some p):=by
    cases q:r[j]? with
    |none=>rw [q] at e';cases e'
    |some o=>rw [q] at e';exact B5 some e'
   obtain ⟨v,h1,h2⟩:=R.2 j p e2;refine ⟨v,?_,h2⟩;show some (σ[j]?).join=some (some v);rw [h1];rfl
 ·rw [Aw (by simpa using hi),Bs] at e
  split at e <;> cases e
theorem qCy {K:W.Frag} {H:Hp} {b:Bz} {J:It} {w:ItP} {D:Addr} {o:HO} (h:Yq K H b J w) (hD:H D=none):Yq K (upd H D o) ⟨b.b,D::b.z⟩ J w:=fun H1 b1 st1 e S g=>h H1 b1 st1 ((WE.hide hD).trans e) S g
theorem QK {X:Cx} {E:XK} {elt:Expr} {c:Comprehension} {cs:List Comprehension} {scope:Scope} {pos:Pos} {capN locN:List Str} {caps:List Nat} {fi:FI} {g:FG} {ts:List FT} {gs:List GenF} {f:FE} (hcs:CSc X scope capN locN caps)
  (hi:VI X E c.target c.iter fi) (sub:∀ s H fp pn,VE (cCx X scope (capN++locN) s H fp pn) E0 elt f∧GOk (cCx X scope (capN++locN) s H fp pn) c ⟨fi,g,ts⟩∧GsOk (cCx X scope (capN++locN) s H fp pn) cs gs)
  (hs:∀ x,foldedSetIterable c.iter X.env x=pure x:=by intro _;rfl):VN X E (.ListComp elt (c::cs) scope pos) (qt caps locN.length fi g ts gs f):=by
 intro pins s σ H Q I hq;obtain ⟨b,r,st,S,RE,P⟩:=hq;have hfree:∀ x∈scope.names,x.2 = .free -> ∃ c,X.env.cells.lookup x.1=some c:=fun x hx hk=>I.ok.has x.1 (hcs.fr x hx hk);obtain ⟨c1,c2,c3,c4⟩:=c;have hasy:c4=0:=(sub s H [] []).2.1.asy;subst hasy;rw [eval_ListComp];refine wpAny_comprehension_free (use:=none) rfl hs (qBS hfree) hcs.kind (fun x hx hl=>za hcs.nd (by rw [← hl];exact hx)) ?_
 show wpAny _ _ (eval c2 X.env) _ _ s;unfold qt at P;cases ef:fi r st with
 |no=>rw [ef] at P;exact P.elim
 |ex x s1 =>
  rw [ef] at P;refine thn (hi pins s σ H (fun _ _=>False) I ⟨b,r,st,S,RE,by rw [ef];exact P⟩) fun v s2 h2=>thn h2 fun itv s3 h3 => ?_
  obtain ⟨_,_,_,_,_,_,_,_,_,_,z⟩:=h3;exact z.elim
 |ok w s1 =>
  rw [ef] at P;refine thn (hi pins s σ H (fun J H' => ∃ b',Ext H b H' b'∧SR X.K H' b' s1∧Yq X.K H' b' J w) I ⟨b,r,st,S,RE,by rw [ef];exact fun J H' b' e' S' i'=>⟨b',e',S',i'⟩⟩) fun v s2 h2=>thn h2 fun itv s3 h3 => ?_
  obtain ⟨it,fp,tn,J,H2,rfl,I2,T,t2,f2,b2,e2,S2,i2⟩:=h3;have P:PostN X.K E H b (match qz w.G (Qi ⟨fi,g,ts⟩ (Q7 gs f) (Wz caps locN.length r)) w.l s1 with | .ok l s'=>if l.length≤sizeLine then .ok l s' else .no |_ => .no) Q:=P;cases ev:qz w.G (Qi ⟨fi,g,ts⟩ (Q7 gs f) (Wz caps locN.length r)) w.l s1 with
  |no=>rw [ev] at P;exact P.elim
  |ex x s4=>rw [ev] at P;exact P.elim
  |ok l st' =>
   rw [ev] at P;have P:PostN X.K E H b (if l.length≤sizeLine then .ok l st' else .no) Q:=P;by_cases hl:l.length≤sizeLine
   ·rw [AF hl] at P;have hfr:H2 s3.heap.objs.size=none:=I2.hok.fresh (AM _);refine Cj ?_;generalize hs3:({ s3 with heap:=s3.heap.push { cls := .type "list",data := .seq ([]:List Value).toArray } }:Shared)=s3';have I3:L2.Inv X pins σ (upd H2 s3.heap.objs.size (.lst [])) s3':=by rw [← hs3];exact I2.laid (t':=s3.toks) (fun a u e=>AC _ e) (AM _) (show ObjOk X.prog X.w _ _ _ (.lst []) from ⟨BV _,[],0,.nil,AT _ rfl⟩)
    have k3:∀ a o,s3.heap.get? a=some o->s3'.heap.get? a=some o:=fun a o e=>by rw [← hs3];exact AC _ e
    have hlt:∀ a∈fp,a < s3.heap.objs.size:=fun a ha=>by obtain ⟨o,e,_⟩:=T.obj _ _ t2 a ha;exact AK e
    have f3:∀ a∈fp,yJ X pins (upd H2 s3.heap.objs.size (.lst [])) a:=fun a ha=>⟨by rw [qS (AV (hlt a ha))];exact (f2 a ha).1,(f2 a ha).2⟩
    have hlt3:∀ a∈fp,a < s3'.heap.objs.size:=fun a ha=>by obtain ⟨o,e,_⟩:=T.obj _ _ t2 a ha;exact AK (k3 a o e)
    generalize hD:s3.heap.objs.size=D at I3 f3 hfr;refine qE4 ?_;have J0:=qAs hcs I3 f3 hlt3 rfl;obtain ⟨he,hg,hgs⟩:=sub s3' (upd H2 D (.lst [])) fp (X.pn++pins);have k4:∀ a o,s3'.heap.get? a=some o->(pushCells (s3'.heap.push { cls := .type "dict",data := .dict #[] }) scope.names).get? a=some o:=fun a o e=>pushCells_keeps _ _ _ _ (AC _ e);have hDz:D ∉ b2.z:=(S2.new_notin hfr).2;have loop:=qCp (X:=cCx X scope (capN++locN) s3' (upd H2 D (.lst [])) fp (X.pn++pins)) (fun _ _ z=>z) (gens:=⟨c1,c2,c3,0⟩::cs) (scope:=scope) (pos:=pos) (D:=D) he gs cs 0 ⟨c1,c2,c3,0⟩ ⟨fi,g,ts⟩ rfl hg hgs [] _ _ _ ⟨b2.b,D::b2.z⟩ (Wz caps locN.length r) s1 st' it fp tn J w [] l
     (compPost (model X.prog X.w) X.A X.xe none (EP X pins σ Q) (.ref D) s3'.heap.objs.size) J0 (SR.hide S2 hfr) (qEA ((RE.ext e2).wext (WE.hide hfr))) AH qw T (T.keep _ _ _ t2 fun a ha o e=>k4 a o (k3 a o e))
     (fun a ha=>⟨(f3 a ha).1,(J0.ok.exf a ha).1,J0.ok.exfs a ha,.inl ha,(J0.ok.exf a ha).2,fun p hp=>(f3 a ha).2.2.2.2.2 p (by simpa [cCx] using hp)⟩) (qCy i2 hfr) ev (by simpa using hl)
     (fun s' σ' H' b' lV I' e' S' R' hD' r'=>by
      obtain ⟨m,hn,_⟩:=I'.loc;refine ⟨m,hn,fun h'' sb => ?_⟩;have fin:=qFY I3 f3 I' sb;have hz':b'.z=D::b2.z:=e'.same;refine ⟨.ref D,H',fin,rfl,?_⟩;have ex:Ext H2 b2 H' ⟨b'.b,b2.z⟩:=by
       refine ⟨⟨?_,⟨[],rfl,by simp⟩,fun a o ha ho => ?_,fun a o ha => ?_⟩,rfl,fun a o hz ha => ?_,fun a o u ha=>e'.fz a o u (qT ha hfr) (by rw [qS (qT ha hfr)];exact ha)⟩
       ·obtain ⟨n,hb,hh⟩:=e'.more;exact ⟨n,hb,fun a ha=>by
         have:=hh a ha
         by_cases q:a=D
         ·rw [q];exact hfr
         ·rwa [qS q] at this⟩
       ·have hne:a≠D:=qT ha hfr;exact e'.keep a o (by rw [qS hne];exact ha) ⟨ho.1,fun z=>(AD.mp z).elim hne ho.2⟩
       ·have hne:a≠D:=qT ha hfr;exact e'.dom a o (by rw [qS hne];exact ha)
       ·have hne:a≠D:=qT ha hfr;exact e'.hid a o (AE _ hz) hne (by rw [qS hne];exact ha)
      have hb':(⟨b'.b,D::b2.z⟩:Bz)=b':=by rw [← hz']
      refine P D lV H' ⟨b'.b,b2.z⟩ (e2.trans ex) (e2.none_of hfr) (by simpa using hD') hDz ?_ ?_
      ·show SR X.K H' ⟨b'.b,D::b2.z⟩ st';rw [hb'];exact S'
      ·show RVs X.K H' ⟨b'.b,D::b2.z⟩ l lV;rw [hb'];exact r')
    exact Zw rfl rfl loop (T.self X.A 0 _ _ _ (T.keep _ _ _ t2 fun a ha o e=>k4 a o (k3 a o e)) loop)
   ·rw [AJ hl] at P;exact P.elim
def QZ (n:Nat) (l:List PV):qv:=l.map some++List.replicate (n - l.length) none
def qHJ:RS->Rs PV
 | .nx _ st => .ok .non st
 | .rt v st => .ok v st
 | .ex x st => .ex x st
 |_ => .no
def Refn (n:Nat) (r r':Rs PV):Prop := ∀ (K:W.Frag) (E:XK) (H:Hp) (b:Bz) (Q:VK),b.b.length=n->PostE K E H b r' Q->PostE K E H b r Q
theorem Refn.refl {n:Nat} {r:Rs PV}:Refn n r r:=fun _ _ _ _ _ _ h=>h
theorem REnv.init {K:W.Frag} {H:Hp} {b:Bz} {N:List Str} {l:List PV} {vs:List V} (h:RVs K H b l vs):REnv K H b (QZ N.length l) (start N vs):=by
 have hl:=h.length;refine ⟨by simp [QZ,L2.start,hl],fun i p e => ?_⟩
 unfold QZ at e;unfold L2.start;by_cases hi:i < l.length
 ·rw [Ak (by simpa using hi),BG] at e
  rw [Ak (by simpa [← hl] using hi),BG]
  cases q:l[i]? with
  |none=>rw [q] at e;cases e
  |some p' =>rw [q] at e;cases e;obtain ⟨v,h1,h2⟩:=h.get q;exact ⟨v,by rw [h1];rfl,h2⟩
 ·rw [Aw (by simpa using hi),Bs] at e
  split at e <;> cases e
section
variable {P:Program} {w:World} {K:W.Frag} {mg:Str->Option Value} {base:Heap}
theorem okV {CX:CXT} {x qual:Str} {st:Stmt} {f:Addr} {fd:FuncData} {N ps:List Str} {k:Nat} {g:List PV->qB->Rs PV} (F:Fun K x qual st f fd) (S:FnScope N ps (qJ st))
  (body:∀ (cdv:Value) (A:Around) (outer:List Env) (s:Shared) (H:Hp) (E:XK),Room k (A.deeper (envOfC qual (qJ st) s.heap.objs.size f cdv))->(0 < k->A.handled=none) ->
   ∃ B:FS,VSs (Qq CX P w K mg base N qual (qJ st) f cdv A outer s H E) E (qY st) B ∧ ∀ l s0,l.length=ps.length->g l s0 ≠ .no->Refn s0.length (qHJ (B (QZ N.length l) s0)) (g l s0)):FnOk P w K mg base CX (k + 1) f fd ps (spG K ps.length g):=by
 obtain ⟨oc,od,kV,doc,pm,an,cdv,ct,osl,rfl,lk,hcd⟩:=F.ex;refine qHd lk hcd S (fun vs H Q E h=>h.1) fun A outer s H vs Q E hr hcm hsp => ?_;obtain ⟨B,hB,hg⟩:=body cdv A outer s H E hr hcm;obtain ⟨hl,b,l,st0,S0,r0,P0⟩:=hsp;refine ⟨_,hB,b,QZ N.length l,st0,S0,REnv.init r0,?_⟩;have hne:g l st0 ≠ .no:=fun z=>by rw [z] at P0;exact P0
 have P1:=hg l st0 (by rw [r0.length];exact hl) hne K E H b Q S0.len P0
 cases e:B (QZ N.length l) st0 with
 |nx r st=>rw [e] at P1;exact fun s H' b' e' S' R'=>P1 .non H' b' e' S' (by unfold RV;rfl)
 |rt v st=>rw [e] at P1;exact P1
 |bk r st=>rw [e] at P1;exact P1.elim
 |ct r st=>rw [e] at P1;exact P1.elim
 |ex x st=>rw [e] at P1;exact P1
 |no=>rw [e] at P1;exact P1.elim
end
mutual
def peq:PV->PV->Bool
 | .non,.non=>true
 | .bl a,.bl c=>a==c
 | .int a,.int c=>a==c
 | .bl a,.int c=>(if a then 1 else 0)==c
 | .int a,.bl c=>a==(if c then 1 else 0)
 | .str a,.str c=>a==c
 | .tup l,.tup m=>peqs l m
 | .lst l,.lst m=>peqs l m
 |_,_=>false
def peqs:List PV->List PV->Bool
 |[],[]=>true
 |p::ps,q::qs=>peq p q&&peqs ps qs
 |_,_=>false
end
mutual
def nr:PV->Bool
 | .tup l=>nrs l
 | .lst l=>nrs l
 | .ref _=>false
 | .dct=>false
 | .ty _=>false
 | .fn _=>false
 | .exc _ _=>false
 |_=>true
def nrs:List PV->Bool
 |[]=>true
 |p::ps=>nr p&&nrs ps
end
mutual
def dep:PV->Nat
 | .tup l=>deps l + 1
 | .lst l=>deps l + 1
 |_=>0
def deps:List PV->Nat
 |[]=>0
 |p::ps=>max (dep p) (deps ps)
end
mutual
def RW (K:W.Frag) (H:Hp):PV->V->Prop
 | .non,v=>v = .non
 | .bl x,v=>v = .bl x
 | .int i,v=>v = .int i
 | .str x,v=>v = .str x
 | .tup l,v => ∃ a xs,v = .ref a∧SqT K H a xs∧RWs K H l xs
 | .lst l,v => ∃ a xs,v = .ref a∧SqL K H a xs∧RWs K H l xs
 |_,_=>False
def RWs (K:W.Frag) (H:Hp):List PV->List V->Prop
 |[],xs=>xs=[]
 |p::ps,xs => ∃ x r,xs=x::r∧RW K H p x∧RWs K H ps r
end
mutual
theorem RV.rw {K:W.Frag} {H:Hp} {b:Bz}:∀ (p:PV) {v:V},nr p=true->RV K H b p v->RW K H p v
 | .non,_,_,h=>by unfold RV at h;unfold RW;exact h
 | .bl _,_,_,h=>by unfold RV at h;unfold RW;exact h
 | .int _,_,_,h=>by unfold RV at h;unfold RW;exact h
 | .str _,_,_,h=>by unfold RV at h;unfold RW;exact h
 | .tup l,_,n,h=>by unfold RV at h;unfold RW;unfold nr at n;obtain ⟨a,xs,h1,h2,h3⟩:=h;exact ⟨a,xs,h1,h2.sq,RVs.rws l n h3⟩
 | .lst l,_,n,h=>by unfold RV at h;unfold RW;unfold nr at n;obtain ⟨a,xs,h1,h2,h3⟩:=h;exact ⟨a,xs,h1,h2.sq,RVs.rws l n h3⟩
 | .ref _,_,n,_=>by unfold nr at n;cases n
 | .dct,_,n,_=>by unfold nr at n;cases n
 | .ty _,_,n,_=>by unfold nr at n;cases n
 | .fn _,_,n,_=>by unfold nr at n;cases n
 | .exc _ _,_,n,_=>by unfold nr at n;cases n
theorem RVs.rws {K:W.Frag} {H:Hp} {b:Bz}:∀ (l:List PV) {xs:List V},nrs l=true->RVs K H b l xs->RWs K H l xs
 |[],_,_,h=>by unfold RVs at h;unfold RWs;exact h
 |p::ps,_,n,h=>by unfold RVs at h;unfold RWs;unfold nrs at n;rw [Ab] at n;obtain ⟨x,r,h1,h2,h3⟩:=h;exact ⟨x,r,h1,RV.rw p n.1 h2,RVs.rws ps n.2 h3⟩
end
theorem RWs.length {K:W.Frag} {H:Hp}:∀ {l:List PV} {xs:List V},RWs K H l xs->l.length=xs.length
 |[],_,h=>by unfold RWs at h;rw [h];rfl
 |p::ps,_,h=>by unfold RWs at h;obtain ⟨x,r,rfl,_,h3⟩:=h;rw [AU,AU,RWs.length h3]
section
variable {X:Cx} {pins:List (Addr×Obj)} {σ:L2.St} {H:Hp} {s:Shared}
theorem Zy (I:L2.Inv X pins σ H s) {a:Addr} {xs ys:List V} (h1:SqL X.K H a xs) (h2:SqT X.K H a ys):False:=by obtain ⟨its,_,p,_⟩:=I.list h1;obtain ⟨its',_,q,_⟩:=I.tuple h2;obtain ⟨o,ho,hc,n,hd⟩:=p.isList;obtain ⟨o',ho',hc',_⟩:=q;rw [ho] at ho';cases ho';rw [hc] at hc';injection hc' with z;exact absurd z (by decide)
mutual
theorem RW.same (I:L2.Inv X pins σ H s):∀ (p q:PV) {v:V},RW X.K H p v->RW X.K H q v->peq p q=true
 | .non,q,v,h,g=>by unfold RW at h;subst h;cases q <;> unfold RW at g <;> first |rfl |exact (g:False).elim |(obtain ⟨_,_,e,_⟩:=g;cases e) |cases g
 | .bl x,q,v,h,g=>by unfold RW at h;subst h;cases q <;> unfold RW at g <;> first |(obtain ⟨_,_,e,_⟩:=g;cases e) |(cases g;simp [peq];done) |exact (g:False).elim |cases g
 | .int x,q,v,h,g=>by unfold RW at h;subst h;cases q <;> unfold RW at g <;> first |(obtain ⟨_,_,e,_⟩:=g;cases e) |(cases g;simp [peq];done) |exact (g:False).elim |cases g
 | .str x,q,v,h,g=>by unfold RW at h;subst h;cases q <;> unfold RW at g <;> first |(obtain ⟨_,_,e,_⟩:=g;cases e) |(cases g;simp [peq];done) |exact (g:False).elim |cases g
 | .tup l,q,v,h,g=>by
  unfold RW at h;obtain ⟨a,xs,rfl,h2,h3⟩:=h;cases q with
  |tup m =>
   unfold RW at g;obtain ⟨a',ys,e,g2,g3⟩:=g;cases e
   have:=I.tuple_inj h2 g2
   subst this;unfold peq;exact RWs.same I l m h3 g3
  |lst m =>unfold RW at g;obtain ⟨a',ys,e,g2,g3⟩:=g;cases e;exact (Zy I g2 h2).elim
  |ref _=>unfold RW at g;exact g.elim
  |dct=>unfold RW at g;exact g.elim
  |ty _=>unfold RW at g;exact g.elim
  |fn _=>unfold RW at g;exact g.elim
  |exc _ _=>unfold RW at g;exact g.elim
  |non=>unfold RW at g;cases g
  |bl _=>unfold RW at g;cases g
  |int _=>unfold RW at g;cases g
  |str _=>unfold RW at g;cases g
 | .lst l,q,v,h,g=>by
  unfold RW at h;obtain ⟨a,xs,rfl,h2,h3⟩:=h;cases q with
  |lst m =>
   unfold RW at g;obtain ⟨a',ys,e,g2,g3⟩:=g;cases e
   have:=I.list_inj h2 g2
   subst this;unfold peq;exact RWs.same I l m h3 g3
  |tup m =>unfold RW at g;obtain ⟨a',ys,e,g2,g3⟩:=g;cases e;exact (Zy I h2 g2).elim
  |ref _=>unfold RW at g;exact g.elim
  |dct=>unfold RW at g;exact g.elim
  |ty _=>unfold RW at g;exact g.elim
  |fn _=>unfold RW at g;exact g.elim
  |exc _ _=>unfold RW at g;exact g.elim
  |non=>unfold RW at g;cases g
  |bl _=>unfold RW at g;cases g
  |int _=>unfold RW at g;cases g
  |str _=>unfold RW at g;cases g
 | .ref _,_,_,h,_=>by unfold RW at h;exact h.elim
 | .dct,_,_,h,_=>by unfold RW at h;exact h.elim
 | .ty _,_,_,h,_=>by unfold RW at h;exact h.elim
 | .fn _,_,_,h,_=>by unfold RW at h;exact h.elim
 | .exc _ _,_,_,h,_=>by unfold RW at h;exact h.elim
theorem RWs.same (I:L2.Inv X pins σ H s):∀ (l m:List PV) {xs:List V},RWs X.K H l xs->RWs X.K H m xs->peqs l m=true
 |[],m,xs,h,g=>by
  unfold RWs at h;subst h;cases m with
  |nil=>rfl
  |cons _ _=>unfold RWs at g;obtain ⟨_,_,e,_⟩:=g;cases e
 |p::ps,m,xs,h,g=>by
  unfold RWs at h;obtain ⟨x,r,rfl,h2,h3⟩:=h;cases m with
  |nil=>unfold RWs at g;cases g
  |cons q qs =>unfold RWs at g;obtain ⟨y,t,e,g2,g3⟩:=g;cases e;unfold peqs;rw [RW.same I p q h2 g2,RWs.same I ps qs h3 g3];rfl
end
def eqN (l m:List PV) (j:Nat):Bool:=match l[j]?,m[j]? with
 |some p,some q=>peq p q
 |_,_=>false
theorem zP:∀ (l m:List PV),l.length=m.length->(List.range l.length).all (eqN l m)=peqs l m
 |[],[],_=>rfl
 |p::ps,q::qs,h=>by
  have ih:=zP ps qs (by simpa using h)
  rw [AU,List.range_succ_eq_map,List.all_cons,List.all_map];unfold peqs;have e0:eqN (p::ps) (q::qs) 0=peq p q:=rfl;have e1:(eqN (p::ps) (q::qs) ∘ Nat.succ)=eqN ps qs:=by funext j;rfl
  rw [e0,e1,ih]
 |[],_::_,h=>by simp at h
 |_::_,[],h=>by simp at h
theorem Ws:∀ (l m:List PV),l.length≠m.length->peqs l m=false
 |[],[],h=>absurd rfl h
 |[],_::_,_=>rfl
 |_::_,[],_=>rfl
 |p::ps,q::qs,h=>by unfold peqs;rw [Ws ps qs (by intro z;apply h;rw [AU,AU,z]),Bt]
theorem RWs.get' {K:W.Frag} {H:Hp}:∀ {l:List PV} {xs:List V} {i:Nat} {x:V},RWs K H l xs->xs[i]? = some x -> ∃ p,l[i]? = some p∧RW K H p x
 |[],_,_,_,h,e=>by unfold RWs at h;subst h;simp at e
 |p::ps,_,0,x,h,e=>by unfold RWs at h;obtain ⟨y,r,rfl,h2,h3⟩:=h;simp at e;subst e;exact ⟨p,rfl,h2⟩
 |p::ps,_,i + 1,x,h,e=>by
  unfold RWs at h;obtain ⟨y,r,rfl,h2,h3⟩:=h;obtain ⟨q,e1,e2⟩:=RWs.get' (i:=i) h3 (by simpa using e)
  exact ⟨q,by simpa using e1,e2⟩
theorem Vals.get2:∀ {xs:List V} {us:List Value} {i:Nat} {u:Value},Vals xs us->us[i]? = some u -> ∃ x,xs[i]? = some x∧RelV x u
 |_,_,_,_,.nil,e=>by simp at e
 |_,_,0,_,.cons r _,e=>by simp at e;subst e;exact ⟨_,rfl,r⟩
 |_,_,i + 1,u,.cons _ t,e=>by
  obtain ⟨x,h1,h2⟩:=Vals.get2 (i:=i) (u:=u) t (by simpa using e)
  exact ⟨x,by simpa using h1,h2⟩
theorem wJ (I:L2.Inv X pins σ H s) (p q:PV) {v u:V} {uv uu:Value} {A:Around} (hd:dep p=0) (hu':A.units < cLine) (hp:RW X.K H p v) (hq:RW X.K H q u) (rv:RelV v uv) (ru:RelV u uu):SeqAt.EqAt A s uv uu (peq p q):=by
 cases p with
 |tup l=>unfold dep at hd;omega
 |lst l=>unfold dep at hd;omega
 |ref _=>unfold RW at hp;exact hp.elim
 |dct=>unfold RW at hp;exact hp.elim
 |ty _=>unfold RW at hp;exact hp.elim
 |fn _=>unfold RW at hp;exact hp.elim
 |exc _ _=>unfold RW at hp;exact hp.elim
 |non =>
  unfold RW at hp;subst hp;cases rv;cases q with
  |non=>unfold RW at hq;subst hq;cases ru;exact SeqAt.EqAt.same _
  |bl _=>unfold RW at hq;subst hq;cases ru;exact SeqAt.EqAt.none_bool _
  |int _=>unfold RW at hq;subst hq;obtain ⟨t,rfl⟩:=ru;exact SeqAt.EqAt.none_int _ _
  |str _=>unfold RW at hq;subst hq;obtain ⟨t,rfl⟩:=ru;exact SeqAt.EqAt.none_str _ _
  |tup _=>unfold RW at hq;obtain ⟨a,xs,rfl,h2,_⟩:=hq;cases ru;obtain ⟨its,_,t,_⟩:=I.tuple h2;exact SeqAt.EqAt.none_tuple t hu'
  |lst _=>unfold RW at hq;obtain ⟨a,xs,rfl,h2,_⟩:=hq;cases ru;obtain ⟨its,_,t,_⟩:=I.list h2;exact SeqAt.EqAt.none_list t.isList hu'
  |ref _=>unfold RW at hq;exact hq.elim
  |dct=>unfold RW at hq;exact hq.elim
  |ty _=>unfold RW at hq;exact hq.elim
  |fn _=>unfold RW at hq;exact hq.elim
  |exc _ _=>unfold RW at hq;exact hq.elim
 |bl x =>
  unfold RW at hp;subst hp;cases rv;cases q with
  |non=>unfold RW at hq;subst hq;cases ru;exact SeqAt.EqAt.bool_none _
  |bl _=>unfold RW at hq;subst hq;cases ru;exact SeqAt.EqAt.bool_bool _ _
  |int _=>unfold RW at hq;subst hq;obtain ⟨t,rfl⟩:=ru;exact SeqAt.EqAt.bool_int _ _ _
  |str _=>unfold RW at hq;subst hq;obtain ⟨t,rfl⟩:=ru;exact SeqAt.EqAt.bool_str _ _ _
  |tup _=>unfold RW at hq;obtain ⟨a,xs,rfl,h2,_⟩:=hq;cases ru;obtain ⟨its,_,t,_⟩:=I.tuple h2;exact SeqAt.EqAt.bool_tuple _ t hu'
  |lst _=>unfold RW at hq;obtain ⟨a,xs,rfl,h2,_⟩:=hq;cases ru;obtain ⟨its,_,t,_⟩:=I.list h2;exact SeqAt.EqAt.bool_list _ t.isList hu'
  |ref _=>unfold RW at hq;exact hq.elim
  |dct=>unfold RW at hq;exact hq.elim
  |ty _=>unfold RW at hq;exact hq.elim
  |fn _=>unfold RW at hq;exact hq.elim
  |exc _ _=>unfold RW at hq;exact hq.elim
 |int x =>
  unfold RW at hp;subst hp;obtain ⟨t0,rfl⟩:=rv;cases q with
  |non=>unfold RW at hq;subst hq;cases ru;exact SeqAt.EqAt.int_none _ _
  |bl _=>unfold RW at hq;subst hq;cases ru;exact SeqAt.EqAt.int_bool _ _ _
  |int _=>unfold RW at hq;subst hq;obtain ⟨t,rfl⟩:=ru;exact SeqAt.EqAt.int_int _ _ _ _
  |str _=>unfold RW at hq;subst hq;obtain ⟨t,rfl⟩:=ru;exact SeqAt.EqAt.int_str _ _ _ _
  |tup _=>unfold RW at hq;obtain ⟨a,xs,rfl,h2,_⟩:=hq;cases ru;obtain ⟨its,_,t,_⟩:=I.tuple h2;exact SeqAt.EqAt.int_tuple _ _ t hu'
  |lst _=>unfold RW at hq;obtain ⟨a,xs,rfl,h2,_⟩:=hq;cases ru;obtain ⟨its,_,t,_⟩:=I.list h2;exact SeqAt.EqAt.int_list _ _ t.isList hu'
  |ref _=>unfold RW at hq;exact hq.elim
  |dct=>unfold RW at hq;exact hq.elim
  |ty _=>unfold RW at hq;exact hq.elim
  |fn _=>unfold RW at hq;exact hq.elim
  |exc _ _=>unfold RW at hq;exact hq.elim
 |str x =>
  unfold RW at hp;subst hp;obtain ⟨t0,rfl⟩:=rv;cases q with
  |non=>unfold RW at hq;subst hq;cases ru;exact SeqAt.EqAt.str_none _ _
  |bl _=>unfold RW at hq;subst hq;cases ru;exact SeqAt.EqAt.str_bool _ _ _
  |int _=>unfold RW at hq;subst hq;obtain ⟨t,rfl⟩:=ru;exact SeqAt.EqAt.str_int _ _ _ _
  |str _=>unfold RW at hq;subst hq;obtain ⟨t,rfl⟩:=ru;exact SeqAt.EqAt.str_str _ _ _ _
  |tup _=>unfold RW at hq;obtain ⟨a,xs,rfl,h2,_⟩:=hq;cases ru;obtain ⟨its,_,t,_⟩:=I.tuple h2;exact SeqAt.EqAt.str_tuple _ _ t hu'
  |lst _=>unfold RW at hq;obtain ⟨a,xs,rfl,h2,_⟩:=hq;cases ru;obtain ⟨its,_,t,_⟩:=I.list h2;exact SeqAt.EqAt.str_list _ _ t.isList hu'
  |ref _=>unfold RW at hq;exact hq.elim
  |dct=>unfold RW at hq;exact hq.elim
  |ty _=>unfold RW at hq;exact hq.elim
  |fn _=>unfold RW at hq;exact hq.elim
  |exc _ _=>unfold RW at hq;exact hq.elim
theorem zH:∀ {l:List PV} {i:Nat} {p:PV},l[i]? = some p->dep p≤deps l
 |[],_,_,h=>by simp at h
 |q::qs,0,p,h=>by simp at h;subst h;unfold deps;exact Nat.le_max_left _ _
 |q::qs,i + 1,p,h=>by unfold deps;exact Ac (zH (l:=qs) (i:=i) (by simpa using h)) (Nat.le_max_right _ _)
theorem J3 (I:L2.Inv X pins σ H s):∀ (n:Nat) (p q:PV) (v u:V) (uv uu:Value) (A:Around),dep p≤n->A.units + n < cLine->RW X.K H p v->RW X.K H q u->RelV v uv->RelV u uu->SeqAt.EqAt A s uv uu (peq p q):=by
 intro n;induction n with
 |zero=>intro p q v u uv uu A hd hu hp hq rv ru;exact wJ I p q (Nat.le_zero.mp hd) hu hp hq rv ru
 |succ n ih =>
  intro p q v u uv uu A hd hu hp hq rv ru;have hu':A.units < cLine:=CD (Bu _ _) hu;have hin:A.in1.units + n < cLine:=by show A.units + 1 + n < cLine;omega
  have elt:∀ {l m:List PV} {xs ys:List V} {its its2:List Value},deps l≤n->RWs X.K H l xs->RWs X.K H m ys->Vals xs its->Vals ys its2 -> ∀ j (h1:j < its.toArray.size) (h2:j < its2.toArray.size),SeqAt.EqAt A.in1 s its.toArray[j] its2.toArray[j] (eqN l m j):=fun {l m xs ys its its2} hdl hl hm vl vm j h1 h2=>by
   have e1:its[j]? = some its.toArray[j]:=by simp
   have e2:its2[j]? = some its2.toArray[j]:=by simp
   obtain ⟨x,hx,rx⟩:=Vals.get2 vl e1;obtain ⟨y,hy,ry⟩:=Vals.get2 vm e2;obtain ⟨p',hp',rp'⟩:=RWs.get' hl hx;obtain ⟨q',hq',rq'⟩:=RWs.get' hm hy
   have:eqN l m j=peq p' q':=by unfold eqN;rw [hp',hq']
   rw [this];exact ih p' q' x y _ _ A.in1 (Ac (zH hp') hdl) hin rp' rq' rx ry
  cases p with
  |tup l =>
   have hp0:=hp;unfold RW at hp;unfold dep at hd;obtain ⟨a,xs,rfl,h2,h3⟩:=hp;cases rv;obtain ⟨its,vl,tl,_⟩:=I.tuple h2;cases q with
   |non=>unfold RW at hq;subst hq;cases ru;exact SeqAt.EqAt.tuple_none tl hu'
   |bl _=>unfold RW at hq;subst hq;cases ru;exact SeqAt.EqAt.tuple_bool _ tl hu'
   |int _=>unfold RW at hq;subst hq;obtain ⟨t,rfl⟩:=ru;exact SeqAt.EqAt.tuple_int _ _ tl hu'
   |str _=>unfold RW at hq;subst hq;obtain ⟨t,rfl⟩:=ru;exact SeqAt.EqAt.tuple_str _ _ tl hu'
   |lst _=>unfold RW at hq;obtain ⟨a,xs,rfl,h2,_⟩:=hq;cases ru;obtain ⟨its,_,t,_⟩:=I.list h2;exact SeqAt.EqAt.tuple_list tl t.isList hu'
   |ref _=>unfold RW at hq;exact hq.elim
   |dct=>unfold RW at hq;exact hq.elim
   |ty _=>unfold RW at hq;exact hq.elim
   |fn _=>unfold RW at hq;exact hq.elim
   |exc _ _=>unfold RW at hq;exact hq.elim
   |tup m =>
    have hq0:=hq;unfold RW at hq;obtain ⟨a2,ys,rfl,g2,g3⟩:=hq;cases ru;obtain ⟨its2,vm,tm,_⟩:=I.tuple g2;by_cases ha:a=a2
    ·subst ha;rw [RW.same I _ _ hp0 hq0];exact SeqAt.EqAt.same _
    ·refine SeqAt.EqAt.of_refs ha ?_;have rc:=SeqAt.RcAt.tuples (e:=eqN l m) tl tm hu' (elt (by omega) h3 g3 vl vm)
     have hl1:its.toArray.size=l.length:=by rw [AO,← vl.length,h3.length]
     have hl2:its2.toArray.size=m.length:=by rw [AO,← vm.length,g3.length]
     rw [hl1,hl2] at rc;have e:((List.range (min l.length m.length)).all (eqN l m)&&l.length==m.length)=peq (.tup l) (.tup m):=by
      unfold peq;by_cases hlm:l.length=m.length
      ·rw [← hlm,Nat.min_self,zP l m hlm,Aj,Ck]
      ·rw [Ws l m hlm,B2 hlm,Bt]
     rw [e] at rc;exact rc
  |lst l =>
   have hp0:=hp;unfold RW at hp;unfold dep at hd;obtain ⟨a,xs,rfl,h2,h3⟩:=hp;cases rv;obtain ⟨its,vl,tl',_⟩:=I.list h2;have tl:=tl'.isList;cases q with
   |non=>unfold RW at hq;subst hq;cases ru;exact SeqAt.EqAt.list_none tl hu'
   |bl _=>unfold RW at hq;subst hq;cases ru;exact SeqAt.EqAt.list_bool _ tl hu'
   |int _=>unfold RW at hq;subst hq;obtain ⟨t,rfl⟩:=ru;exact SeqAt.EqAt.list_int _ _ tl hu'
   |str _=>unfold RW at hq;subst hq;obtain ⟨t,rfl⟩:=ru;exact SeqAt.EqAt.list_str _ _ tl hu'
   |tup _=>unfold RW at hq;obtain ⟨a,xs,rfl,h2,_⟩:=hq;cases ru;obtain ⟨its,_,t,_⟩:=I.tuple h2;exact SeqAt.EqAt.list_tuple tl t hu'
   |ref _=>unfold RW at hq;exact hq.elim
   |dct=>unfold RW at hq;exact hq.elim
   |ty _=>unfold RW at hq;exact hq.elim
   |fn _=>unfold RW at hq;exact hq.elim
   |exc _ _=>unfold RW at hq;exact hq.elim
   |lst m =>
    have hq0:=hq;unfold RW at hq;obtain ⟨a2,ys,rfl,g2,g3⟩:=hq;cases ru;obtain ⟨its2,vm,tm',_⟩:=I.list g2;have tm:=tm'.isList;by_cases ha:a=a2
    ·subst ha;rw [RW.same I _ _ hp0 hq0];exact SeqAt.EqAt.same _
    ·refine SeqAt.EqAt.of_refs ha ?_;have hl1:its.toArray.size=l.length:=by rw [AO,← vl.length,h3.length]
     have hl2:its2.toArray.size=m.length:=by rw [AO,← vm.length,g3.length]
     unfold peq;by_cases hlm:l.length=m.length
     ·have rc:=SeqAt.RcAt.lists (e:=eqN l m) tl tm (by rw [hl1,hl2,hlm]) hu' (elt (by omega) h3 g3 vl vm)
      rw [hl1,zP l m hlm] at rc;exact rc
     ·rw [Ws l m hlm];exact SeqAt.RcAt.lists_lengths tl tm (by rw [hl1,hl2];exact bne_iff_ne.mpr hlm) hu'
  |non=>exact wJ I _ q rfl hu' hp hq rv ru
  |bl _=>exact wJ I _ q rfl hu' hp hq rv ru
  |int _=>exact wJ I _ q rfl hu' hp hq rv ru
  |str _=>exact wJ I _ q rfl hu' hp hq rv ru
  |ref _=>exact wJ I _ q rfl hu' hp hq rv ru
  |dct=>exact wJ I _ q rfl hu' hp hq rv ru
  |ty _=>exact wJ I _ q rfl hu' hp hq rv ru
  |fn _=>exact wJ I _ q rfl hu' hp hq rv ru
  |exc _ _=>exact wJ I _ q rfl hu' hp hq rv ru
end
section
variable {X:Cx} {pins:List (Addr×Obj)} {σ:L2.St} {H:Hp} {s:Shared}
mutual
theorem RW.det (I:L2.Inv X pins σ H s):∀ (p q:PV) {v:V},RW X.K H p v->RW X.K H q v->p=q
 | .non,q,v,h,g=>by unfold RW at h;subst h;cases q <;> unfold RW at g <;> first |rfl |exact (g:False).elim |(obtain ⟨_,_,e,_⟩:=g;cases e) |cases g
 | .bl x,q,v,h,g=>by unfold RW at h;subst h;cases q <;> unfold RW at g <;> first |(obtain ⟨_,_,e,_⟩:=g;cases e) |(cases g;rfl) |exact (g:False).elim |cases g
 | .int x,q,v,h,g=>by unfold RW at h;subst h;cases q <;> unfold RW at g <;> first |(obtain ⟨_,_,e,_⟩:=g;cases e) |(cases g;rfl) |exact (g:False).elim |cases g
 | .str x,q,v,h,g=>by unfold RW at h;subst h;cases q <;> unfold RW at g <;> first |(obtain ⟨_,_,e,_⟩:=g;cases e) |(cases g;rfl) |exact (g:False).elim |cases g
 | .tup l,q,v,h,g=>by
  unfold RW at h;obtain ⟨a,xs,rfl,h2,h3⟩:=h;cases q with
  |tup m =>
   unfold RW at g;obtain ⟨a',ys,e,g2,g3⟩:=g;cases e
   have:=I.tuple_inj h2 g2
   subst this;rw [RWs.det I l m h3 g3]
  |lst m =>unfold RW at g;obtain ⟨a',ys,e,g2,g3⟩:=g;cases e;exact (Zy I g2 h2).elim
  |ref _=>unfold RW at g;exact g.elim
  |dct=>unfold RW at g;exact g.elim
  |ty _=>unfold RW at g;exact g.elim
  |fn _=>unfold RW at g;exact g.elim
  |exc _ _=>unfold RW at g;exact g.elim
  |non=>unfold RW at g;cases g
  |bl _=>unfold RW at g;cases g
  |int _=>unfold RW at g;cases g
  |str _=>unfold RW at g;cases g
 | .lst l,q,v,h,g=>by
  unfold RW at h;obtain ⟨a,xs,rfl,h2,h3⟩:=h;cases q with
  |lst m =>
   unfold RW at g;obtain ⟨a',ys,e,g2,g3⟩:=g;cases e
   have:=I.list_inj h2 g2
   subst this;rw [RWs.det I l m h3 g3]
  |tup m =>unfold RW at g;obtain ⟨a',ys,e,g2,g3⟩:=g;cases e;exact (Zy I h2 g2).elim
  |ref _=>unfold RW at g;exact g.elim
  |dct=>unfold RW at g;exact g.elim
  |ty _=>unfold RW at g;exact g.elim
  |fn _=>unfold RW at g;exact g.elim
  |exc _ _=>unfold RW at g;exact g.elim
  |non=>unfold RW at g;cases g
  |bl _=>unfold RW at g;cases g
  |int _=>unfold RW at g;cases g
  |str _=>unfold RW at g;cases g
 | .ref _,_,_,h,_=>by unfold RW at h;exact h.elim
 | .dct,_,_,h,_=>by unfold RW at h;exact h.elim
 | .ty _,_,_,h,_=>by unfold RW at h;exact h.elim
 | .fn _,_,_,h,_=>by unfold RW at h;exact h.elim
 | .exc _ _,_,_,h,_=>by unfold RW at h;exact h.elim
theorem RWs.det (I:L2.Inv X pins σ H s):∀ (l m:List PV) {xs:List V},RWs X.K H l xs->RWs X.K H m xs->l=m
 |[],m,xs,h,g=>by
  unfold RWs at h;subst h;cases m with
  |nil=>rfl
  |cons _ _=>unfold RWs at g;obtain ⟨_,_,e,_⟩:=g;cases e
 |p::ps,m,xs,h,g=>by
  unfold RWs at h;obtain ⟨x,r,rfl,h2,h3⟩:=h;cases m with
  |nil=>unfold RWs at g;cases g
  |cons q qs =>unfold RWs at g;obtain ⟨y,t,e,g2,g3⟩:=g;cases e;rw [RW.det I p q h2 g2,RWs.det I ps qs h3 g3]
end
theorem wV (I:L2.Inv X pins σ H s) (p q:PV) {v u:V} {uv uu:Value} {A:Around} (hd:dep p=0) (hu':A.units < cLine) (hp:RW X.K H p v) (hq:RW X.K H q u) (rv:RelV v uv) (ru:RelV u uu):SeqAt.RcAt A s uv uu (peq p q):=by
 cases p with
 |tup l=>unfold dep at hd;omega
 |lst l=>unfold dep at hd;omega
 |ref _=>unfold RW at hp;exact hp.elim
 |dct=>unfold RW at hp;exact hp.elim
 |ty _=>unfold RW at hp;exact hp.elim
 |fn _=>unfold RW at hp;exact hp.elim
 |exc _ _=>unfold RW at hp;exact hp.elim
 |non =>
  unfold RW at hp;subst hp;cases rv;cases q with
  |non=>unfold RW at hq;subst hq;cases ru;exact SeqAt.RcAt.none_none
  |bl _=>unfold RW at hq;subst hq;cases ru;exact SeqAt.RcAt.none_bool _
  |int _=>unfold RW at hq;subst hq;obtain ⟨t,rfl⟩:=ru;exact SeqAt.RcAt.none_int _ _
  |str _=>unfold RW at hq;subst hq;obtain ⟨t,rfl⟩:=ru;exact SeqAt.RcAt.none_str _ _
  |tup _=>unfold RW at hq;obtain ⟨a,xs,rfl,h2,_⟩:=hq;cases ru;obtain ⟨its,_,t,_⟩:=I.tuple h2;exact SeqAt.RcAt.none_tuple t hu'
  |lst _=>unfold RW at hq;obtain ⟨a,xs,rfl,h2,_⟩:=hq;cases ru;obtain ⟨its,_,t,_⟩:=I.list h2;exact SeqAt.RcAt.none_list t.isList hu'
  |ref _=>unfold RW at hq;exact hq.elim
  |dct=>unfold RW at hq;exact hq.elim
  |ty _=>unfold RW at hq;exact hq.elim
  |fn _=>unfold RW at hq;exact hq.elim
  |exc _ _=>unfold RW at hq;exact hq.elim
 |bl x =>
  unfold RW at hp;subst hp;cases rv;cases q with
  |non=>unfold RW at hq;subst hq;cases ru;exact SeqAt.RcAt.bool_none _
  |bl _=>unfold RW at hq;subst hq;cases ru;exact SeqAt.RcAt.bool_bool _ _
  |int _=>unfold RW at hq;subst hq;obtain ⟨t,rfl⟩:=ru;exact SeqAt.RcAt.bool_int _ _ _
  |str _=>unfold RW at hq;subst hq;obtain ⟨t,rfl⟩:=ru;exact SeqAt.RcAt.bool_str _ _ _
  |tup _=>unfold RW at hq;obtain ⟨a,xs,rfl,h2,_⟩:=hq;cases ru;obtain ⟨its,_,t,_⟩:=I.tuple h2;exact SeqAt.RcAt.bool_tuple _ t hu'
  |lst _=>unfold RW at hq;obtain ⟨a,xs,rfl,h2,_⟩:=hq;cases ru;obtain ⟨its,_,t,_⟩:=I.list h2;exact SeqAt.RcAt.bool_list _ t.isList hu'
  |ref _=>unfold RW at hq;exact hq.elim
  |dct=>unfold RW at hq;exact hq.elim
  |ty _=>unfold RW at hq;exact hq.elim
  |fn _=>unfold RW at hq;exact hq.elim
  |exc _ _=>unfold RW at hq;exact hq.elim
 |int x =>
  unfold RW at hp;subst hp;obtain ⟨t0,rfl⟩:=rv;cases q with
  |non=>unfold RW at hq;subst hq;cases ru;exact SeqAt.RcAt.int_none _ _
  |bl _=>unfold RW at hq;subst hq;cases ru;exact SeqAt.RcAt.int_bool _ _ _
  |int _=>unfold RW at hq;subst hq;obtain ⟨t,rfl⟩:=ru;exact SeqAt.RcAt.int_int _ _ _ _
  |str _=>unfold RW at hq;subst hq;obtain ⟨t,rfl⟩:=ru;exact SeqAt.RcAt.int_str _ _ _ _
  |tup _=>unfold RW at hq;obtain ⟨a,xs,rfl,h2,_⟩:=hq;cases ru;obtain ⟨its,_,t,_⟩:=I.tuple h2;exact SeqAt.RcAt.int_tuple _ _ t hu'
  |lst _=>unfold RW at hq;obtain ⟨a,xs,rfl,h2,_⟩:=hq;cases ru;obtain ⟨its,_,t,_⟩:=I.list h2;exact SeqAt.RcAt.int_list _ _ t.isList hu'
  |ref _=>unfold RW at hq;exact hq.elim
  |dct=>unfold RW at hq;exact hq.elim
  |ty _=>unfold RW at hq;exact hq.elim
  |fn _=>unfold RW at hq;exact hq.elim
  |exc _ _=>unfold RW at hq;exact hq.elim
 |str x =>
  unfold RW at hp;subst hp;obtain ⟨t0,rfl⟩:=rv;cases q with
  |non=>unfold RW at hq;subst hq;cases ru;exact SeqAt.RcAt.str_none _ _
  |bl _=>unfold RW at hq;subst hq;cases ru;exact SeqAt.RcAt.str_bool _ _ _
  |int _=>unfold RW at hq;subst hq;obtain ⟨t,rfl⟩:=ru;exact SeqAt.RcAt.str_int _ _ _ _
  |str _=>unfold RW at hq;subst hq;obtain ⟨t,rfl⟩:=ru;exact SeqAt.RcAt.str_str _ _ _ _
  |tup _=>unfold RW at hq;obtain ⟨a,xs,rfl,h2,_⟩:=hq;cases ru;obtain ⟨its,_,t,_⟩:=I.tuple h2;exact SeqAt.RcAt.str_tuple _ _ t hu'
  |lst _=>unfold RW at hq;obtain ⟨a,xs,rfl,h2,_⟩:=hq;cases ru;obtain ⟨its,_,t,_⟩:=I.list h2;exact SeqAt.RcAt.str_list _ _ t.isList hu'
  |ref _=>unfold RW at hq;exact hq.elim
  |dct=>unfold RW at hq;exact hq.elim
  |ty _=>unfold RW at hq;exact hq.elim
  |fn _=>unfold RW at hq;exact hq.elim
  |exc _ _=>unfold RW at hq;exact hq.elim
theorem wa (I:L2.Inv X pins σ H s) (p q:PV) {v u:V} {uv uu:Value} {A:Around} (hd:dep p=0) (hu':A.units < cLine) (hp:RW X.K H p v) (hq:RW X.K H q u) (rv:RelV v uv) (ru:RelV u uu):SeqAt.RcNeAt A s uv uu (!peq p q):=by
 cases p with
 |tup l=>unfold dep at hd;omega
 |lst l=>unfold dep at hd;omega
 |ref _=>unfold RW at hp;exact hp.elim
 |dct=>unfold RW at hp;exact hp.elim
 |ty _=>unfold RW at hp;exact hp.elim
 |fn _=>unfold RW at hp;exact hp.elim
 |exc _ _=>unfold RW at hp;exact hp.elim
 |non =>
  unfold RW at hp;subst hp;cases rv;cases q with
  |non=>unfold RW at hq;subst hq;cases ru;exact SeqAt.RcNeAt.none_none
  |bl _=>unfold RW at hq;subst hq;cases ru;exact SeqAt.RcNeAt.none_bool _
  |int _=>unfold RW at hq;subst hq;obtain ⟨t,rfl⟩:=ru;exact SeqAt.RcNeAt.none_int _ _
  |str _=>unfold RW at hq;subst hq;obtain ⟨t,rfl⟩:=ru;exact SeqAt.RcNeAt.none_str _ _
  |tup _=>unfold RW at hq;obtain ⟨a,xs,rfl,h2,_⟩:=hq;cases ru;obtain ⟨its,_,t,_⟩:=I.tuple h2;exact SeqAt.RcNeAt.none_tuple t hu'
  |lst _=>unfold RW at hq;obtain ⟨a,xs,rfl,h2,_⟩:=hq;cases ru;obtain ⟨its,_,t,_⟩:=I.list h2;exact SeqAt.RcNeAt.none_list t.isList hu'
  |ref _=>unfold RW at hq;exact hq.elim
  |dct=>unfold RW at hq;exact hq.elim
  |ty _=>unfold RW at hq;exact hq.elim
  |fn _=>unfold RW at hq;exact hq.elim
  |exc _ _=>unfold RW at hq;exact hq.elim
 |bl x =>
  unfold RW at hp;subst hp;cases rv;cases q with
  |non=>unfold RW at hq;subst hq;cases ru;exact SeqAt.RcNeAt.bool_none _
  |bl _=>unfold RW at hq;subst hq;cases ru;exact SeqAt.RcNeAt.bool_bool _ _
  |int _=>unfold RW at hq;subst hq;obtain ⟨t,rfl⟩:=ru;exact SeqAt.RcNeAt.bool_int _ _ _
  |str _=>unfold RW at hq;subst hq;obtain ⟨t,rfl⟩:=ru;exact SeqAt.RcNeAt.bool_str _ _ _
  |tup _=>unfold RW at hq;obtain ⟨a,xs,rfl,h2,_⟩:=hq;cases ru;obtain ⟨its,_,t,_⟩:=I.tuple h2;exact SeqAt.RcNeAt.bool_tuple _ t hu'
  |lst _=>unfold RW at hq;obtain ⟨a,xs,rfl,h2,_⟩:=hq;cases ru;obtain ⟨its,_,t,_⟩:=I.list h2;exact SeqAt.RcNeAt.bool_list _ t.isList hu'
  |ref _=>unfold RW at hq;exact hq.elim
  |dct=>unfold RW at hq;exact hq.elim
  |ty _=>unfold RW at hq;exact hq.elim
  |fn _=>unfold RW at hq;exact hq.elim
  |exc _ _=>unfold RW at hq;exact hq.elim
 |int x =>
  unfold RW at hp;subst hp;obtain ⟨t0,rfl⟩:=rv;cases q with
  |non=>unfold RW at hq;subst hq;cases ru;exact SeqAt.RcNeAt.int_none _ _
  |bl _=>unfold RW at hq;subst hq;cases ru;exact SeqAt.RcNeAt.int_bool _ _ _
  |int _=>unfold RW at hq;subst hq;obtain ⟨t,rfl⟩:=ru;exact SeqAt.RcNeAt.int_int _ _ _ _
  |str _=>unfold RW at hq;subst hq;obtain ⟨t,rfl⟩:=ru;exact SeqAt.RcNeAt.int_str _ _ _ _
  |tup _=>unfold RW at hq;obtain ⟨a,xs,rfl,h2,_⟩:=hq;cases ru;obtain ⟨its,_,t,_⟩:=I.tuple h2;exact SeqAt.RcNeAt.int_tuple _ _ t hu'
  |lst _=>unfold RW at hq;obtain ⟨a,xs,rfl,h2,_⟩:=hq;cases ru;obtain ⟨its,_,t,_⟩:=I.list h2;exact SeqAt.RcNeAt.int_list _ _ t.isList hu'
  |ref _=>unfold RW at hq;exact hq.elim
  |dct=>unfold RW at hq;exact hq.elim
  |ty _=>unfold RW at hq;exact hq.elim
  |fn _=>unfold RW at hq;exact hq.elim
  |exc _ _=>unfold RW at hq;exact hq.elim
 |str x =>
  unfold RW at hp;subst hp;obtain ⟨t0,rfl⟩:=rv;cases q with
  |non=>unfold RW at hq;subst hq;cases ru;exact SeqAt.RcNeAt.str_none _ _
  |bl _=>unfold RW at hq;subst hq;cases ru;exact SeqAt.RcNeAt.str_bool _ _ _
  |int _=>unfold RW at hq;subst hq;obtain ⟨t,rfl⟩:=ru;exact SeqAt.RcNeAt.str_int _ _ _ _
  |str _=>unfold RW at hq;subst hq;obtain ⟨t,rfl⟩:=ru;exact SeqAt.RcNeAt.str_str _ _ _ _
  |tup _=>unfold RW at hq;obtain ⟨a,xs,rfl,h2,_⟩:=hq;cases ru;obtain ⟨its,_,t,_⟩:=I.tuple h2;exact SeqAt.RcNeAt.str_tuple _ _ t hu'
  |lst _=>unfold RW at hq;obtain ⟨a,xs,rfl,h2,_⟩:=hq;cases ru;obtain ⟨its,_,t,_⟩:=I.list h2;exact SeqAt.RcNeAt.str_list _ _ t.isList hu'
  |ref _=>unfold RW at hq;exact hq.elim
  |dct=>unfold RW at hq;exact hq.elim
  |ty _=>unfold RW at hq;exact hq.elim
  |fn _=>unfold RW at hq;exact hq.elim
  |exc _ _=>unfold RW at hq;exact hq.elim
theorem qJn (I:L2.Inv X pins σ H s) (p q:PV) {v u:V} {uv uu:Value} {A:Around} (hu:A.units + (dep p + 1) < cLine) (hp:RW X.K H p v) (hq:RW X.K H q u) (rv:RelV v uv) (ru:RelV u uu):SeqAt.RcAt A s uv uu (peq p q):=by
 have hu':A.units < cLine:=CD (Bu _ _) hu;have elt:∀ {n:Nat} {l m:List PV} {xs ys:List V} {its its2:List Value},A.in1.units + n < cLine->deps l≤n->RWs X.K H l xs->RWs X.K H m ys->Vals xs its->Vals ys its2 -> ∀ j (h1:j < its.toArray.size) (h2:j < its2.toArray.size),SeqAt.EqAt A.in1 s its.toArray[j] its2.toArray[j] (eqN l m j):=fun {n l m xs ys its its2} hin hdl hl hm vl vm j h1 h2=>by
  have e1:its[j]? = some its.toArray[j]:=by simp
  have e2:its2[j]? = some its2.toArray[j]:=by simp
  obtain ⟨x,hx,rx⟩:=Vals.get2 vl e1;obtain ⟨y,hy,ry⟩:=Vals.get2 vm e2;obtain ⟨p',hp',rp'⟩:=RWs.get' hl hx;obtain ⟨q',hq',rq'⟩:=RWs.get' hm hy
  have:eqN l m j=peq p' q':=by unfold eqN;rw [hp',hq']
  rw [this];exact J3 I n p' q' x y _ _ A.in1 (Ac (zH hp') hdl) hin rp' rq' rx ry
 cases p with
 |tup l =>
  have hp0:=hp;unfold RW at hp;obtain ⟨a,xs,rfl,h2,h3⟩:=hp;cases rv;obtain ⟨its,vl,tl,_⟩:=I.tuple h2;unfold dep at hu;cases q with
  |non=>unfold RW at hq;subst hq;cases ru;exact SeqAt.RcAt.tuple_none tl hu'
  |bl _=>unfold RW at hq;subst hq;cases ru;exact SeqAt.RcAt.tuple_bool _ tl hu'
  |int _=>unfold RW at hq;subst hq;obtain ⟨t,rfl⟩:=ru;exact SeqAt.RcAt.tuple_int _ _ tl hu'
  |str _=>unfold RW at hq;subst hq;obtain ⟨t,rfl⟩:=ru;exact SeqAt.RcAt.tuple_str _ _ tl hu'
  |lst _=>unfold RW at hq;obtain ⟨a,xs,rfl,h2,_⟩:=hq;cases ru;obtain ⟨its,_,t,_⟩:=I.list h2;exact SeqAt.RcAt.tuple_list tl t.isList hu'
  |ref _=>unfold RW at hq;exact hq.elim
  |dct=>unfold RW at hq;exact hq.elim
  |ty _=>unfold RW at hq;exact hq.elim
  |fn _=>unfold RW at hq;exact hq.elim
  |exc _ _=>unfold RW at hq;exact hq.elim
  |tup m =>
   unfold RW at hq;obtain ⟨a2,ys,rfl,g2,g3⟩:=hq;cases ru;obtain ⟨its2,vm,tm,_⟩:=I.tuple g2;have rc:=SeqAt.RcAt.tuples (e:=eqN l m) tl tm hu' (elt (n:=deps l) (by show A.units + 1 + deps l < cLine;omega) (AM _) h3 g3 vl vm)
   have hl1:its.toArray.size=l.length:=by rw [AO,← vl.length,h3.length]
   have hl2:its2.toArray.size=m.length:=by rw [AO,← vm.length,g3.length]
   rw [hl1,hl2] at rc;have e:((List.range (min l.length m.length)).all (eqN l m)&&l.length==m.length)=peq (.tup l) (.tup m):=by
    unfold peq;by_cases hlm:l.length=m.length
    ·rw [← hlm,Nat.min_self,zP l m hlm,Aj,Ck]
    ·rw [Ws l m hlm,B2 hlm,Bt]
   rw [e] at rc;exact rc
 |lst l =>
  have hp0:=hp;unfold RW at hp;obtain ⟨a,xs,rfl,h2,h3⟩:=hp;cases rv;obtain ⟨its,vl,tl',_⟩:=I.list h2;have tl:=tl'.isList;unfold dep at hu;cases q with
  |non=>unfold RW at hq;subst hq;cases ru;exact SeqAt.RcAt.list_none tl hu'
  |bl _=>unfold RW at hq;subst hq;cases ru;exact SeqAt.RcAt.list_bool _ tl hu'
  |int _=>unfold RW at hq;subst hq;obtain ⟨t,rfl⟩:=ru;exact SeqAt.RcAt.list_int _ _ tl hu'
  |str _=>unfold RW at hq;subst hq;obtain ⟨t,rfl⟩:=ru;exact SeqAt.RcAt.list_str _ _ tl hu'
  |tup _=>unfold RW at hq;obtain ⟨a,xs,rfl,h2,_⟩:=hq;cases ru;obtain ⟨its,_,t,_⟩:=I.tuple h2;exact SeqAt.RcAt.list_tuple tl t hu'
  |ref _=>unfold RW at hq;exact hq.elim
  |dct=>unfold RW at hq;exact hq.elim
  |ty _=>unfold RW at hq;exact hq.elim
  |fn _=>unfold RW at hq;exact hq.elim
  |exc _ _=>unfold RW at hq;exact hq.elim
  |lst m =>
   unfold RW at hq;obtain ⟨a2,ys,rfl,g2,g3⟩:=hq;cases ru;obtain ⟨its2,vm,tm',_⟩:=I.list g2;have tm:=tm'.isList;have hl1:its.toArray.size=l.length:=by rw [AO,← vl.length,h3.length]
   have hl2:its2.toArray.size=m.length:=by rw [AO,← vm.length,g3.length]
   unfold peq;by_cases hlm:l.length=m.length
   ·have rc:=SeqAt.RcAt.lists (e:=eqN l m) tl tm (by rw [hl1,hl2,hlm]) hu' (elt (n:=deps l) (by show A.units + 1 + deps l < cLine;omega) (AM _) h3 g3 vl vm)
    rw [hl1,zP l m hlm] at rc;exact rc
   ·rw [Ws l m hlm];exact SeqAt.RcAt.lists_lengths tl tm (by rw [hl1,hl2];exact bne_iff_ne.mpr hlm) hu'
 |non=>exact wV I _ q rfl hu' hp hq rv ru
 |bl _=>exact wV I _ q rfl hu' hp hq rv ru
 |int _=>exact wV I _ q rfl hu' hp hq rv ru
 |str _=>exact wV I _ q rfl hu' hp hq rv ru
 |ref _=>exact wV I _ q rfl hu' hp hq rv ru
 |dct=>exact wV I _ q rfl hu' hp hq rv ru
 |ty _=>exact wV I _ q rfl hu' hp hq rv ru
 |fn _=>exact wV I _ q rfl hu' hp hq rv ru
 |exc _ _=>exact wV I _ q rfl hu' hp hq rv ru
theorem qKZ (I:L2.Inv X pins σ H s) (p q:PV) {v u:V} {uv uu:Value} {A:Around} (hu:A.units + (dep p + 1) < cLine) (hp:RW X.K H p v) (hq:RW X.K H q u) (rv:RelV v uv) (ru:RelV u uu):SeqAt.RcNeAt A s uv uu (!peq p q):=by
 have hu':A.units < cLine:=CD (Bu _ _) hu;have elt:∀ {n:Nat} {l m:List PV} {xs ys:List V} {its its2:List Value},A.in1.units + n < cLine->deps l≤n->RWs X.K H l xs->RWs X.K H m ys->Vals xs its->Vals ys its2 -> ∀ j (h1:j < its.toArray.size) (h2:j < its2.toArray.size),SeqAt.EqAt A.in1 s its.toArray[j] its2.toArray[j] (eqN l m j):=fun {n l m xs ys its its2} hin hdl hl hm vl vm j h1 h2=>by
  have e1:its[j]? = some its.toArray[j]:=by simp
  have e2:its2[j]? = some its2.toArray[j]:=by simp
  obtain ⟨x,hx,rx⟩:=Vals.get2 vl e1;obtain ⟨y,hy,ry⟩:=Vals.get2 vm e2;obtain ⟨p',hp',rp'⟩:=RWs.get' hl hx;obtain ⟨q',hq',rq'⟩:=RWs.get' hm hy
  have:eqN l m j=peq p' q':=by unfold eqN;rw [hp',hq']
  rw [this];exact J3 I n p' q' x y _ _ A.in1 (Ac (zH hp') hdl) hin rp' rq' rx ry
 cases p with
 |tup l =>
  have hp0:=hp;unfold RW at hp;obtain ⟨a,xs,rfl,h2,h3⟩:=hp;cases rv;obtain ⟨its,vl,tl,_⟩:=I.tuple h2;unfold dep at hu;cases q with
  |non=>unfold RW at hq;subst hq;cases ru;exact SeqAt.RcNeAt.tuple_none tl hu'
  |bl _=>unfold RW at hq;subst hq;cases ru;exact SeqAt.RcNeAt.tuple_bool _ tl hu'
  |int _=>unfold RW at hq;subst hq;obtain ⟨t,rfl⟩:=ru;exact SeqAt.RcNeAt.tuple_int _ _ tl hu'
  |str _=>unfold RW at hq;subst hq;obtain ⟨t,rfl⟩:=ru;exact SeqAt.RcNeAt.tuple_str _ _ tl hu'
  |lst _=>unfold RW at hq;obtain ⟨a,xs,rfl,h2,_⟩:=hq;cases ru;obtain ⟨its,_,t,_⟩:=I.list h2;exact SeqAt.RcNeAt.tuple_list tl t.isList hu'
  |ref _=>unfold RW at hq;exact hq.elim
  |dct=>unfold RW at hq;exact hq.elim
  |ty _=>unfold RW at hq;exact hq.elim
  |fn _=>unfold RW at hq;exact hq.elim
  |exc _ _=>unfold RW at hq;exact hq.elim
  |tup m =>
   unfold RW at hq;obtain ⟨a2,ys,rfl,g2,g3⟩:=hq;cases ru;obtain ⟨its2,vm,tm,_⟩:=I.tuple g2;have rc:=SeqAt.RcNeAt.tuples (e:=eqN l m) tl tm hu' (elt (n:=deps l) (by show A.units + 1 + deps l < cLine;omega) (AM _) h3 g3 vl vm)
   have hl1:its.toArray.size=l.length:=by rw [AO,← vl.length,h3.length]
   have hl2:its2.toArray.size=m.length:=by rw [AO,← vm.length,g3.length]
   rw [hl1,hl2] at rc;have e:((List.range (min l.length m.length)).all (eqN l m)&&l.length==m.length)=peq (.tup l) (.tup m):=by
    unfold peq;by_cases hlm:l.length=m.length
    ·rw [← hlm,Nat.min_self,zP l m hlm,Aj,Ck]
    ·rw [Ws l m hlm,B2 hlm,Bt]
   rw [e] at rc;exact rc
 |lst l =>
  have hp0:=hp;unfold RW at hp;obtain ⟨a,xs,rfl,h2,h3⟩:=hp;cases rv;obtain ⟨its,vl,tl',_⟩:=I.list h2;have tl:=tl'.isList;unfold dep at hu;cases q with
  |non=>unfold RW at hq;subst hq;cases ru;exact SeqAt.RcNeAt.list_none tl hu'
  |bl _=>unfold RW at hq;subst hq;cases ru;exact SeqAt.RcNeAt.list_bool _ tl hu'
  |int _=>unfold RW at hq;subst hq;obtain ⟨t,rfl⟩:=ru;exact SeqAt.RcNeAt.list_int _ _ tl hu'
  |str _=>unfold RW at hq;subst hq;obtain ⟨t,rfl⟩:=ru;exact SeqAt.RcNeAt.list_str _ _ tl hu'
  |tup _=>unfold RW at hq;obtain ⟨a,xs,rfl,h2,_⟩:=hq;cases ru;obtain ⟨its,_,t,_⟩:=I.tuple h2;exact SeqAt.RcNeAt.list_tuple tl t hu'
  |ref _=>unfold RW at hq;exact hq.elim
  |dct=>unfold RW at hq;exact hq.elim
  |ty _=>unfold RW at hq;exact hq.elim
  |fn _=>unfold RW at hq;exact hq.elim
  |exc _ _=>unfold RW at hq;exact hq.elim
  |lst m =>
   unfold RW at hq;obtain ⟨a2,ys,rfl,g2,g3⟩:=hq;cases ru;obtain ⟨its2,vm,tm',_⟩:=I.list g2;have tm:=tm'.isList;have hl1:its.toArray.size=l.length:=by rw [AO,← vl.length,h3.length]
   have hl2:its2.toArray.size=m.length:=by rw [AO,← vm.length,g3.length]
   unfold peq;by_cases hlm:l.length=m.length
   ·have rc:=SeqAt.RcNeAt.lists (e:=eqN l m) tl tm (by rw [hl1,hl2,hlm]) hu' (elt (n:=deps l) (by show A.units + 1 + deps l < cLine;omega) (AM _) h3 g3 vl vm)
    rw [hl1,zP l m hlm] at rc;exact rc
   ·rw [Ws l m hlm];exact SeqAt.RcNeAt.lists_lengths tl tm (by rw [hl1,hl2];exact bne_iff_ne.mpr hlm) hu'
 |non=>exact wa I _ q rfl hu' hp hq rv ru
 |bl _=>exact wa I _ q rfl hu' hp hq rv ru
 |int _=>exact wa I _ q rfl hu' hp hq rv ru
 |str _=>exact wa I _ q rfl hu' hp hq rv ru
 |ref _=>exact wa I _ q rfl hu' hp hq rv ru
 |dct=>exact wa I _ q rfl hu' hp hq rv ru
 |ty _=>exact wa I _ q rfl hu' hp hq rv ru
 |fn _=>exact wa I _ q rfl hu' hp hq rv ru
 |exc _ _=>exact wa I _ q rfl hu' hp hq rv ru
end
def res (st:qB) (p:PV):PV:=match asL st p with
 |some l => .lst l
 |none=>p
theorem ZU {K:W.Frag} {H:Hp} {b:Bz} {st:qB} {p:PV} {v:V} (S:SR K H b st) (r:RV K H b p v) (h:nr (res st p)=true):RW K H (res st p) v:=by
 unfold res at h ⊢;cases e:asL st p with
 |none=>rw [e] at h;exact RV.rw p h r
 |some l =>rw [e] at h;obtain ⟨a,xs,rfl,h2,h3⟩:=wA S r e;dsimp only at h ⊢;unfold nr at h;unfold RW;exact ⟨a,xs,rfl,h2,RVs.rws l h h3⟩
abbrev ym:Nat:=60
def Yu (p q:PV):Bool:=nr p&&nr q&&decide (dep p≤ym)
def gEq:PV->PV->qB->Rs PV:=fun p q st=>if Yu (res st p) (res st q)=true then .ok (.bl (peq (res st p) (res st q))) st else .no
def gNe:PV->PV->qB->Rs PV:=fun p q st=>if Yu (res st p) (res st q)=true then .ok (.bl (!peq (res st p) (res st q))) st else .no
section
variable {X:Cx} {E:XK} {e a c d:Expr} {es:List Expr} {f fa fb fc:FE} {pos:Pos}
def qGH (K:W.Frag) (neg:Bool):R2:=fun u v H Q => ∃ p q,RW K H p u∧RW K H q v∧dep p≤ym∧Q (.bl (if neg then !peq p q else peq p q)) H
theorem yU (hr:X.A.units + 64 < cLine):OpR X (compareOp .Eq) (qGH X.K false):=by intro pins s σ H x y v u Q I rx ry h;obtain ⟨p,q,hp,hq,hd,h⟩:=h;exact qJn I p q (by have:dep p≤60:=hd;omega) hp hq rx ry _ _ _ _ ⟨.bl _,H,I,rfl,h⟩
theorem zF (hr:X.A.units + 64 < cLine):OpR X (compareOp .NotEq) (qGH X.K true):=by intro pins s σ H x y v u Q I rx ry h;obtain ⟨p,q,hp,hq,hd,h⟩:=h;exact qKZ I p q (by have:dep p≤60:=hd;omega) hp hq rx ry _ _ _ _ ⟨.bl _,H,I,rfl,h⟩
theorem YA {p q:PV} (h:Yu p q=true):nr p=true∧nr q=true∧dep p≤ym:=by unfold Yu at h;rw [Ab,Ab] at h;exact ⟨h.1.1,h.1.2,of_decide_eq_true h.2⟩
theorem jC:OpG X E (qGH X.K false) gEq:=by
 intro H b st p q u v Q S rp rq P;unfold gEq at P;split at P
 ·rename_i h;obtain ⟨h1,h2,h3⟩:=YA h;exact ⟨_,_,ZU S rp h1,ZU S rq h2,h3,PostE.here P S zN⟩
 ·exact P.elim
theorem ZN:OpG X E (qGH X.K true) gNe:=by
 intro H b st p q u v Q S rp rq P;unfold gNe at P;split at P
 ·rename_i h;obtain ⟨h1,h2,h3⟩:=YA h;exact ⟨_,_,ZU S rp h1,ZU S rq h2,h3,PostE.here P S zN⟩
 ·exact P.elim
theorem qCj (hr:X.A.units + 64 < cLine) (ha:VE X E a fa) (hb:VE X E c fb):VE X E (.Compare a [.Eq] [c] pos) (qN gEq fa fb):=jr (yU hr) jC ha hb
def pin (x:PV):List PV->Bool
 |[]=>false
 |y::ys=>peq y x || pin x ys
def gIn (neg:Bool):PV->PV->qB->Rs PV:=fun p q st=>match WG st q with
 |some l=>if nrs l=true∧nr (res st p)=true∧deps l≤ym then .ok (.bl (if neg then !pin (res st p) l else pin (res st p) l)) st else .no
 |none => .no
def qJq (K:W.Frag) (neg:Bool):R2:=fun u v H Q => ∃ p l a xs,v = .ref a∧(SqL K H a xs∨SqT K H a xs)∧RW K H p u∧RWs K H l xs∧deps l≤ym∧Q (.bl (if neg then !pin p l else pin p l)) H
theorem qBv {X:Cx} {pins:List (Addr×Obj)} {σ:L2.St} {H:Hp} {s:Shared} (I:L2.Inv X pins σ H s) {A:Around} {p:PV} {u:V} {uu:Value} (hp:RW X.K H p u) (ru:RelV u uu) (hA:A.units + 60 < cLine)
  {l:List PV} {xs:List V} {its:List Value} (hl:RWs X.K H l xs) (vl:Vals xs its) (hd:deps l≤ym):∃ g:Value->Bool,(∀ y∈its,SeqAt.EqAt A s y uu (g y))∧its.any g=pin p l:=by
 classical
 have key:∀ (q:PV) (x:V) (y:Value),RW X.K H q x->RelV x y->decide (∃ q x,RW X.K H q x∧RelV x y∧peq q p=true)=peq q p:=fun q x y h1 h2=>by
  by_cases hb:peq q p=true
  ·rw [hb];exact Af ⟨q,x,h1,h2,hb⟩
  ·rw [show peq q p=false by simpa using hb]
   refine AX fun ⟨q',x',k1,k2,k3⟩=>hb ?_;have ex:x'=x:=k2.inj h2;subst ex;rw [RW.det I q q' h1 k1];exact k3
 refine ⟨fun y=>decide (∃ q x,RW X.K H q x∧RelV x y∧peq q p=true),fun y hy => ?_,?_⟩
 ·obtain ⟨i,hi⟩:=BS hy;obtain ⟨x,hx,rx⟩:=Vals.get2 vl hi;obtain ⟨q,hq,rq⟩:=RWs.get' hl hx;dsimp only;rw [key q x y rq rx];exact J3 I 60 q p x u y uu A (Ac (zH hq) hd) hA rq hp rx ru
 ·have go:∀ (l:List PV) (xs:List V) (its:List Value),RWs X.K H l xs->Vals xs its->its.any (fun y=>decide (∃ q x,RW X.K H q x∧RelV x y∧peq q p=true))=pin p l:=by
   intro l;induction l with
   |nil=>intro xs its h v;unfold RWs at h;subst h;cases v;rfl
   |cons q qs ih =>
    intro xs its h v;unfold RWs at h;obtain ⟨x,r,rfl,h2,h3⟩:=h;cases v with
    |cons rv vr =>rw [List.any_cons,key q x _ h2 rv,ih _ _ h3 vr];rfl
  exact go l xs its hl vl
theorem qEZ (hr:X.A.units + 64 < cLine):OpR X (compareOp .In) (qJq X.K false):=by
 intro pins s σ H x y v u Q I rx ry h;obtain ⟨p,l,a,xs,rfl,hs,hp,hl,hd,h⟩:=h;cases ry;have hA:X.A.in1.units + 60 < cLine:=by show X.A.units + 1 + 60 < cLine;omega
 rcases hs with hs |hs
 ·obtain ⟨its,vl,t,_⟩:=I.list hs;obtain ⟨g,h1,h2⟩:=qBv I hp rx hA hl vl hd;exact SeqAt.in_listAt g t.isList (fun y hy=>h1 y (by simpa using hy)) ⟨.bl _,H,I,by show _=_;rw [List.any_toArray,h2];rfl,h⟩
 ·obtain ⟨its,vl,t,_⟩:=I.tuple hs;obtain ⟨g,h1,h2⟩:=qBv I hp rx hA hl vl hd;exact SeqAt.in_tupleAt g t (fun y hy=>h1 y (by simpa using hy)) ⟨.bl _,H,I,by show _=_;rw [List.any_toArray,h2];rfl,h⟩
theorem qHx {neg:Bool}:OpG X E (qJq X.K neg) (gIn neg):=by
 intro H b st p q u v Q S rp rq P;unfold gIn at P;split at P
 ·rename_i l el;split at P
  ·rename_i hh;obtain ⟨h1,h2,h3⟩:=hh;obtain ⟨a,xs,rfl,k2,k3⟩:=Zx S rq el;exact ⟨_,l,a,xs,rfl,k2,ZU S rp h2,RVs.rws l h1 k3,h3,PostE.here P S zN⟩
  ·exact P.elim
 ·exact P.elim
theorem qKU (hr:X.A.units + 64 < cLine) (ha:VE X E a fa) (hb:VE X E c fb) (hm:behindInMarks .In c=false:=by with_unfolding_all rfl):VE X E (.Compare a [.In] [c] pos) (qN (gIn false) fa fb):=jr (qEZ hr) qHx ha hb hm
end
end EV
end
section
namespace EV
open PySem PySem.Spec PyProof.Rows L2 EX
section
variable {X:Cx} {E:XK} {e a c d:Expr} {es:List Expr} {f fa fb fc:FE} {pos:Pos} {F G:FS}
def j8 (C:Addr) (t:FA):FS:=fun r st=>match t r st with
 | .ok ps s=>if ps.length≤sizeLine then .ex ⟨C,[]⟩ s else .no
 | .ex x s => .ex x s
 | .no => .no
theorem qFE {x:Str} {C:Addr} {t:FA} {np cpos:Pos} (hz:Rz X E) (hc:X.calm=true) (hg:Gl X x) (hm:X.mg x=some (.ref C)) (q:W.excIn X.K C bmV "ValueError.__new__" = true) (ha:VA X E (e::es) t) (hdb:(x==("__debug__":Str))=false:=by decide)
  (he:starEach (e::es) X.env=(false,eval e X.env)::starEach es X.env:=by rfl) (hpl:(backTo cpos (starEach es X.env)).any (·.1)=false:=by rfl):VS X E (.Raise (some (.Call (.Name x np) (e::es) [] cpos)) none pos) (j8 C t) :=
 PS.imp (qER hz hc hg hm q ha hdb he hpl) fun D s H ⟨b,r,st,S,R,P⟩=>⟨b,r,st,S,R,by
  unfold j8 at P;cases ef:t r st with
  |no=>rw [ef] at P;exact P.elim
  |ex x s1=>rw [ef] at P;exact P
  |ok ps s1 =>
   rw [ef] at P;dsimp only at P;by_cases hl:ps.length≤sizeLine
   ·rw [AF hl] at P;exact fun vs H' b' e' S' r'=>⟨by rw [← r'.length];exact hl,P (.ref C) none H' b' e' S' ⟨rfl,.inl ⟨rfl,rfl⟩⟩⟩
   ·rw [AJ hl] at P;exact P.elim⟩
theorem REnv.lose {K:W.Frag} {H:Hp} {b:Bz} {r:qv} {s:L2.St} (h:REnv K H b r s) (i:Nat):REnv K H b (r.set i none) (s.set i none):=by
 refine ⟨by simp [h.1],fun j q hq => ?_⟩
 by_cases hj:i=j
 ·subst hj;by_cases hl:i < r.length
  ·rw [A8 hl] at hq;cases hq
  ·rw [Bo (by simpa using hl)] at hq;cases hq
 ·rw [BJ hj] at hq ⊢;exact h.2 j q hq
def tyP:PV->Option Value
 | .non=>some (.type "NoneType")
 | .bl _=>some (.type "bool")
 | .int _=>some (.type "int")
 | .str _=>some (.type "str")
 | .tup _=>some (.type "tuple")
 | .lst _=>some (.type "list")
 | .ref _=>some (.type "list")
 | .dct=>some (.type "dict")
 | .exc c _=>some (.ref c)
 |_=>none
def clP:PV->Option Value
 | .ty n=>some (.type n)
 | .fn a=>some (.ref a)
 |_=>none
def qC3 (kit:Value->Value->Option Bool) (p c:PV):Option Bool:=match tyP p,clP c with
 |some t,some c=>kit t c
 |_,_=>none
def qAq (kit:Value->Value->Option Bool) (p:PV):List PV->Option Bool
 |[]=>some false
 |c::r=>match qC3 kit p c with
  |some true=>some true
  |some false=>qAq kit p r
  |none=>none
def qJp (kit:Value->Value->Option Bool) (p:PV):PV->Option Bool
 | .tup cs=>if (tyP p).isSome then qAq kit p cs else none
 |c=>qC3 kit p c
structure KitOk (K:W.Frag) (kit:Value->Value->Option Bool):Prop where
 one:∀ t c b,kit t c=some b->W.kitOne K t c=some b
 exc:∀ a c b,kit (.ref a) c=some b->ExcK K a
end
end EV
end
section
namespace EX
open PySem PySem.Spec PyProof.Rows L2
theorem qGS {X:Cx} {pins:List (Addr×Obj)} {σ:L2.St} {H:Hp} {s:Shared} (I:L2.Inv X pins σ H s) {fp:List Addr} (hf:∀ b∈fp,yJ X pins H b) {h':Heap} {t':Nat} {x y:V} {u v:Value} (rx:RelV x u) (ry:RelV y v)
  (k:∀ b o,b ∉ fp->s.heap.get? b=some o->h'.get? b=some o) (kf:∀ b∈fp,∃ o,h'.get? b=some o) (hT:IsPair h' s.heap.objs.size u v):L2.Inv X pins σ (upd H s.heap.objs.size (.tup [x,y])) { s with heap:=h',toks:=t' }:=by
 have hn:H s.heap.objs.size=none:=I.hok.fresh (AM _);have nt:∀ b o,s.heap.get? b=some o->b≠s.heap.objs.size:=fun b o e=>AV (AK e);have nf:∀ b u,H b=some u->b ∉ fp:=fun b u e z=>by rw [(hf b z).1] at e;cases e
 have un:Un (frs X.stack) fp H (upd H s.heap.objs.size (.tup [x,y])) s.heap h' :=
  ⟨fun b o e _ _ hb=>k b o hb e,fun b o e _ _ hb=>⟨o.slots,k b o hb e⟩,fun b o e n _=>by rw [qS (nt b o e)];exact n,fun b o e hb=>⟨o,k b o hb e⟩,fun b xs e=>by rw [qS (qT e hn)];exact e,fun b o u e=>by rw [qS (qT e hn)];exact e,fun b ps e=>⟨#[],by rw [qS (qT e hn),e];simp⟩⟩
 refine I.call (g':=s.gens) (d':=s.drawn) (t':=t') (ch:=fp) un (fun b u' e => ?_) I.bare fun b hb=>⟨(hf b hb).2.2.2.1,(hf b hb).2.1,(hf b hb).2.2.2.2.1,(hf b hb).2.2.2.2.2⟩;by_cases hb:b=s.heap.objs.size
 ·subst hb;rw [qw] at e;cases e;exact ⟨by show 2≤sizeLine;decide,[u,v],.cons rx (.cons ry .nil),_,hT,rfl,0,rfl⟩
 ·rw [qS hb] at e;refine (I.hok b u' e).stay (fun c w hc q=>k c w ?_ q) (fun c q=>by rw [qS (qT q hn)];exact q) fun c xs q=>by rw [qS (qT q hn)];exact q
  rcases hc with rfl |hc
  ·exact nf _ _ e
  ·exact nf _ _ hc
section
variable {X:Cx}
def qKI (K:W.Frag):R2:=fun x y H Q => ∃ l b xs zs,x = .ref l∧y = .ref b∧SqL K H l xs∧SqL K H b zs∧xs.length + zs.length≤sizeLine ∧ ∀ p,H p=none->Q (.ref p) (upd H p (.lst (xs++zs)))
theorem qGs:OpR X (binaryOp .Add) (qKI X.K):=by
 intro pins s σ H x y v u Q I rx ry h;obtain ⟨l,b,xs,zs,rfl,rfl,h1,h2,hz,q⟩:=h;cases rx;cases ry;obtain ⟨us,r1,p1,_⟩:=I.list h1;obtain ⟨ws,r2,p2,_⟩:=I.list h2;obtain ⟨⟨c1,d1,a1,s1⟩,o1,e1,m1,f1⟩:=id p1.isList;obtain ⟨⟨c2,d2,a2,s2⟩,o2,e2,m2,f2⟩:=id p2.isList;have e1:c1=_:=e1;have e2:c2=_:=e2;have f1:a1=_:=f1;have f2:a2=_:=f2;subst e1;subst e2;subst f1;subst f2;have z:us.length + ws.length≤sizeLine:=by rw [← r1.length,← r2.length];exact hz
 refine concat_meets ⟨_,o1,rfl⟩ ⟨_,o2,rfl⟩ noFill_list_add seq_list_add F.slot_list_add F.entry_list_add (F.args_list_add_2 _ _) (list_addW l b us.toArray ws.toArray m1 m2 d1 d2 s1 s2 (by simpa using z)) ⟨o1,o2,?_⟩
 rw [show us.toArray++ws.toArray=(us++ws).toArray by simp]
 exact ⟨.ref _,_,I.lnew (t':=s.toks) (r1.append r2) (by rw [AZ];exact hz),rfl,q _ I.fresh⟩
def qJZ (K:W.Frag):R2:=fun x y H Q => ∃ a b xs ys,x = .ref a∧y = .ref b∧SqT K H a xs∧SqT K H b ys∧xs.length + ys.length≤sizeLine ∧
 (xs=[]->Q (.ref b) H)∧(xs≠[]->ys=[]->Q (.ref a) H)∧(xs≠[]->ys≠[] -> ∀ p,H p=none->Q (.ref p) (upd H p (.tup (xs++ys))))
theorem qFi:OpR X (binaryOp .Add) (qJZ X.K):=by
 intro pins s σ H x y v u Q I rx ry h;obtain ⟨a,b,xs,ys,rfl,rfl,ha,hb,hz,q0,q1,q2⟩:=h;by_cases hx:xs=[]
 ·cases rx;cases ry;obtain ⟨us,r1,p1,_⟩:=I.tuple ha;obtain ⟨ws,r2,p2,_⟩:=I.tuple hb;obtain ⟨⟨c1,d1,a1,s1⟩,o1,e1,m1,f1⟩:=id p1;obtain ⟨⟨c2,d2,a2,s2⟩,o2,e2,m2,f2⟩:=id p2;have e1:c1=_:=e1;have e2:c2=_:=e2;have f1:a1=_:=f1;have f2:a2=_:=f2;subst e1;subst e2;subst f1;subst f2;exact concat_meets ⟨_,o1,rfl⟩ ⟨_,o2,rfl⟩ noFill_tuple_add seq_tuple_add F.slot_tuple_add F.entry_tuple_add (F.args_tuple_add_2 _ _) (tuple_addW0 a b us.toArray ws.toArray m1 m2 d1 d2 s1 s2 (by simp [r1.nil_iff.mpr hx])) ⟨o1,o2,.ref b,H,I,rfl,q0 hx⟩
 ·exact qGe pins s σ H _ _ v u Q I rx ry ⟨a,b,xs,ys,rfl,rfl,ha,hb,hx,hz,q1 hx,q2 hx⟩
def qK7 (K:W.Frag):V->Option Int->Option Int->Hp->VK->Prop:=fun x lo hi H Q => ∃ a xs,x = .ref a∧SqT K H a xs∧HT.sIx xs.length 0 lo=0∧HT.sIx xs.length xs.length hi=xs.length∧Q (.ref a) H
theorem qEC:SlR X (qK7 X.K):=by
 intro pins s σ H x v vl vu lo hi sl Q I rx hs pl pu h;obtain ⟨a,xs,rfl,hx,w1,w2,q⟩:=h;cases rx;obtain ⟨its,r,ht,hz⟩:=I.tuple hx;have hlen:its.toArray.size=xs.length:=by rw [AO];exact r.length.symm
 refine ⟨"tuple",_,PyProof.Rows.slot_tuple_getitem.lookup,ht.typeIs,?_⟩;obtain ⟨os,hos,hcs,hds⟩:=id hs;have hTs:s.TypeIs (.ref sl) "slice" := ⟨os,hos,hcs⟩;unfold getItem;try with_reducible refine Ae ?_
 first |refine AA (AB ?_) |skip
 refine AA (wpAny_sequenceKey ht.typeIs (by decide) ?_)
 refine AA (Ay (name:=Str.ofString "__getitem__") ht.typeIs BH (A2 BH ht.typeIs PyProof.Rows.entry_tuple_getitem ?_ (PyProof.Rows.args_tuple_getitem _ _)));show wpAny _ _ (Builtin.Tuple.tupleItemsOf (.ref a) >>= _) _ _ s;refine AA (tupleItemsOf_ ht ?_);refine AA (BZ hTs ?_);rw [AF (by decide)]
 refine AA (HT.sliceApplied_gen hs pl pu ?_);rw [hlen,w1,w2];dsimp only;rw [AF (show ((((0:Nat):Int)==0&&(1:Int)==1&&xs.length - 0==xs.length)=true) by simp)]
 unfold Builtin.Tuple.tupleIsExact;refine AA (AA (BZ ht.typeIs (AB ?_)));rw [AF (by simp)]
 exact AA (B7 (AB ⟨_,rfl,AB ⟨.ref a,H,I,rfl,q⟩⟩))
def PJ (X:Cx) (es:List Expr) (t:Str->L2.St->Hp->(Str->Hp->Prop)->Prop):Prop := ∀ (out:Str) (pins:List (Addr×Obj)) (s:Shared) (σ:L2.St) (H:Hp) (Q:Str->Hp->Prop),L2.Inv X pins σ H s->t out σ H Q ->
 wpAny (model X.prog X.w) X.A (joinParts out (evalEach es X.env)) (fun u s' => ∃ x H',L2.Inv X pins σ H' s'∧(∃ t,u = .str x t)∧Q x H') X.xe s
theorem qDx:PJ X [] (fun out _ H Q=>out.length≤sizeLine∧Q out H):=fun out pins s σ H Q I h=>joinParts_nil ⟨out,H,I.tok _,⟨_,rfl⟩,h.2⟩ h.1
theorem yp {e:Expr} {es:List Expr} {te:TE} {t:Str->L2.St->Hp->(Str->Hp->Prop)->Prop} (h1:PE X e te) (h2:PJ X es t):PJ X (e::es) (fun out σ H Q=>te σ H fun v H1 => ∃ y,v = .str y∧(out++y).length≤sizeLine∧t (out++y) σ H1 Q) :=
 fun out pins s σ H Q I h=>joinParts_cons (thn (h1 pins s σ H _ I h) fun u s1 ⟨v,H1,I1,r1,y,e,z,q⟩=>by
  subst e;obtain ⟨t',rfl⟩:=r1;exact ⟨z,h2 (out++y) pins s1 σ H1 Q I1 q⟩)
theorem qBQ {e:Expr} {te:TE} {pos:Pos} (h:PE X e te):PE X (.FormattedValue e (-1) none pos) (fun σ H Q=>te σ H fun v H1 => ∃ i,v = .int i∧i.natAbs.log2 < 1920∧Q (.str (toString i)) H1) :=
 fun pins s σ H Q I q=>FormattedValue_plain (thn (h pins s σ H _ I q) fun u s1 ⟨v,H1,I1,r1,i,e,z,q⟩=>by
  subst e;obtain ⟨t',rfl⟩:=r1;exact wpAny_formatField_int z ⟨.str _,H1,I1.tok _,⟨_,rfl⟩,q⟩)
theorem qCL {e1 e2:Expr} {es:List Expr} {t:Str->L2.St->Hp->(Str->Hp->Prop)->Prop} {pos:Pos} (h:PJ X (e1::e2::es) t):PE X (.JoinedStr (e1::e2::es) pos) (fun σ H Q=>t Str.empty σ H fun x H1=>Q (.str x) H1) :=
 fun pins s σ H Q I q=>JoinedStr_many (thn (h Str.empty pins s σ H _ I q) fun u s1 ⟨x,H1,I1,r1,q1⟩=>⟨.str x,H1,I1,r1,q1⟩)
end
end EX
end
section
namespace EV
open PySem PySem.Spec PyProof.Rows L2 EX
section
variable {X:Cx} {E:XK} {e a c d:Expr} {es:List Expr} {f fa fb fc:FE} {pos:Pos} {F G:FS}
theorem WC {x:Str} {n:String} {pos:Pos} (hg:Gl X x) (hm:X.mg x=none) (hv:bootBuiltins x=some (.type n)) (hn:x ≠ "__name__" := by decide) (hd:(x==("__debug__":Str))=false:=by decide):VE X E (.Name x pos) (vC (.ty n)) :=
 qAy (qHN (v := .ty n) hg hm hv rfl hn hd) fun _ _=>by unfold RV;rfl
theorem ZA {x:Str} {a:Addr} {pos:Pos} (hg:Gl X x) (hm:X.mg x=some (.ref a)) (hd:(x==("__debug__":Str))=false:=by decide):VE X E (.Name x pos) (vC (.fn a)) :=
 qAy (qCJ (v := .ref a) hg hm rfl hd) fun _ _=>by unfold RV;rfl
def lk (st:qB):PV->Bool
 | .ref i=>match st[i]? with
  |some (.l _)=>true
  |_=>false
 |_=>true
theorem qEY {kit:Value->Value->Option Bool} (hk:KitOk X.K kit) {pins:List (Addr×Obj)} {σ:L2.St} {H:Hp} {s:Shared} (I:L2.Inv X pins σ H s) {b:Bz} {st:qB} (S:SR X.K H b st) {p:PV} {v:V} {u t:Value} (r:RV X.K H b p v) (ru:RelV v u) (ht:tyP p=some t) (hlk:lk st p=true) (hx:∀ a,t = .ref a->ExcK X.K a) :
  ∃ Hh,W.KitX X.K u t Hh∧Hh s.heap∧u ≠ .builtin "__main__.__loader__#opaque" := by
 cases p with
 |non=>unfold RV at r;subst r;cases ht;cases (show u=Value.none from ru);exact ⟨_,W.kitx_none,trivial,fun z=>nomatch z⟩
 |bl x=>unfold RV at r;subst r;cases ht;cases (show u=Value.bool x from ru);exact ⟨_,W.kitx_bool,trivial,fun z=>nomatch z⟩
 |int x=>unfold RV at r;subst r;cases ht;obtain ⟨t,rfl⟩:=(show ∃ t,u=Value.int x t from ru);exact ⟨_,W.kitx_int,trivial,fun z=>nomatch z⟩
 |str x=>unfold RV at r;subst r;cases ht;obtain ⟨t,rfl⟩:=(show ∃ t,u=Value.str x t from ru);exact ⟨_,W.kitx_str,trivial,fun z=>nomatch z⟩
 |tup l =>unfold RV at r;obtain ⟨a,xs,rfl,h2,h3⟩:=r;cases ht;cases (show u=Value.ref a from ru);obtain ⟨its,_,⟨o,h4,h5,_⟩,_⟩:=I.tuple h2.sq;exact ⟨_,W.kitx_tuple,⟨o,h4,h5⟩,fun z=>nomatch z⟩
 |lst l =>unfold RV at r;obtain ⟨a,xs,rfl,h2,h3⟩:=r;cases ht;cases (show u=Value.ref a from ru);obtain ⟨its,_,⟨o,n,h4,h5,_⟩,_⟩:=I.list h2.sq;exact ⟨_,W.kitx_list,⟨o,h4,h5⟩,fun z=>nomatch z⟩
 |ref i =>
  unfold RV at r;obtain ⟨a,rfl,h2⟩:=r;cases ht;cases (show u=Value.ref a from ru);have hl:i < st.length:=by rw [← S.len];exact (AQ.mp h2).1
  obtain ⟨a',o,h3,h4,h5⟩:=S.at_ i _ (AL hl);rw [h2] at h3;cases h3;have hq:∃ vs,o = .lst vs:=by
   cases hx:st[i] with
   |l xs=>rw [hx] at h5;obtain ⟨vs,e,_⟩:=h5;exact ⟨vs,e⟩
   |z xs=>unfold lk at hlk;dsimp only at hlk;rw [AL hl,hx] at hlk;cases hlk
   |d xs=>unfold lk at hlk;dsimp only at hlk;rw [AL hl,hx] at hlk;cases hlk
  obtain ⟨vs,rfl⟩:=hq;obtain ⟨its,_,⟨o,n,h6,h7,_⟩,_⟩:=I.list (SqL.of h4);exact ⟨_,W.kitx_list,⟨o,h6,h7⟩,fun z=>nomatch z⟩
 |dct =>unfold RV at r;obtain ⟨a,rfl,h2,h3⟩:=r;cases ht;cases (show u=Value.ref a from ru);obtain ⟨_,_,vs,_,o,_,_,h4,h5,_⟩:=(show ObjOk X.prog X.w H s.heap a (.dK []) from I.hok a _ h2);exact ⟨_,W.kitx_dict,⟨o,h4,h5.1⟩,fun z=>nomatch z⟩
 |exc c fs =>
  unfold RV at r;obtain ⟨a,o,w,rfl,h2,h3,h4,⟨vs,h6⟩,h5⟩:=r;cases ht;cases (show u=Value.ref a from ru);have ho:s.heap.get? a=some o:=(I.hok a _ h2).1;have hn:W.notCls o=true:=by obtain ⟨c',d',dt,sl⟩:=o;have h6:dt=_:=h6;subst h6;rfl
  refine ⟨_,qD3 (hx c rfl),?_,fun z=>nomatch z⟩;rcases h5 with ⟨_,h5⟩ |⟨d,h5,h7,h8⟩
  ·exact ⟨o,none,ho,h4,hn,by rw [h5];trivial⟩
  ·obtain ⟨od,h9⟩:=got (I.hok d _ h7);exact ⟨o,some od,ho,h4,hn,by rw [h5];exact h9⟩
 |ty n=>cases ht
 |fn n=>cases ht
theorem qHt {K:W.Frag} {H:Hp} {b:Bz} {c:PV} {v:V} {u t:Value} (r:RV K H b c v) (ru:RelV v u) (ht:clP c=some t):u=t:=by
 cases c with
 |ty n=>unfold RV at r;subst r;cases ht;exact ru
 |fn a=>unfold RV at r;subst r;cases ht;exact ru
 |_=>cases ht
theorem Jo {kit:Value->Value->Option Bool} (hk:KitOk X.K kit) {H:Hp} {b:Bz} {p:PV} {t:Value} (ht:tyP p=some t):∀ {cs:List PV} {xs:List V} {us:List Value} {k:Bool},RVs X.K H b cs xs->Vals xs us->qAq kit p cs=some k->W.kitAny X.K t us=some k
 |[],_,_,k,h,r,e=>by unfold RVs at h;subst h;cases r;exact e
 |c::cs,_,_,k,h,r,e=>by
  unfold RVs at h;obtain ⟨x,xs,rfl,h1,h2⟩:=h;cases r with
  | @cons _ u _ us r1 r2 =>
   unfold qAq qC3 at e;rw [ht] at e;cases hc:clP c with
   |none=>rw [hc] at e;cases e
   |some c' =>
    rw [hc] at e;have eu:=qHt h1 r1 hc;subst eu;dsimp only at e;unfold W.kitAny;cases q:kit t u with
    |none=>rw [q] at e;cases e
    |some bb =>
     rw [q] at e;rw [hk.one _ _ _ q];cases bb with
     |true=>exact e
     |false=>exact Jo hk ht h2 r2 e
theorem qFf {kit:Value->Value->Option Bool} (hk:KitOk X.K kit) {p:PV} {t:Value} (ht:tyP p=some t):∀ {cs:List PV} {k:Bool},cs≠[]->qAq kit p cs=some k -> ∀ a,t = .ref a->ExcK X.K a
 |[],_,h,_,_,_=>absurd rfl h
 |c::cs,k,_,e,a,ha=>by
  unfold qAq qC3 at e;rw [ht] at e;cases hc:clP c with
  |none=>rw [hc] at e;cases e
  |some c' =>
   rw [hc] at e;dsimp only at e;cases q:kit t c' with
   |none=>rw [q] at e;cases e
   |some bb=>subst ha;exact hk.exc _ _ _ q
theorem qFo {kit:Value->Value->Option Bool} (hk:KitOk X.K kit):Wu X (.builtin "isinstance") (fun vs H Q => ∃ b st p c k,SR X.K H b st∧RVs X.K H b [p,c] vs∧(∀ cs,c = .tup cs->cs≠[])∧lk st p=true∧qJp kit p c=some k∧Q (.bl k) H):=by
 intro pins s σ H xs us Q I r h;obtain ⟨b,st,p,c,k,S,rs,hne,hlk,e,q⟩:=h;obtain ⟨x,y,rfl,r1,r2⟩:=RVs.two rs;obtain ⟨u,v,rfl,ru,rv⟩:=qCW r;by_cases hc:∃ cs,c = .tup cs
 ·obtain ⟨cs,rfl⟩:=hc;have e:(if (tyP p).isSome then qAq kit p cs else none)=some k:=e;cases ht:tyP p with
  |none=>rw [ht] at e;cases e
  |some t =>rw [ht] at e;have e:qAq kit p cs=some k:=e;obtain ⟨Hh,Z,hh,hx⟩:=qEY hk I S r1 ru ht hlk (qFf hk ht (hne cs rfl) e);unfold RV at r2;obtain ⟨a,ys,rfl,h2,h3⟩:=r2;cases (show v=Value.ref a from rv);obtain ⟨its,r',⟨o,h4,h5,n,h6⟩,_⟩:=I.tuple h2.sq;obtain ⟨c1,d1,dt,sl⟩:=o;have h5:c1=_:=h5;have h6:dt=_:=h6;subst h5;subst h6;exact W.kia_tup Z I.kIn hh h4 (Jo hk ht h3 r' e) hx fun tk=>⟨.bl k,H,I.tok _,rfl,q⟩
 ·have e:qC3 kit p c=some k:=by cases c <;> first |exact e |exact (hc ⟨_,rfl⟩).elim
  unfold qC3 at e;cases ht:tyP p with
  |none=>rw [ht] at e;cases e
  |some t =>
   cases hc2:clP c with
   |none=>rw [ht,hc2] at e;cases e
   |some c' =>
    rw [ht,hc2] at e;have eu:=qHt r2 rv hc2;subst eu;obtain ⟨Hh,Z,hh,hx⟩:=qEY hk I S r1 ru ht hlk (fun a ha=>by subst ha;exact hk.exc _ _ _ e)
    exact W.kia_one Z I.kIn hh (hk.one _ _ _ e) hx fun tk=>⟨.bl k,H,I.tok _,rfl,q⟩
def QN (kit:Value->Value->Option Bool):List PV->qB->Rs PV:=fun ps st=>match ps with
 |[p,c]=>match c with
  | .tup [] => .no
  |c=>match qJp kit p c with
   |some b=>if lk st p=true then .ok (.bl b) st else .no
   |none => .no
 |_ => .no
theorem QP {kit:Value->Value->Option Bool} {ta:FA} {p:Pos} (hk:KitOk X.K kit) (hm:X.mg "isinstance" = none) (ha:VA X E (e::es) ta) (hg:Gl X "isinstance" := by rfl)
  (he:starEach (e::es) X.env=(false,eval e X.env)::starEach es X.env:=by rfl) (hpl:(backTo pos (starEach es X.env)).any (·.1)=false:=by rfl):VE X E (.Call (.Name "isinstance" p) (e::es) [] pos) (qI (QN kit) ta) :=
 WZ (qFo hk) (fun H b st ps vs Q S r P=>by
  unfold QN at P;split at P
  ·rename_i p c;split at P
   ·exact P.elim
   ·rename_i hc;split at P
    ·rename_i k hk';split at P
     ·rename_i hlk;exact ⟨b,st,p,c,k,S,r,fun cs e z=>by subst e;subst z;exact hc rfl,hlk,hk',PostE.here P S zN⟩
     ·exact P.elim
    ·exact P.elim
  ·exact P.elim) hg hm PyProof.Rows.boot_isinstance ha (he:=he) (hpl:=hpl)
end
def pbl:PV->Option Bool
 | .bl b=>some b
 |_=>none
def qDd:PV->Option Int
 | .int i=>some i
 |_=>none
def wm {α:Type} (f:PV->Option α):List PV->Option (List α)
 |[]=>some []
 |p::ps=>match f p with
  |some a=>match wm f ps with
   |some r=>some (a::r)
   |none=>none
  |none=>none
section
variable {X:Cx} {E:XK} {e a c d:Expr} {es:List Expr} {f fa fb fc:FE} {pos:Pos} {F G:FS}
theorem qFk {K:W.Frag} {H:Hp} {b:Bz}:∀ {l:List PV} {xs:List V} {bs:List Bool},RVs K H b l xs->wm pbl l=some bs->xs=bs.map V.bl
 |[],_,_,h,e=>by unfold RVs at h;subst h;cases e;rfl
 |p::ps,_,bs,h,e=>by
  unfold RVs at h;obtain ⟨x,r,rfl,h1,h2⟩:=h;unfold wm at e;cases p with
  |bl k =>
   unfold RV at h1;subst h1;cases q:wm pbl ps with
   |none=>rw [q] at e;cases e
   |some r'=>rw [q] at e;cases e;rw [qFk h2 q];rfl
  |_=>cases e
theorem yw {K:W.Frag} {H:Hp} {b:Bz}:∀ {l:List PV} {xs:List V} {bs:List Int},RVs K H b l xs->wm qDd l=some bs->xs=bs.map V.int
 |[],_,_,h,e=>by unfold RVs at h;subst h;cases e;rfl
 |p::ps,_,bs,h,e=>by
  unfold RVs at h;obtain ⟨x,r,rfl,h1,h2⟩:=h;unfold wm at e;cases p with
  |int k =>
   unfold RV at h1;subst h1;cases q:wm qDd ps with
   |none=>rw [q] at e;cases e
   |some r'=>rw [q] at e;cases e;rw [yw h2 q];rfl
  |_=>cases e
def qAo {α:Type} (k:PV->Option α) (g:List α->PV):List PV->qB->Rs PV:=fun ps st=>match ps with
 |[p]=>match asL st p with
  |some l=>match wm k l with
   |some r => .ok (g r) st
   |none => .no
  |none => .no
 |_ => .no
def Ze:=qAo pbl fun bs => .bl (bs.all id)
def qGF:=qAo qDd fun ns => .int ns.sum
theorem qJH:ZP X E (fun xs H Q => ∃ (p:Addr) (bs:List Bool),xs=[.ref p]∧SqL X.K H p (bs.map V.bl)∧Q (.bl (bs.all id)) H) Ze:=by
 intro H b st ps vs Q S r P;unfold Ze qAo at P;split at P
 ·obtain ⟨v,rfl,r1⟩:=RVs.one r;split at P
  ·rename_i l e;split at P
   ·rename_i bs eb;obtain ⟨a,xs,rfl,h2,h3⟩:=wA S r1 e;rw [qFk h3 eb] at h2;exact ⟨a,bs,rfl,h2,PostE.here P S zN⟩
   ·exact P.elim
  ·exact P.elim
 ·exact P.elim
theorem qId:ZP X E (fun xs H Q => ∃ (p:Addr) (ns:List Int),xs=[.ref p]∧SqL X.K H p (ns.map V.int)∧Q (.int ns.sum) H) qGF:=by
 intro H b st ps vs Q S r P;unfold qGF qAo at P;split at P
 ·obtain ⟨v,rfl,r1⟩:=RVs.one r;split at P
  ·rename_i l e;split at P
   ·rename_i bs eb;obtain ⟨a,xs,rfl,h2,h3⟩:=wA S r1 e;rw [yw h3 eb] at h2;exact ⟨a,bs,rfl,h2,PostE.here P S Qx⟩
   ·exact P.elim
  ·exact P.elim
 ·exact P.elim
section
variable {ta:FA} {p:Pos} (ha:VA X E (e::es) ta)
include ha
theorem yP (hm:X.mg "all" = none) (hg:Gl X "all" := by rfl) (he:starEach (e::es) X.env=(false,eval e X.env)::starEach es X.env:=by rfl) (hpl:(backTo pos (starEach es X.env)).any (·.1)=false:=by rfl):VE X E (.Call (.Name "all" p) (e::es) [] pos) (qI Ze ta) :=
 WZ qCr qJH hg hm Boot.«all» ha (he:=he) (hpl:=hpl)
theorem qIM (hm:X.mg "sum" = none) (hg:Gl X "sum" := by rfl) (he:starEach (e::es) X.env=(false,eval e X.env)::starEach es X.env:=by rfl) (hpl:(backTo pos (starEach es X.env)).any (·.1)=false:=by rfl):VE X E (.Call (.Name "sum" p) (e::es) [] pos) (qI qGF ta) :=
 WZ qDJ qId hg hm Boot.«sum» ha (he:=he) (hpl:=hpl)
theorem wO (hm:X.mg "len" = none) (hg:Gl X "len" := by rfl) (he:starEach (e::es) X.env=(false,eval e X.env)::starEach es X.env:=by rfl) (hpl:(backTo pos (starEach es X.env)).any (·.1)=false:=by rfl):VE X E (.Call (.Name "len" p) (e::es) [] pos) (qI w8 ta) :=
 WZ jz qJb hg hm Boot.«len» ha (he:=he) (hpl:=hpl)
theorem qGO (hc:X.calm=true) (hm:X.mg "max" = none) (hg:Gl X "max" := by rfl) (he:starEach (e::es) X.env=(false,eval e X.env)::starEach es X.env:=by rfl) (hpl:(backTo pos (starEach es X.env)).any (·.1)=false:=by rfl):VE X E (.Call (.Name "max" p) (e::es) [] pos) (qI qDp ta) :=
 WZ (qCq hc) qIs hg hm Boot.«max» ha (he:=he) (hpl:=hpl)
theorem qGZ (hc:X.calm=true) (hm:X.mg "min" = none) (hg:Gl X "min" := by rfl) (he:starEach (e::es) X.env=(false,eval e X.env)::starEach es X.env:=by rfl) (hpl:(backTo pos (starEach es X.env)).any (·.1)=false:=by rfl):VE X E (.Call (.Name "min" p) (e::es) [] pos) (qI qEE ta) :=
 WZ (qDL hc) qJj hg hm Boot.«min» ha (he:=he) (hpl:=hpl)
theorem wW (hm:X.mg "tuple" = none) (hg:Gl X "tuple" := by rfl) (he:starEach (e::es) X.env=(false,eval e X.env)::starEach es X.env:=by rfl) (hpl:(backTo pos (starEach es X.env)).any (·.1)=false:=by rfl):VE X E (.Call (.Name "tuple" p) (e::es) [] pos) (qI wL ta) :=
 jO Yw qFV hg hm Boot.«tuple» ha (he:=he) (hpl:=hpl)
theorem qGx (hm:X.mg "int" = none) (hg:Gl X "int" := by rfl) (he:starEach (e::es) X.env=(false,eval e X.env)::starEach es X.env:=by rfl) (hpl:(backTo pos (starEach es X.env)).any (·.1)=false:=by rfl):VE X E (.Call (.Name "int" p) (e::es) [] pos) (qI qFI ta) :=
 jO qDT qJh hg hm Boot.«int» ha (he:=he) (hpl:=hpl)
end
theorem Z1 {p:Pos} (hm:X.mg "list" = none) (ha:VE X E e f) (hg:Gl X "list" := by rfl) (he:starEach [e] X.env=(false,eval e X.env)::starEach [] X.env:=by rfl) (hpl:(backTo pos (starEach [] X.env)).any (·.1)=false:=by rfl):VN X E (.Call (.Name "list" p) [e] [] pos) (yV f) :=
 qHV hg hm Boot.«list» ha he hpl
def z8 (fa fb:FE):FL:=fun r st=>(fa r st).bind fun p s1=>(fb r s1).bind fun q s2=>match asL s2 p with
 |some l=>match asL s2 q with
  |some m=>if l.length + m.length≤sizeLine then .ok (l++m) s2 else .no
  |none => .no
 |none => .no
theorem ZC (ha:VE X E a fa) (hb:VE X E c fb):VN X E (.BinOp a .Add c pos) (z8 fa fb):=PE.imp (qHi qGs ha hb) fun s H Q ⟨b,r,st,S,R,P⟩ =>
 ⟨b,r,st,S,R,PostE.bindN P fun p s1 u H1 b1 e1 S1 r1 P1=>⟨b1,r,s1,S1,R.ext e1,PostE.bindN P1 fun q s2 v H2 b2 e2 S2 r2 P2=>by
  split at P2
  ·rename_i l el;split at P2
   ·rename_i m em;split at P2
    ·rename_i hl;obtain ⟨x,xs,rfl,h2,h3⟩:=wA S2 (RV.ext e2 p r1) el;obtain ⟨y,ys,rfl,h4,h5⟩:=wA S2 r2 em;exact ⟨x,y,xs,ys,rfl,rfl,h2,h4,by rw [← h3.length,← h5.length];exact hl,fun z hz=>PostN.lay P2 S2 (h3.append h5) hz⟩
    ·exact P2.elim
   ·exact P2.elim
  ·exact P2.elim⟩⟩
end
section
variable {X:Cx} {E:XK} {e a c d:Expr} {es:List Expr} {f fa fb fc:FE} {fl:FL} {pos:Pos} {F G:FS}
def Wc:PV->PV->qB->Rs PV:=fun p q st=>match p,q with
 | .tup l,.tup m=>if l.length + m.length≤sizeLine then .ok (.tup (l++m)) st else .no
 |_,_ => .no
theorem WU (ha:VE X E a fa) (hb:VE X E c fb):VE X E (.BinOp a .Add c pos) (qN Wc fa fb):=Z4 qFi (fun H b st p q u v Q S rp rq P=>by
 unfold Wc at P;split at P
 ·rename_i l m;split at P
  ·rename_i hl;have rp0:=rp;have rq0:=rq;unfold RV at rp rq;obtain ⟨x,xs,rfl,h2,h3⟩:=rp;obtain ⟨y,ys,rfl,h4,h5⟩:=rq;have n1:=h3.length;have n2:=h5.length;refine ⟨x,y,xs,ys,rfl,rfl,h2.sq,h4.sq,by rw [← n1,← n2];exact hl,fun z => ?_,fun _ z => ?_,fun _ _ w hw=>PostE.layT P S (h3.append h5) hw⟩
   ·have:l=[]:=List.length_eq_zero_iff.mp (by rw [n1,z];rfl)
    subst this;exact PostE.here P S rq0
   ·have:m=[]:=List.length_eq_zero_iff.mp (by rw [n2,z];rfl)
    subst this;rw [BA] at P;exact PostE.here P S rp0
  ·exact P.elim
 ·exact P.elim) ha hb
abbrev FO:=qv->qB->Rs (Option Int)
def PostO (K:W.Frag) (E:XK) (H:Hp) (b:Bz) (r:Rs (Option Int)) (Q:Option Int->Hp->Prop):Prop:=match r with
 | .ok k st => ∀ H' b',Ext H b H' b'->SR K H' b' st->Q k H'
 | .ex x st=>XP K E H b x st
 | .no=>False
def rdO (K:W.Frag) (E:XK) (f:FO):TO:=fun s H Q => ∃ b r st,SR K H b st∧REnv K H b r s∧PostO K E H b (f r st) Q
abbrev VO (X:Cx) (E:XK) (e:Option Expr) (f:FO):Prop:=PO X e (rdO X.K E f)
def Qv:FO:=fun _ st => .ok none st
def Qg (f:FE):FO:=fun r st=>(f r st).bind fun p s=>match p with
 | .int i => .ok (some i) s
 |_ => .no
theorem wM:VO X E none Qv:=fun pins s σ H Q I ⟨b,r,st,S,R,P⟩=>qF9 pins s σ H Q I (P H b (Ext.refl _ _) S)
theorem wB (h:VE X E e f):VO X E (some e) (Qg f):=fun pins s σ H Q I ⟨b,r,st,S,R,P⟩=>qHQ h pins s σ H Q I ⟨b,r,st,S,R,by
 unfold Qg at P;cases ef:f r st with
 |no=>rw [ef] at P;exact P.elim
 |ex x s1=>rw [ef] at P;exact P
 |ok p s1 =>
  rw [ef] at P;intro v H1 b1 e1 S1 r1;dsimp only [Rs.bind] at P;split at P
  ·rename_i i;unfold RV at r1;exact ⟨i,r1,P H1 b1 e1 S1⟩
  ·exact P.elim⟩
def wl (l:List PV) (lo hi:Option Int):List PV:=(l.drop (HT.sIx l.length 0 lo)).take (HT.sIx l.length l.length hi - HT.sIx l.length 0 lo)
def ZL (f:FE) (lo hi:FO):FE:=fun r st=>(f r st).bind fun p s1=>(lo r s1).bind fun a s2=>(hi r s2).bind fun c s3=>match p with
 | .tup l => .ok (.tup (wl l a c)) s3
 |_ => .no
theorem PostO.bind {K:W.Frag} {E:XK} {H:Hp} {b:Bz} {r:Rs (Option Int)} {k:Option Int->qB->Rs PV} {Q:VK} {R:Option Int->Hp->Prop} (P:PostE K E H b (r.bind k) Q)
  (h:∀ p st H1 b1,Ext H b H1 b1->SR K H1 b1 st->PostE K E H1 b1 (k p st) Q->R p H1):PostO K E H b r R:=by
 cases r with
 |ok p st=>exact fun H1 b1 e S=>h p st H1 b1 e S (PostE.ext (show PostE K E H b (k p st) Q from P) e)
 |ex x st=>exact P
 |no=>exact P
theorem Wp {lo hi:Option Expr} {flo fhi:FO} {p2:Pos} (h:VE X E e f) (hl:VO X E lo flo) (hh:VO X E hi fhi):VE X E (.Subscript e (.Slice lo hi none p2) pos) (ZL f flo fhi) :=
 PE.imp (J8 (sl_tup.or qEC) h hl hh) fun s H Q ⟨b,r,st,S,R,P⟩=>⟨b,r,st,S,R,PostE.bind P fun p s1 u H1 b1 e1 S1 r1 P1=>⟨b1,r,s1,S1,R.ext e1,PostO.bind P1 fun k s2 H2 b2 e2 S2 P2=>⟨b2,r,s2,S2,(R.ext e1).ext e2,PostO.bind P2 fun m s3 H3 b3 e3 S3 P3=>by
  split at P3
  ·rename_i l;have r3:=RV.ext e3 _ (RV.ext e2 _ r1);have r0:=r3;unfold RV at r3;obtain ⟨x,xs,rfl,h2,h3⟩:=r3;have hlen:=h3.length;by_cases hw:HT.sIx xs.length 0 k=0∧HT.sIx xs.length xs.length m=xs.length
   ·refine .inr ⟨x,xs,rfl,h2.sq,hw.1,hw.2,?_⟩
    have:wl l k m=l:=by unfold wl;rw [hlen,hw.1,hw.2,List.drop_zero,Nat.sub_zero,← hlen,List.take_length]
    rw [this] at P3;exact PostE.here P3 S3 r0
   ·refine .inl ⟨x,xs,rfl,h2.sq,hw,fun z hz => ?_⟩;have hc:RVs X.K H3 b3 (wl l k m) (Y5 xs k m):=by unfold wl Y5;rw [hlen];exact (h3.drop _).take _
    exact PostE.layT P3 S3 hc hz
  ·exact P3.elim⟩⟩⟩
def zK (fo f:FE):FS:=fun r st=>(fo r st).bindS fun o s1=>match o with
 | .ref n=>if lk s1 (.ref n)=true then (f r s1).bindS fun p s2=>match s2[n]? with
  |some (.l xs)=>if xs.length < sizeLine then .nx r (s2.set n (.l (xs++[p]))) else .no
  |_ => .no else .no
 |_ => .no
theorem jV {fo:FE} {o:Expr} {apos cpos:Pos} (ho:VE X E o fo) (h:VE X E e f) (hs:swapsWith (.Call (.Attribute o "append" apos) [e] [] cpos) none pos.line X.env=pure false:=by rfl)
  (hbase:attributeBase o "append" X.env (eval o X.env)=eval o X.env:=by rfl)
  (hfew:((backTo cpos (starEach [e] X.env)).all (fun x => !x.1)&&(backToKw cpos (keywordEach [] X.env)).all (fun x=>x.1.isSome)&&decide ([e].length + ([]:List Keyword).length + (if ([]:List Keyword).isEmpty then 0 else 1) < 30))=true:=by rfl)
  (hline:(apos.endLine==cpos.line)=true:=by rfl) (h1:starEach [e] X.env=(false,eval e X.env)::starEach [] X.env:=by rfl) (hplain:(backTo cpos (starEach [] X.env)).any (·.1)=false:=by rfl) :
  VS X E (.Expr (.Call (.Attribute o "append" apos) [e] [] cpos) pos) (zK fo f) :=
 PS.imp (jy (qFr PySem.F.plainAttrs_list PySem.F.slot_list_append PySem.F.type_list_append jF ho (zY h Z9 h1) hbase hfew hline h1 hplain) hs) fun D s H ⟨b,r,st,S,R,P⟩=>⟨b,r,st,S,R,PostE.bindS P fun o s1 u H1 b1 e1 S1 r1 P1=>by
  have key:∀ {n:Nat},o = .ref n->lk s1 (.ref n)=true->tyV X.K "list" u H1:=fun {n} ho hlk=>by
   subst ho;unfold RV at r1;obtain ⟨x,rfl,hx⟩:=r1;have hl:n < s1.length:=by rw [← S1.len];exact (AQ.mp hx).1
   obtain ⟨a',o',h3,h4,h5⟩:=S1.at_ n _ (AL hl);rw [hx] at h3;cases h3;cases hq:s1[n] with
   |l xs=>rw [hq] at h5;obtain ⟨vs,e,_⟩:=h5;subst e;exact .inl ⟨rfl,vs,SqL.of h4⟩
   |z xs=>unfold lk at hlk;dsimp only at hlk;rw [AL hl,hq] at hlk;cases hlk
   |d xs=>unfold lk at hlk;dsimp only at hlk;rw [AL hl,hq] at hlk;cases hlk
  cases o with
  |ref n =>
   have P1:PostS X.K E H1 b1 (if lk s1 (.ref n)=true then ((f r s1).bindS fun p s2=>match s2[n]? with |some (.l xs)=>if xs.length < sizeLine then .nx r (s2.set n (.l (xs++[p]))) else .no |_ => .no) else .no) D:=P1;by_cases hlk:lk s1 (.ref n)=true
   rotate_left
   ·rw [AJ hlk] at P1;exact P1.elim
   rw [AF hlk] at P1;refine ⟨key rfl hlk,b1,r,s1,S1,R.ext e1,?_⟩;cases eb:f r s1 with
   |no=>rw [eb] at P1;exact P1.elim
   |ex x s2=>rw [eb] at P1;exact P1
   |ok p s2 =>
    rw [eb] at P1;intro v H2 b2 e2 S2 r2;have P2:PostS X.K E H1 b1 (match s2[n]? with |some (.l xs)=>if xs.length < sizeLine then .nx r (s2.set n (.l (xs++[p]))) else .no |_ => .no) D:=P1;split at P2
    ·rename_i xs ex;split at P2
     ·rename_i hl;have r1':=RV.ext e2 _ r1;unfold RV at r1';obtain ⟨x,rfl,hx⟩:=r1';obtain ⟨x',o',h1,h2,vs,rfl,h4⟩:=S2.at_ n _ ex;rw [hx] at h1;cases h1;refine ⟨x,vs,v,rfl,rfl,h2,by rw [← h4.length];exact hl,?_⟩
      have hm:x∈b2.b:=Ar hx;have ew:Ext H2 b2 (upd H2 x (.lst (vs++[v]))) b2:=Ext.wr hm S2.zb (qHB h2);exact P2 s _ b2 (e2.trans ew) (S2.wr (x := .l (xs++[p])) hx ⟨_,rfl,(RVs.ext ew xs h4).append (RVs.cons (RV.ext ew p r2) RVs.nil)⟩) (((R.ext e1).ext e2).ext ew)
     ·exact P2.elim
    ·exact P2.elim
  |_=>exact P1.elim⟩
def qDK (p:PV):List PV->Option Nat
 |[]=>none
 |q::qs=>if peq q p=true then some 0 else (qDK p qs).map (· + 1)
theorem jb (p:PV):∀ {l:List PV} {j:Nat},qDK p l=some j->(∃ q,l[j]? = some q∧peq q p=true) ∧ ∀ m,m < j -> ∃ q,l[m]? = some q∧peq q p=false
 |[],_,h=>by cases h
 |q::qs,j,h=>by
  unfold qDK at h;split at h
  ·rename_i hq;cases h;exact ⟨⟨q,rfl,hq⟩,fun m hm=>by omega⟩
  ·rename_i hq;cases e:qDK p qs with
   |none=>rw [e] at h;cases h
   |some k =>
    rw [e] at h;cases h;obtain ⟨⟨q',h1,h2⟩,h3⟩:=jb p e;refine ⟨⟨q',by simpa using h1,h2⟩,fun m hm => ?_⟩
    cases m with
    |zero=>exact ⟨q,rfl,by simpa using hq⟩
    |succ m=>obtain ⟨q2,h4,h5⟩:=h3 m (by have hm:m + 1 < k + 1:=hm;omega);exact ⟨q2,by simpa using h4,h5⟩
theorem qIm {pins:List (Addr×Obj)} {σ:L2.St} {H:Hp} {s:Shared} (I:L2.Inv X pins σ H s) {A:Around} {p:PV} {u:V} {uu:Value} (hp:RW X.K H p u) (ru:RelV u uu) (hA:A.units + 60 < cLine)
  {l:List PV} {xs:List V} {its:List Value} (hl:RWs X.K H l xs) (vl:Vals xs its) (hd:deps l≤ym):∃ g:Value->Bool,(∀ y∈its,SeqAt.EqAt A s y uu (g y)) ∧ ∀ (i:Nat) (q:PV) (y:Value),l[i]? = some q->its[i]? = some y->g y=peq q p:=by
 classical
 have key:∀ (q:PV) (x:V) (y:Value),RW X.K H q x->RelV x y->decide (∃ q x,RW X.K H q x∧RelV x y∧peq q p=true)=peq q p:=fun q x y h1 h2=>by
  by_cases hb:peq q p=true
  ·rw [hb];exact Af ⟨q,x,h1,h2,hb⟩
  ·rw [show peq q p=false by simpa using hb]
   refine AX fun ⟨q',x',k1,k2,k3⟩=>hb ?_;have ex:x'=x:=k2.inj h2;subst ex;rw [RW.det I q q' h1 k1];exact k3
 refine ⟨fun y=>decide (∃ q x,RW X.K H q x∧RelV x y∧peq q p=true),fun y hy => ?_,fun i q y hq hy => ?_⟩
 ·obtain ⟨i,hi⟩:=BS hy;obtain ⟨x,hx,rx⟩:=Vals.get2 vl hi;obtain ⟨q,hq,rq⟩:=RWs.get' hl hx;dsimp only;rw [key q x y rq rx];exact J3 I 60 q p x u y uu A (Ac (zH hq) hd) hA rq hp rx ru
 ·obtain ⟨x,hx,rx⟩:=Vals.get2 vl hy;obtain ⟨q',hq',rq⟩:=RWs.get' hl hx;rw [hq] at hq';cases hq';exact key q x y rq rx
theorem qEz (hr:X.A.units + 64 < cLine):MtM X "list.index" (fun x vs H Q => ∃ l xs a p v j,x = .ref a∧vs=[v]∧SqL X.K H a xs∧RWs X.K H l xs∧RW X.K H p v∧deps l≤ym∧qDK p l=some j∧Q (.int j) H):=by
 intro pins s σ H x vs v us Q I rx rv h;obtain ⟨l,xs,ad,p,y,j,rfl,rfl,hs,hl,hp,hd,hj,q⟩:=h;cases rx;obtain ⟨u,rfl,ru⟩:=rv.one;obtain ⟨its,r',pl,hz⟩:=I.list hs;obtain ⟨⟨c1,d1,a1,s1⟩,o1,e1,m1,f1⟩:=id pl.isList;have e1:c1=_:=e1;have f1:a1=_:=f1;subst e1;subst f1;have hA:X.A.in1.units + 60 < cLine:=by show X.A.units + 1 + 60 < cLine;omega
 obtain ⟨g,g1,g2⟩:=qIm I hp ru hA hl r' hd;obtain ⟨⟨q1,k1,k2⟩,k3⟩:=jb p hj;have n1:l.length=its.length:=by rw [hl.length,r'.length]
 have jl:j < l.length:=(AQ.mp k1).1;have ji:j < its.length:=by rw [← n1];exact jl
 refine call_meets F.slot_list_index ⟨_,o1,rfl⟩ F.entry_list_index (F.args_list_index_2 _ _) (SeqAt.list_indexAt ad its.toArray m1 d1 s1 u g j (by simpa using ji) ?_ ?_ fun m hm hlt => ?_) ⟨o1,fun y hy=>g1 y (by simpa using hy),⟨.int j,H,I.tok _,⟨_,rfl⟩,q⟩⟩
 ·have:its.length≤sizeLine:=by rw [← r'.length];exact hz
  have h2:(sizeLine:Nat) < 2 ^ 62:=by decide
  omega
 ·rw [show its.toArray[j]=its[j] by simp,g2 j q1 _ k1 (AL ji)];exact k2
 ·obtain ⟨q2,k4,k5⟩:=k3 m hlt;have mi:m < its.length:=by simpa using hm
  rw [show its.toArray[m]=its[m] by simp,g2 m q2 _ k4 (AL mi)];exact k5
def qKN (fo f:FE):FE:=fun r st=>(fo r st).bind fun o s1=>match asL s1 o with
 |some _=>(f r s1).bind fun p s2=>match asL s2 o with
  |some l=>if nrs l=true∧nr p=true∧deps l≤ym then (match qDK p l with |some j => .ok (.int j) s2 |none => .no) else .no
  |none => .no
 |none => .no
theorem qDt {fo:FE} {o:Expr} {apos cpos:Pos} (hr:X.A.units + 64 < cLine) (ho:VE X E o fo) (h:VE X E e f) (hbase:attributeBase o "index" X.env (eval o X.env)=eval o X.env:=by rfl)
  (hfew:((backTo cpos (starEach [e] X.env)).all (fun x => !x.1)&&(backToKw cpos (keywordEach [] X.env)).all (fun x=>x.1.isSome)&&decide ([e].length + ([]:List Keyword).length + (if ([]:List Keyword).isEmpty then 0 else 1) < 30))=true:=by rfl)
  (hline:(apos.endLine==cpos.line)=true:=by rfl) (h1:starEach [e] X.env=(false,eval e X.env)::starEach [] X.env:=by rfl) (hplain:(backTo cpos (starEach [] X.env)).any (·.1)=false:=by rfl) :
  VE X E (.Call (.Attribute o "index" apos) [e] [] cpos) (qKN fo f) :=
 PE.imp (qFr PySem.F.plainAttrs_list PySem.F.slot_list_index PySem.F.type_list_index (qEz hr) ho (zY h Z9 h1) hbase hfew hline h1 hplain) fun s H Q ⟨b,r,st,S,R,P⟩=>⟨b,r,st,S,R,PostE.bind P fun o s1 u H1 b1 e1 S1 r1 P1=>by
  split at P1
  ·rename_i l1 el1;obtain ⟨x,xs,rfl,h2,h3⟩:=wA S1 r1 el1;refine ⟨.inl ⟨rfl,xs,h2⟩,b1,r,s1,S1,R.ext e1,PostE.bind P1 fun p s2 v H2 b2 e2 S2 r2 P2 => ?_⟩;split at P2
   ·rename_i l el;split at P2
    ·rename_i hc;split at P2
     ·rename_i j hj;obtain ⟨x',ys,ex,h4,h5⟩:=wA S2 (RV.ext e2 o r1) el;cases ex;exact ⟨l,ys,x,p,v,j,rfl,rfl,h4,RVs.rws l hc.1 h5,RV.rw p hc.2.1 r2,hc.2.2,hj,PostE.here P2 S2 Qx⟩
     ·exact P2.elim
    ·exact P2.elim
   ·exact P2.elim
  ·exact P1.elim⟩
def Wl:List PV->List PV->List PV
 |x::l,y::m => .tup [x,y]::Wl l m
 |_,_=>[]
theorem J7:∀ {l m:List PV} {i:Nat} {p:PV},(Wl l m)[i]? = some p -> ∃ x y,l[i]? = some x∧m[i]? = some y∧p = .tup [x,y]
 |[],_,_,_,h=>by simp [Wl] at h
 |_::_,[],_,_,h=>by simp [Wl] at h
 |x::l,y::m,0,p,h=>⟨x,y,rfl,rfl,by simpa [Wl] using h.symm⟩
 |x::l,y::m,i + 1,p,h=>by
  obtain ⟨u,v,h1,h2,h3⟩:=J7 (l:=l) (m:=m) (i:=i) (p:=p) (by simpa [Wl] using h)
  exact ⟨u,v,by simpa using h1,by simpa using h2,h3⟩
theorem J6:∀ (l m:List PV),(Wl l m).length=min l.length m.length
 |[],m=>by simp [Wl]
 |_::_,[]=>by simp [Wl]
 |x::l,y::m=>by simp [Wl,J6 l m]
def qLO (i:Int):Str:=toString i
def qIF (f:FE):FE:=fun r st=>(f r st).bind fun p s=>match p with
 | .int i=>if i.natAbs.log2 < 1920 then .ok (.str (qLO i)) s else .no
 |_ => .no
theorem qFR (h:VE X E e f):VE X E (.FormattedValue e (-1) none pos) (qIF f):=PE.imp (qBQ h) fun s H Q ⟨b,r,st,S,R,P⟩=>⟨b,r,st,S,R,PostE.bind P fun p s1 u H1 b1 e1 S1 r1 P1=>by
 split at P1
 ·rename_i i;split at P1
  ·rename_i hi;unfold RV at r1;exact ⟨i,r1,hi,PostE.here P1 S1 (by unfold RV;rfl)⟩
  ·exact P1.elim
 ·exact P1.elim⟩
def vJ:List FE->Str->qv->qB->Rs PV
 |[],out,_,st=>if out.length≤sizeLine then .ok (.str out) st else .no
 |f::fs,out,r,st=>(f r st).bind fun p s=>match p with
  | .str y=>if (out++y).length≤sizeLine then vJ fs (out++y) r s else .no
  |_ => .no
def VJ (X:Cx) (E:XK) (es:List Expr) (fs:List FE):Prop:=PJ X es (fun out σ H Q => ∃ b r st,SR X.K H b st∧REnv X.K H b r σ∧PostE X.K E H b (vJ fs out r st) (fun v H' => ∃ x,v = .str x∧Q x H'))
theorem qJk:VJ X E [] []:=fun out pins s σ H Q I ⟨b,r,st,S,R,P⟩=>qDx out pins s σ H Q I (by
 unfold vJ at P;split at P
 ·rename_i h;obtain ⟨x,e,q⟩:=PostE.here P S (by unfold RV;rfl)
  cases e;exact ⟨h,q⟩
 ·exact P.elim)
theorem Zp {fs:List FE} (h1:VE X E e f) (h2:VJ X E es fs):VJ X E (e::es) (f::fs):=fun out pins s σ H Q I ⟨b,r,st,S,R,P⟩=>yp h1 h2 out pins s σ H Q I (by
 unfold vJ at P;refine ⟨b,r,st,S,R,PostE.bind P fun p s1 u H1 b1 e1 S1 r1 P1 => ?_⟩;split at P1
 ·rename_i y;split at P1
  ·rename_i h;unfold RV at r1;exact ⟨y,r1,h,b1,r,s1,S1,R.ext e1,P1⟩
  ·exact P1.elim
 ·exact P1.elim)
theorem qHU {e1 e2:Expr} {fs:List FE} (h:VJ X E (e1::e2::es) fs):VE X E (.JoinedStr (e1::e2::es) pos) (vJ fs Str.empty):=fun pins s σ H Q I ⟨b,r,st,S,R,P⟩=>qCL h pins s σ H Q I ⟨b,r,st,S,R,by
 cases e:vJ fs Str.empty r st with
 |ex x s1=>rw [e] at P;exact P
 |no=>rw [e] at P;exact P
 |ok p s1 =>
  rw [e] at P;intro v H' b' e' S' r';have q:=P v H' b' e' S' r';have hp:∃ y,p = .str y:=by
   have key:∀ (fs:List FE) (out:Str) (st:qB) (p:PV) (s1:qB),vJ fs out r st = .ok p s1 -> ∃ y,p = .str y:=by
    intro fs;induction fs with
    |nil=>intro out st p s1 h;unfold vJ at h;split at h;(cases h;exact ⟨_,rfl⟩);cases h
    |cons g gs ih =>
     intro out st p s1 h;unfold vJ at h;cases eg:g r st with
     |no=>rw [eg] at h;cases h
     |ex x s2=>rw [eg] at h;cases h
     |ok p2 s2 =>
      rw [eg] at h;dsimp only [Rs.bind] at h;split at h
      ·split at h
       ·exact ih _ _ _ _ h
       ·cases h
      ·cases h
   exact key _ _ _ _ _ e
  obtain ⟨y,rfl⟩:=hp;unfold RV at r';exact ⟨y,r',by rw [r'] at q;exact q⟩⟩
theorem qo {P:Program} {w:World} (X:Cx):zx (CXF P w) X E0:=fun pins σ H s e s' I h=>by obtain ⟨_,_,_,_,_,_,_,_,_,_,_,_,q⟩:=h;exact q.elim
def qq (i:Nat):FG:=fun p r=>match r[i]? with
 |some none=>some (r.set i (some p))
 |_=>none
theorem qCf {i:Nat} {p:PV} {r r':qv} (h:qq i p r=some r'):r[i]? = some none∧r'=r.set i (some p):=by
 unfold qq at h;split at h
 ·rename_i e;cases h;exact ⟨e,rfl⟩
 ·cases h
theorem QC (i:Nat) {x:Str} (hN:X.N.Nodup) (hi:X.N[i]? = some x:=by rfl) (hx:Loc X.env.scope x:=by first |exact Or.inl rfl |exact Or.inr rfl) (hf:X.fn x=true∨X.env.scope.names.lookup x=some .local:=by first |exact .inl rfl |exact .inr rfl |assumption):VG X (.Name x pos) (qq i) :=
 PG.imp (Qz i hN hi hx hf) fun v s H Q ⟨b,r,p,st,S,R,rv,r',e,q⟩=>⟨b,r,p,st,S,R,rv,r',by rw [(qCf e).2];rfl,q⟩
theorem Le.refl (r:qv):Le r r:=⟨rfl,fun _ _ h=>h⟩
theorem Le.trans {r r1 r2:qv} (h:Le r r1) (g:Le r1 r2):Le r r2:=⟨h.1.trans g.1,fun i p e=>g.2 i p (h.2 i p e)⟩
theorem qW (i:Nat):qB7 (qq i):=fun p r r' h=>by
 obtain ⟨h1,rfl⟩:=qCf h;refine ⟨by simp,fun j q e => ?_⟩
 by_cases hj:i=j
 ·subst hj;rw [h1] at e;cases e
 ·rw [BJ hj];exact e
def JP (g:FGs):Prop := ∀ p r r',g p r=some r'->Le r r'
theorem WS:JP zA:=fun p r r' h=>by
 unfold zA at h;split at h
 ·cases h;exact Le.refl _
 ·cases h
theorem QQ {g:FG} {gs:FGs} (h1:qB7 g) (h2:JP gs):JP (QL g gs):=fun p r r' h=>by
 unfold QL at h;split at h
 ·split at h
  ·rename_i r1 e;exact (h1 _ _ _ e).trans (h2 _ _ _ h)
  ·cases h
 ·cases h
theorem WP {n:Nat} {gs:FGs} (h1:JP gs):qB7 (zE n gs):=fun p r r' h=>by
 unfold zE at h;split at h
 ·split at h
  ·exact h1 _ _ _ h
  ·cases h
 ·cases h
end
structure DefG (P:Program) (w:World) (K:W.Frag) (mg:Str->Option Value) (base:Heap) (k:Nat) (x:Str) (fa:Addr) (n:Nat) (g:List PV->qB->Rs PV):Prop where
 ok:∃ fd ps,ps.length=n∧FnOk P w K mg base (CXF P w) k fa fd ps (spG K ps.length g)∧L2.Binds K fd ps [] ∧ ∀ l st,g l st ≠ .no->l.length=ps.length
 mg:mg x=some (.ref fa)
 kp:W.keepIn K (.ref fa)=true
section
variable {X:Cx} {E:XK} {e a c d:Expr} {es:List Expr} {f fa fb fc:FE} {fl:FL} {pos:Pos} {F G:FS}
theorem DefG.call {k n:Nat} {x:Str} {fa:Addr} {g:List PV->qB->Rs PV} (D:DefG X.prog X.w X.K X.mg X.base k x fa n g) (hr:Room k X.A) (hx:zx (CXF X.prog X.w) X E) (hg:Gl X x:=by rfl) (hdb:(x==("__debug__":Str))=false:=by decide):qIV X E x g:=by obtain ⟨fd,ps,_,F,B,hl⟩:=D.ok;exact qLC (n:=n) F hr hg D.mg D.kp B hx hl hdb
end
def QM (n N:Nat) (B:FS):List PV->qB->Rs PV:=fun l st=>if l.length=n then qHJ (B (QZ N l) st) else .no
theorem Wf {n N:Nat} {B:FS} {l:List PV} {st:qB} (h:QM n N B l st ≠ .no):l.length=n:=by
 unfold QM at h;split at h
 ·assumption
 ·exact absurd rfl h
section
variable {X:Cx} {E:XK} {e a c d:Expr} {f fa fb fc:FE} {pos:Pos}
def yH (f:FE):FE:=fun r st=>(f r st).bind fun p s=>match p with
 | .int i => .ok (.int (-i)) s
 |_ => .no
theorem zU (h:VE X E e f):VE X E (.UnaryOp .USub e pos) (yH f):=PE.imp (qKY qIL h) fun s H Q ⟨b,r,st,S,R,P⟩=>⟨b,r,st,S,R,PostE.bind P fun p s1 u H1 b1 e1 S1 r1 P1=>by
 split at P1
 ·rename_i i;unfold RV at r1;exact ⟨i,r1,PostE.here P1 S1 Qx⟩
 ·exact P1.elim⟩
end
theorem qCC {k:Nat} {A:Around} {v:Option Value} (h:Room k A) (hk:1≤k:=by omega):Room 1 (A.mark v) :=
 ⟨fun z=>absurd z (by decide),by have:=h.dp;show A.depth + 3 * 1 + 5 < recursionLimit;omega,by have:=h.un;show A.units + 16 * 1 + 200 < cLine;omega,h.gd⟩
theorem WD {n N m:Nat} {B:FS} {l:List PV} {s0:qB} (hl:l.length=n):Refn m (qHJ (B (QZ N l) s0)) (QM n N B l s0):=by unfold QM;rw [AF hl];exact Refn.refl
section
variable {P:Program} {w:World} {K:W.Frag} {mg:Str->Option Value} {base:Heap}
theorem Y9 {x:Str} {st:Stmt} {fa:Addr} {fd:FuncData} {N ps:List Str} {k:Nat} {B:FS} {g:List PV->qB->Rs PV} (F:Fun K x x st fa fd) (S:FnScope N ps (qJ st)) (b:L2.Binds K fd ps []) (m:mg x=some (.ref fa)) (hlen:∀ l s,g l s ≠ .no->l.length=ps.length)
  (body:∀ (cdv:Value) (A:Around) (outer:List Env) (s:Shared) (H:Hp) (E:XK),Room k (A.deeper (envOfC x (qJ st) s.heap.objs.size fa cdv))->(0 < k->A.handled=none)->VSs (Qq (CXF P w) P w K mg base N x (qJ st) fa cdv A outer s H E) E (qY st) B)
  (hg:∀ l s0,l.length=ps.length->g l s0 ≠ .no->Refn s0.length (qHJ (B (QZ N.length l) s0)) (g l s0)):DefG P w K mg base (k + 1) x fa ps.length g :=
 ⟨⟨fd,ps,rfl,okV F S fun cdv A outer s H E hr hc=>⟨B,body cdv A outer s H E hr hc,hg⟩,b,hlen⟩,m,F.kp⟩
theorem qJY {x:Str} {st:Stmt} {fa:Addr} {fd:FuncData} {ps:List Str} {k:Nat} {g:List PV->qB->Rs PV} (F:Fun K x x st fa fd) (b:L2.Binds K fd ps []) (m:mg x=some (.ref fa)) (hg:∀ l s,g l s = .no):DefG P w K mg base k x fa ps.length g:=by
 have no:∀ vs H Q E,¬ spG K ps.length g vs H Q E:=fun vs H Q E ⟨_,b,l,st,_,_,h⟩=>by rw [hg] at h;exact h
 exact ⟨⟨fd,ps,rfl,⟨fun vs H Q E h=>absurd h (no vs H Q E),fun A outer s H args us vs Q E _ _ _ _ h=>absurd h (no vs H Q E)⟩,b,fun l s h=>absurd (hg l s) h⟩,m,F.kp⟩
end
section
variable {X:Cx} {E:XK} {es:List Expr} {f:FE} {g:FA} {pos:Pos}
theorem qc {c:Const} {j:Nat} (h:VE X E (.Constant c j pos) f) (h2:VA X E es g):VA X E (.Constant c j pos::es) (qA f g):=wD h h2 rfl
theorem qO {x:Str} (h:VE X E (.Name x pos) f) (h2:VA X E es g):VA X E (.Name x pos::es) (qA f g):=wD h h2 rfl
theorem wE {a b c} (h:VE X E (.Call a b c pos) f) (h2:VA X E es g):VA X E (.Call a b c pos::es) (qA f g):=wD h h2 rfl
theorem wY {a b c} (h:VE X E (.BinOp a b c pos) f) (h2:VA X E es g):VA X E (.BinOp a b c pos::es) (qA f g):=wD h h2 rfl
theorem zj {a b} (h:VE X E (.Tuple a b pos) f) (h2:VA X E es g):VA X E (.Tuple a b pos::es) (qA f g):=wD h h2 rfl
theorem qKW {a} (h:VE X E (.List a pos) f) (h2:VA X E es g):VA X E (.List a pos::es) (qA f g):=wD h h2 rfl
theorem Yx {a b} (h:VE X E (.Subscript a b pos) f) (h2:VA X E es g):VA X E (.Subscript a b pos::es) (qA f g):=wD h h2 rfl
theorem qAR {a b} (h:VE X E (.UnaryOp a b pos) f) (h2:VA X E es g):VA X E (.UnaryOp a b pos::es) (qA f g):=wD h h2 rfl
theorem qLP {a b c} (h:VE X E (.Compare a b c pos) f) (h2:VA X E es g):VA X E (.Compare a b c pos::es) (qA f g):=wD h h2 rfl
theorem Zv {a b c} (h:VE X E (.ListComp a b c pos) f) (h2:VA X E es g):VA X E (.ListComp a b c pos::es) (qA f g):=wD h h2 rfl
theorem qLD {a} (h:VE X E (.JoinedStr a pos) f) (h2:VA X E es g):VA X E (.JoinedStr a pos::es) (qA f g):=wD h h2 rfl
theorem qLA {a b c} (h:VE X E (.IfExp a b c pos) f) (h2:VA X E es g):VA X E (.IfExp a b c pos::es) (qA f g):=wD h h2 rfl
theorem qK5 {a b} (h:VE X E (.BoolOp a b pos) f) (h2:VA X E es g):VA X E (.BoolOp a b pos::es) (qA f g):=wD h h2 rfl
end
section
variable {X:Cx} {E:XK} {e a c d:Expr} {es:List Expr} {f fa fb fc:FE} {fl:FL} {pos:Pos} {F G:FS}
theorem qJl:VE X E (.Dict [] [] pos) (vC .dct):=PE.imp qFP fun s H Q ⟨b,r,st,S,R,P⟩ p hp=>by refine P (.ref p) _ b (Ext.new hp) (S.new hp) ?_;unfold RV;exact ⟨p,rfl,qw,S.new_notin hp⟩
end
section
variable {X:Cx} {E:XK} {es:List Expr} {f:FE} {g:FA} {pos:Pos}
theorem qKz {a b} (h:VE X E (.Dict a b pos) f) (h2:VA X E es g):VA X E (.Dict a b pos::es) (qA f g):=wD h h2 rfl
end
end EV
end
section
namespace Att
open PySem PySem.W PySem.Calls PyProof.Rows
theorem Ys:∀ {ns:List Int} {n:Int},n∈ns->WData.weight (.int n)≤WData.weightAll (ns.map WData.int)
 |m::ns,n,h=>by
  show _≤WData.weight (.int m) + 1 + WData.weightAll (ns.map WData.int);rcases AD.mp h with rfl |h
  ·omega
  ·have:=Ys h;omega
theorem qAW {ns:List Int} (h:WData.layableAll [WData.list (ns.map WData.int)]=true):∀ n∈ns,Builtin.Int.intBits n≤2 ^ 20:=by
 intro n hn;unfold WData.layableAll at h;have h1:WData.layable (WData.list (ns.map WData.int))=true:=by simpa using h
 unfold WData.layable at h1;rw [Ab] at h1;have h2:WData.weight (WData.list (ns.map WData.int))≤2 ^ 20:=of_decide_eq_true h1.2;have h3:WData.weightAll (ns.map WData.int)≤2 ^ 20:=h2;exact Ac (Ys hn) h3
theorem attach_callB {l:OpenLaw} {n:Nat} {q:Program} {loose:List Str} {XP:(Str->Option Value)->Heap->Prop} {YP:World->Heap->Prop} {d:DefRec}
  (hn:l.most=some n) (hdf:d.params.defaults=[])
  (call:∀ (w:World) (s₀ s₁:Shared) (mg mb:Str->Option Value) (fa:Addr) (o:Obj) (pm cd doc:Value) (a:Addr) (vs:List Value) (ns:List Int),
   Ground q loose [] XP w s₀ mg mb s₁.heap->YP w s₁.heap ->
   s₁.heap.get? fa=some o->o.data = .func (docDef d.name d.params d.body d.scope pm cd doc)->s₁.heap.CodeRec cd d.name->mg d.name=some (.ref fa) ->
   s₁.heap.get? a=some { cls := .type "list",data := .seq vs.toArray }->IntsAre vs ns->ns.length≤n->(∀ k∈ns,Builtin.Int.intBits k≤2 ^ 20)->s₁.gens = #[] ->
   codeAny (model l.prog w) callerA (.call (.ref fa) ⟨[.ref a],[]⟩) (fun r s'=>r = .ok (.ret (.bool true))∧OldK s₁.heap s'.heap∧s'.os=s₁.os∧AllBare s'.gens) s₁) :
  WalkO q loose XP YP l.row.toRowW d [] (fun f vs=>PySem.call f vs):=by intro w s₀ s₁ mg mb G Y fa o pm cd doc dV kV ho hd hcd hD hmg hg args vals as hpre hlay hrd hwl hlo;obtain rfl:dV = .none:=Dflts.none hD hdf;obtain rfl:kV = .none:=Dflts.noKw hD;obtain ⟨a,vs,ns,rfl,rfl,hobj,hints,hlen⟩:=qDY hn hpre hwl;refine enter_call (codeAny_mono (call w s₀ s₁ mg mb fa o pm cd doc a vs ns G Y ho (fd_plain hd) hcd hmg hobj hints hlen (qAW hlay) hg) fun r s' hq => ?_);obtain ⟨rfl,h2,h3,h4⟩:=hq;exact ⟨.inl ⟨.bool true,.bool true,[],rfl,fun _=>rfl,.bool true,qDI l _,fun _=>⟨List.Pairwise.nil,fun _ hm=>(nomatch hm)⟩⟩,h2,h3,h4⟩
end Att
end
section
namespace EX
open PySem PySem.Spec PyProof.Rows L2
end EX
namespace EV
open PySem PySem.Spec PyProof.Rows L2 EX
end EV
end
section
namespace HT
open PySem PySem.Spec PyProof.Rows L2
section
variable {prog:Program} {w:World} {A:Around} {E:Value->Shared->Prop} {s:Shared}
def cutS {α:Type} (l:List α) (lo hi:Option Int) (st:Int):List α :=
 (List.range (Builtin.Slice.slicePlaces (Builtin.Slice.sliceAdjust lo hi st l.length).1 (Builtin.Slice.sliceAdjust lo hi st l.length).2 st)).filterMap fun (m:Nat)=>l[((Builtin.Slice.sliceAdjust lo hi st l.length).1 + (m:Int) * st).toNat]?
theorem Zn {sl:Addr} {vl vu vs:Value} {lo hi:Option Int} {st:Int} {n:Nat} {Q:Int×Int×Nat->Shared->Prop} (hs:s.heap.IsSliceOf sl vl vu vs) (pl:IsPart vl lo) (pu:IsPart vu hi) (ps:IsPart vs (some st)) (h0:st≠0)
  (h:Q ((Builtin.Slice.sliceAdjust lo hi st n).1,st,Builtin.Slice.slicePlaces (Builtin.Slice.sliceAdjust lo hi st n).1 (Builtin.Slice.sliceAdjust lo hi st n).2 st) s):wpAny (model prog w) A (Builtin.Slice.sliceApplied (.ref sl) (pure (n:Int))) Q E s:=by
 obtain ⟨os,hos,hcs,hds⟩:=id hs;unfold Builtin.Slice.sliceApplied Builtin.Slice.sliceFields;refine AA (AA (Am hos hds (x:=vl) rfl (AA (Am hos hds (x:=vu) rfl (AA (Am hos hds (x:=vs) rfl (AB ?_)))))));refine AA (Wk ps ?_);show wpAny _ _ (if (st==0)=true then _ else _) _ _ s;rw [AJ (by simpa using h0)]
 refine AA (Wk pl (AA (Wk pu (AA (AB ?_)))));exact AB h
theorem getItem_tuple_step {t sl:Addr} {items:Array Value} {vl vu vs:Value} {lo hi:Option Int} {st:Int} {Q:Value->Shared->Prop} (ht:IsTup s.heap t items) (hs:s.heap.IsSliceOf sl vl vu vs) (pl:IsPart vl lo) (pu:IsPart vu hi) (ps:IsPart vs (some st)) (h0:st < 0)
  (h:Q (.ref s.heap.objs.size) { s with heap:=s.heap.push { cls := .type "tuple",data := .seq (cutS items.toList lo hi st).toArray } })
  (hsz:(cutS items.toList lo hi st).length≤sizeLine):wpAny (model prog w) A (getItem (.ref t) (.ref sl)) Q E s:=by
 have htake:sizeOk (.seq (cutS items.toList lo hi st).toArray):=by show (cutS items.toList lo hi st).toArray.size≤sizeLine;rw [AO];exact hsz
 obtain ⟨os,hos,hcs,hds⟩:=id hs;have hTs:s.TypeIs (.ref sl) "slice" := ⟨os,hos,hcs⟩;unfold getItem;try with_reducible refine Ae ?_
 first |refine AA (AB ?_) |skip
 refine AA (wpAny_sequenceKey ht.typeIs (by decide) ?_)
 refine AA (Ay (name:=Str.ofString "__getitem__") ht.typeIs BH
  (A2 BH ht.typeIs entry_tuple_getitem ?_ (args_tuple_getitem _ _)))
 show wpAny _ _ (Builtin.Tuple.tupleItemsOf (.ref t) >>= _) _ _ s;refine AA (tupleItemsOf_ ht ?_);refine AA (BZ hTs ?_);rw [AF (by decide)]
 refine AA (Zn hs pl pu ps (by omega) ?_)
 have hno:¬ (((Builtin.Slice.sliceAdjust lo hi st items.size).1==0&&st==1&&Builtin.Slice.slicePlaces (Builtin.Slice.sliceAdjust lo hi st items.size).1 (Builtin.Slice.sliceAdjust lo hi st items.size).2 st==items.size)=true):=by intro q;rw [Ab,Ab] at q;have q1:st=1:=eq_of_beq q.1.2;omega
 show wpAny _ _ (if ((Builtin.Slice.sliceAdjust lo hi st items.size).1==0&&st==1&&Builtin.Slice.slicePlaces (Builtin.Slice.sliceAdjust lo hi st items.size).1 (Builtin.Slice.sliceAdjust lo hi st items.size).2 st==items.size)=true then _ else _) _ _ s;rw [AJ hno];have e:((List.range (Builtin.Slice.slicePlaces (Builtin.Slice.sliceAdjust lo hi st items.size).1 (Builtin.Slice.sliceAdjust lo hi st items.size).2 st)).filterMap fun (m:Nat)=>items[((Builtin.Slice.sliceAdjust lo hi st items.size).1 + (m:Int) * st).toNat]?).toArray=(cutS items.toList lo hi st).toArray:=by unfold cutS;rw [AW];congr 2;funext m;rw [A0]
 rw [e];first
  |exact AA (m:=Builtin.Tuple.tupleExact _) (Az (AB ⟨_,rfl,AB h⟩) htake)
  |exact AA (m:=Builtin.Tuple.tupleExact _) (Az (AA (AB (AB ⟨_,rfl,AB h⟩))) htake)
  |exact AA (AA (m:=Builtin.Tuple.tupleExact _) (Az (AB (AB ⟨_,rfl,AB h⟩)) htake))
  |exact AA (AA (m:=Builtin.Tuple.tupleExact _) (Az (AB ⟨_,rfl,AB h⟩) htake))
end
end HT
namespace L2
open PySem PySem.Spec PyProof.Rows
section
variable {X:Cx} {e:Expr} {te:TE} {lo hi:Option Expr} {tl th tt:TO} {sp:Expr} {p2 pos:Pos}
theorem Vals.pick {xs:List V} {us:List Value} (r:Vals xs us) (f:Nat->Nat):∀ js:List Nat,Vals (js.filterMap fun m=>xs[f m]?) (js.filterMap fun m=>us[f m]?)
 |[] => .nil
 |j::js=>by
  have hl:=r.length;rw [BF,BF];by_cases hj:f j < xs.length
  ·obtain ⟨u,hu,ru⟩:∃ u,us[f j]? = some u∧RelV (xs[f j]) u:=by
    have hju:f j < us.length:=by rw [← hl];exact hj
    obtain ⟨x,hx,rx⟩:=EV.Vals.get2 r (AL hju);rw [AL hj] at hx;cases hx;exact ⟨_,AL hju,rx⟩
   rw [hu,AL hj];exact .cons ru (Vals.pick r f js)
  ·rw [Bo (by omega),Bo (by omega)]
   exact Vals.pick r f js
def qKu (K:W.Frag) (te:TE) (tl th tt:TO):TE:=fun σ H Q=>te σ H fun x H1=>tl σ H1 fun l H2=>th σ H2 fun u H3=>tt σ H3 fun o H4 => ∃ st a xs,o=some st∧st < 0∧x = .ref a∧SqT K H4 a xs∧(HT.cutS xs l u st).length≤sizeLine ∧ ∀ p,H4 p=none->Q (.ref p) (upd H4 p (.tup (HT.cutS xs l u st)))
theorem qCo (he:PE X e te) (hl:PO X lo tl) (hu:PO X hi th) (hp:PO X (some sp) tt):PE X (.Subscript e (.Slice lo hi (some sp) p2) pos) (qKu X.K te tl th tt):=by
 intro pins s σ H Q I h;refine Subscript_ (thn (he pins s σ H _ I h) fun v s1 ⟨x,H1,I1,r1,q1⟩ => ?_);refine wpAny_Slice (thn (hl pins s1 σ H1 _ I1 q1) fun vl s2 ⟨l,H2,I2,pl,q2⟩=>thn (hu pins s2 σ H2 _ I2 q2) fun vu s3 ⟨u,H3,I3,pu,q3⟩=>thn (hp pins s3 σ H3 _ I3 q3) fun vs s4 ⟨o,H4,I4,po,st,a,xs,eo,h0,ex,hx,hz,q⟩ => ?_);subst eo;subst ex;cases r1;have I5:Inv X pins σ H4 { s4 with heap:=s4.heap.push { cls := .type "slice",data := .fields #[vl,vu,vs] } }:=I4.kept (t':=s4.toks) fun b ob q=>AC _ q;obtain ⟨its,r,ht,hz2⟩:=I5.tuple hx;have hlen:=r.length;have hc:Vals (HT.cutS xs l u st) (HT.cutS its l u st):=by unfold HT.cutS;rw [← hlen];exact Vals.pick r _ _
 show wpAny (model X.prog X.w) X.A (subscriptTail e (.Slice lo hi (some sp) p2) (.ref a) (.ref s4.heap.objs.size)) (EP X pins σ Q) X.xe { s4 with heap:=s4.heap.push { cls := .type "slice",data := .fields #[vl,vu,vs] } };refine tail_any (T := "tuple") (id := "tuple.__getitem__") (ops:=[.ref a,.ref s4.heap.objs.size]) ht.typeIs ?_ (HT.getItem_tuple_step ht (Heap.IsSliceOf.new ..) pl pu po h0 ?_ ?_) (by with_unfolding_all rfl)
 ·exact PyProof.Rows.slot_tuple_getitem.lookup
 ·refine ⟨.ref _,_,I5.laid (t':=s4.toks) (o := .tup (HT.cutS xs l u st)) (fun b ob q=>AC _ q) (AM _) ?_,rfl,q _ (I5.hok.fresh (AM _))⟩;exact ⟨hz,_,hc,IsTup.new _ _⟩
 ·have:=hc.length
  rw [← this];exact hz
end
end L2
end
section
namespace EV
open PySem PySem.Spec PyProof.Rows L2 EX
section
variable {X:Cx} {E:XK} {e a c d:Expr} {es:List Expr} {f fa fb fc:FE} {fl:FL} {pos:Pos} {F G:FS}
theorem RVs.pick {K:W.Frag} {H:Hp} {b:Bz} {l:List PV} {xs:List V} (r:RVs K H b l xs) (f:Nat->Nat):∀ js:List Nat,RVs K H b (js.filterMap fun m=>l[f m]?) (js.filterMap fun m=>xs[f m]?)
 |[]=>RVs.nil
 |j::js=>by
  have hl:=r.length;rw [BF,BF];by_cases hj:f j < l.length
  ·obtain ⟨x,hx,rx⟩:=r.get (AL hj);rw [hx,AL hj];exact RVs.cons rx (RVs.pick r f js)
  ·rw [Bo (by omega),Bo (by omega)]
   exact RVs.pick r f js
def qCi (f:FE) (lo hi sp:FO):FE:=fun r st=>(f r st).bind fun p s1=>(lo r s1).bind fun a s2=>(hi r s2).bind fun c s3=>(sp r s3).bind fun o s4=>match p,o with
 | .tup l,some k=>if k < 0∧(HT.cutS l a c k).length≤sizeLine then .ok (.tup (HT.cutS l a c k)) s4 else .no
 |_,_ => .no
theorem qHA {lo hi:Option Expr} {sp:Expr} {flo fhi fsp:FO} {p2:Pos} (h:VE X E e f) (hl:VO X E lo flo) (hh:VO X E hi fhi) (hs:VO X E (some sp) fsp):VE X E (.Subscript e (.Slice lo hi (some sp) p2) pos) (qCi f flo fhi fsp) :=
 PE.imp (qCo h hl hh hs) fun s H Q ⟨b,r,st,S,R,P⟩=>⟨b,r,st,S,R,PostE.bind P fun p s1 u H1 b1 e1 S1 r1 P1=>⟨b1,r,s1,S1,R.ext e1,PostO.bind P1 fun k s2 H2 b2 e2 S2 P2=>⟨b2,r,s2,S2,(R.ext e1).ext e2,PostO.bind P2 fun m s3 H3 b3 e3 S3 P3=>⟨b3,r,s3,S3,((R.ext e1).ext e2).ext e3,PostO.bind P3 fun o s4 H4 b4 e4 S4 P4=>by
  split at P4
  ·rename_i l k';split at P4
   ·rename_i hc;have r3:=RV.ext e4 _ (RV.ext e3 _ (RV.ext e2 _ r1));unfold RV at r3;obtain ⟨x,xs,rfl,h2,h3⟩:=r3;have hlen:=h3.length;have hr:RVs X.K H4 b4 (HT.cutS l k m k') (HT.cutS xs k m k'):=by unfold HT.cutS;rw [← hlen];exact RVs.pick h3 _ _
    exact ⟨k',x,xs,rfl,hc.1,rfl,h2.sq,by rw [← hr.length];exact hc.2,fun z hz=>PostE.layT P4 S4 hr hz⟩
   ·exact P4.elim
  ·exact P4.elim⟩⟩⟩⟩
end
end EV
end
section
namespace EV
open PySem PySem.Spec PyProof.Rows L2
end EV
namespace EV
open PySem PySem.Spec PyProof.Rows L2
end EV
end
section
namespace EX
open PySem PySem.Spec PyProof.Rows L2
def Src (b:Bool) (i l:Addr) (xs:Array Value) (k:Nat) (h:Heap):Prop:=match b with
 |true=>h.IsTupleIter i l k∧h.IsTuple l xs
 |false=>h.IsListIter i l k∧h.IsList l xs
theorem Src.keep {b:Bool} {i l:Addr} {xs:Array Value} {k:Nat} {h h':Heap} (S:Src b i l xs k h) (e1:∀ o,h.get? i=some o->h'.get? i=some o) (e2:∀ o,h.get? l=some o->h'.get? l=some o):Src b i l xs k h':=by
 cases b
 ·exact ⟨S.1.at e1,S.2.at e2⟩
 ·exact ⟨S.1.at e1,S.2.at e2⟩
theorem Src.but {b:Bool} {i l c:Addr} {xs:Array Value} {k:Nat} {h h':Heap} (S:Src b i l xs k h) (e:Heap.ExtBut c h h') (n1:i≠c) (n2:l≠c):Src b i l xs k h':=S.keep (fun o q=>e _ o n1 q) fun o q=>e _ o n2 q
section
variable {prog:Program} {w:World} {A:Around} {E:Value->Shared->Prop} {s:Shared}
theorem Src.item {b:Bool} {i l:Addr} {xs:Array Value} {k:Nat} {x:Value} {Q:Value->Shared->Prop} (S:Src b i l xs k s.heap) (hne:l≠i) (hx:xs[k]? = some x)
  (hQ:∀ h',Src b i l xs (k + 1) h'->Heap.SameBut i s.heap h'->Q x { s with heap:=h' }):wpAny (model prog w) A (Builtin.SmallTypes.nextOf (.ref i)) Q E s:=by
 cases b
 ·exact wpAny_nextOf_list_item S.1 S.2 hx fun h' a1 a2=>hQ h' ⟨a1,S.2.extBut a2.extBut hne⟩ a2
 ·obtain ⟨hit,ht⟩:=S;obtain ⟨o,ho,hc,hd⟩:=id hit;obtain ⟨ol,hol,_,nl,hdl⟩:=id ht;unfold Builtin.SmallTypes.nextOf;refine AA (Ay (name:=Str.ofString "__next__") hit.typeIs BT
   (A2 BT hit.typeIs F.entry_tuple_iterator_next ?_ (F.args_tuple_iterator_next_1 _)))
  show wpAny _ _ (field (.ref i) 0 >>= _) _ _ s;refine AA (Am ho hd (x := .ref l) rfl ?_);show wpAny _ _ (if (Value.ref l==Value.none)=true then _ else _) _ _ s;rw [AJ (show ¬ ((Value.ref l==Value.none)=true) from BO)];show wpAny _ _ (field (.ref i) 1 >>= _) _ _ s;refine AA (Am ho hd (x := .int k 0) rfl ?_);show wpAny _ _ (seqItems? (.ref l) >>= _) _ _ s;refine AA (BM hol hdl ?_);simp only [BW,hx];refine AA (BL ho hd (by simp) (AB ⟨x,rfl,AB (hQ _ ⟨?_,ht.extBut (Ca ..).extBut hne⟩ (Ca ..))⟩))
  exact ⟨_,As _ ho (Bn (A9 hd _)),(CI ..).trans hc,by
   rw [A9 hd];simp [rawInt]⟩
theorem Src.over {b:Bool} {i l:Addr} {xs:Array Value} {k:Nat} {Q:Value->Shared->Prop} (hh:A.handled=none) (S:Src b i l xs k s.heap) (hx:xs[k]? = none)
  (hE:∀ h' e,Heap.ExtBut i s.heap h'->(∃ o,h'.get? e=some o∧o.cls = .type "StopIteration")->E (.ref e) { s with heap:=h' }):wpAny (model prog w) A (Builtin.SmallTypes.nextOf (.ref i)) Q E s:=by
 cases b
 ·exact wpAny_nextOf_list_end hh S.1 S.2 hx hE
 ·obtain ⟨hit,ht⟩:=S;obtain ⟨o,ho,hc,hd⟩:=id hit;obtain ⟨ol,hol,_,nl,hdl⟩:=ht;unfold Builtin.SmallTypes.nextOf;refine AA (Ay (name:=Str.ofString "__next__") hit.typeIs BT
   (A2 BT hit.typeIs F.entry_tuple_iterator_next ?_ (F.args_tuple_iterator_next_1 _)))
  show wpAny _ _ (field (.ref i) 0 >>= _) _ _ s;refine AA (Am ho hd (x := .ref l) rfl ?_);show wpAny _ _ (if (Value.ref l==Value.none)=true then _ else _) _ _ s;rw [AJ (show ¬ ((Value.ref l==Value.none)=true) from BO)];show wpAny _ _ (field (.ref i) 1 >>= _) _ _ s;refine AA (Am ho hd (x := .int k 0) rfl ?_);show wpAny _ _ (seqItems? (.ref l) >>= _) _ _ s;refine AA (BM hol hdl ?_);simp only [BW,hx];refine AA (B7 (AA (BL ho hd (by simp) ?_)))
  show wpAny _ _ (newExc (.type "StopIteration") [] >>= _) _ _ _;refine AA ?_;simp only [newExc,newTuple];refine AA (Az ?_ (by size_fits))
  refine AA (m:=firstArgMember _ _) (Ah (a:=Value.none) (by first |rfl |(simp only [firstArgMember];rfl)) ?_)
  refine Az ?_ (by size_fits)
  simp only [raiseNew];refine AA (wpAny_handled ?_);first |rw [show A.in1.handled=none from hh] |rw [hh]
  refine AA (AB (wpAny_throw ?_));exact hE _ _ (((Ca ..).extBut.push _).push _) ⟨_,AT _ rfl,rfl⟩
theorem qCu {b1 b2:Bool} {z TI TO i1 i2 l1 l2:Addr} {k:Nat} {xs ys:Array Value} {x y a b:Value} {Q:Option Value->Shared->Prop} (D:ZipApart z TI TO i1 i2 l1 l2)
  (hz:IsZip s.heap z TI TO .none) (hTI:IsPair s.heap TI (.ref i1) (.ref i2)) (hTO:IsPair s.heap TO a b) (h1:Src b1 i1 l1 xs k s.heap) (h2:Src b2 i2 l2 ys k s.heap) (hx:xs[k]? = some x) (hy:ys[k]? = some y)
  (hQ:∀ h',IsZip h' z TI TO (rawInt s.heap.objs.size)->IsPair h' TO x y->Src b1 i1 l1 xs (k + 1) h'->Src b2 i2 l2 ys (k + 1) h'->IsPair h' s.heap.objs.size x y ->
   (∀ c o,c≠z->c≠TO->c≠i1->c≠i2->s.heap.get? c=some o->h'.get? c=some o)->Q (some (.ref s.heap.objs.size)) { s with heap:=h' }) :
  wpAny (model prog w) A (pyNext (.ref z)) Q E s:=by
 have hT:s.TypeIs (.ref z) "zip" := ⟨_,hz,rfl⟩;unfold pyNext;refine AA (Bj (Ay (name:=Str.ofString "__next__") hT F.slot_zip_next (A2 F.slot_zip_next hT F.entry_zip_next ?_ (F.args_zip_next_1 _))));show wpAny _ _ (field (.ref z) 2 >>= _) _ _ _;refine AA (Am hz rfl (x := .bool false) rfl ?_);show wpAny _ _ (field (.ref z) 3 >>= _) _ _ _;refine AA (Am hz rfl (x := .ref TI) rfl ?_);refine AA (BM hTI rfl ?_);show wpAny _ _ (Builtin.SmallTypes.ownedTupleIsFree (.ref z) >>= _) _ _ _;refine AA ?_;unfold Builtin.SmallTypes.ownedTupleIsFree;refine AA (Am hz rfl (x := .none) rfl (AB ?_));simp only [CY];refine AA (B7 ?_);refine AA (Am hz rfl (x := .ref TO) rfl ?_);refine AA (B1 hz (by simp) fun g1 hz1 s1 => ?_)
 replace hz1:IsZip g1 z TI TO .ellipsis:=hz1;refine AA ?_;simp only [List.zipIdx_cons,List.zipIdx_nil,Cb,List.forIn_nil];refine AA (AA (wpAny_onRaise ?_));show wpAny _ _ (Builtin.SmallTypes.nextOf (.ref i1) >>= _) _ _ _;refine AA ((h1.but s1.extBut D.i1z D.l1z).item D.l1i1 hx fun g2 q1 s2=>AB ?_);have t2:IsPair g2 TO a b:=s2.extBut _ _ D.TOi1 (s1.extBut _ _ D.TOz hTO);refine AA (BM t2 rfl ?_);refine AA (wpAny_updateSeq_pair t2 fun g3 t3 s3 => ?_);replace t3:IsPair g3 TO x b:=t3;refine AA (wpAny_letGo (AB ?_));refine AA (AA (wpAny_onRaise ?_));show wpAny _ _ (Builtin.SmallTypes.nextOf (.ref i2) >>= _) _ _ _;refine AA ((((h2.but s1.extBut D.i2z D.l2z).but s2.extBut D.i12.symm D.l2i1).but s3.extBut D.TOi2.symm D.l2TO).item D.l2i2 hy fun g4 q2 s4=>AB ?_);have t4:IsPair g4 TO x b:=s4.extBut _ _ D.TOi2 t3;refine AA (BM t4 rfl ?_);refine AA (wpAny_updateSeq_pair t4 fun g5 t5 s5 => ?_);replace t5:IsPair g5 TO x y:=t5;refine AA (wpAny_letGo (AB (AB ?_)));refine AA (BM t5 rfl ?_);refine AA (wpAny_newTuple ?_);have hsz:g5.objs.size=s.heap.objs.size:=by rw [s5.1,s4.1,s3.1,s2.1,s1.1]
 have hz5:IsZip g5 z TI TO .ellipsis:=s5.extBut _ _ D.TOz.symm (s4.extBut _ _ D.i2z.symm (s3.extBut _ _ D.TOz.symm (s2.extBut _ _ D.i1z.symm hz1)));have k5:∀ c o,c≠z->c≠TO->c≠i1->c≠i2->s.heap.get? c=some o->g5.get? c=some o:=fun c o c1 c2 c3 c4 e =>
  s5.extBut _ _ c2 (s4.extBut _ _ c4 (s3.extBut _ _ c2 (s2.extBut _ _ c3 (s1.extBut _ _ c1 e))))
 have p1:Src b1 i1 l1 xs (k + 1) g5:=((q1.but s3.extBut D.TOi1.symm D.l1TO).but s4.extBut D.i12 D.l1i2).but s5.extBut D.TOi1.symm D.l1TO;have p2:Src b2 i2 l2 ys (k + 1) g5:=q2.but s5.extBut D.TOi2.symm D.l2TO;have hzlt:z < g5.objs.size:=AK hz5;show wpAny _ _ (Builtin.SmallTypes.ownedTupleHandOut (.ref z) (.ref g5.objs.size) >>= _) _ _ _;refine AA ?_;unfold Builtin.SmallTypes.ownedTupleHandOut;have hz6:IsZip (g5.push { cls := .type "tuple",data := .seq #[x,y] }) z TI TO .ellipsis:=AC _ hz5;refine AA (B1 hz6 (by simp) fun g7 hz7 s7 => ?_)
 replace hz7:IsZip g7 z TI TO (rawInt g5.objs.size):=hz7;refine B1 hz7 (by simp) fun g8 hz8 s8 => ?_
 replace hz8:IsZip g8 z TI TO (rawInt g5.objs.size):=hz8;have up:∀ c o,c≠z->g5.get? c=some o->g8.get? c=some o:=fun c o c1 e=>s8.extBut _ _ c1 (s7.extBut _ _ c1 (AC _ e));have t8:IsPair g8 g5.objs.size x y:=s8.extBut _ _ (CM hzlt) (s7.extBut _ _ (CM hzlt) (AT _ rfl));rw [hsz] at hz8 t8;refine AB ⟨_,rfl,AB ?_⟩;show Q (some (.ref g5.objs.size)) _;rw [hsz];exact hQ g8 hz8 (up _ _ D.TOz t5) (p1.keep (fun o e=>up _ o D.i1z e) fun o e=>up _ o D.l1z e) (p2.keep (fun o e=>up _ o D.i2z e) fun o e=>up _ o D.l2z e) t8 fun c o c1 c2 c3 c4 e=>up c o c1 (k5 c o c1 c2 c3 c4 e)
theorem qDS {b1 b2:Bool} {z TI TO i1 i2 l1 l2:Addr} {k:Nat} {xs ys:Array Value} {a b:Value} {Q:Fin->Shared->Prop} (hh:A.handled=none) (D:ZipApart z TI TO i1 i2 l1 l2)
  (hz:IsZip s.heap z TI TO .none) (hTI:IsPair s.heap TI (.ref i1) (.ref i2)) (hTO:IsPair s.heap TO a b) (h1:Src b1 i1 l1 xs k s.heap) (h2:Src b2 i2 l2 ys k s.heap) (hend:xs[k]? = none∨ys[k]? = none)
  (stop:∀ h' e,(∀ c o,c≠z->c≠TO->c≠i1->c≠i2->s.heap.get? c=some o->h'.get? c=some o)->(∃ o,h'.get? e=some o∧o.cls = .type "StopIteration")->E (.ref e) { s with heap:=h' }) :
  wpAny (model prog w) A (Builtin.«zip.__next__» ⟨[.ref z],[]⟩) Q E s:=by
 show wpAny _ _ (field (.ref z) 2 >>= _) _ _ _;refine AA (Am hz rfl (x := .bool false) rfl ?_);show wpAny _ _ (field (.ref z) 3 >>= _) _ _ _;refine AA (Am hz rfl (x := .ref TI) rfl ?_);refine AA (BM hTI rfl ?_);show wpAny _ _ (Builtin.SmallTypes.ownedTupleIsFree (.ref z) >>= _) _ _ _;refine AA ?_;unfold Builtin.SmallTypes.ownedTupleIsFree;refine AA (Am hz rfl (x := .none) rfl (AB ?_));simp only [CY];refine AA (B7 ?_);refine AA (Am hz rfl (x := .ref TO) rfl ?_);refine AA (B1 hz (by simp) fun g1 hz1 s1 => ?_)
 replace hz1:IsZip g1 z TI TO .ellipsis:=hz1;refine AA ?_;simp only [List.zipIdx_cons,List.zipIdx_nil,Cb,List.forIn_nil];refine AA (AA (wpAny_onRaise ?_));show wpAny _ _ (Builtin.SmallTypes.nextOf (.ref i1) >>= _) _ _ _;cases hx:xs[k]? with
 |none =>
  refine AA ((h1.but s1.extBut D.i1z D.l1z).over hh hx fun g2 e s2 he => ?_);obtain ⟨oe,hoe,hce⟩:=he;have hz2:IsZip g2 z TI TO .ellipsis:=s2 _ _ D.i1z.symm hz1;have hez:e≠z:=fun x=>by subst x;rw [hz2] at hoe;cases hoe;simp at hce
  exact B1 hz2 (by simp) fun g3 _ s3=>stop g3 e (fun c o c1 _ c3 _ x=>s3.extBut _ _ c1 (s2 _ _ c3 (s1.extBut _ _ c1 x))) ⟨oe,s3.extBut _ _ hez hoe,hce⟩
 |some x =>
  have hy:ys[k]? = none:=by rcases hend with h |h;rw [hx] at h;cases h;exact h
  refine AA ((h1.but s1.extBut D.i1z D.l1z).item D.l1i1 hx fun g2 q1 s2=>AB ?_);have t2:IsPair g2 TO a b:=s2.extBut _ _ D.TOi1 (s1.extBut _ _ D.TOz hTO);refine AA (BM t2 rfl ?_);refine AA (wpAny_updateSeq_pair t2 fun g3 t3 s3 => ?_);refine AA (wpAny_letGo (AB ?_));refine AA (AA (wpAny_onRaise ?_));show wpAny _ _ (Builtin.SmallTypes.nextOf (.ref i2) >>= _) _ _ _;refine AA ((((h2.but s1.extBut D.i2z D.l2z).but s2.extBut D.i12.symm D.l2i1).but s3.extBut D.TOi2.symm D.l2TO).over hh hy fun g4 e s4 he => ?_);obtain ⟨oe,hoe,hce⟩:=he;have hz4:IsZip g4 z TI TO .ellipsis:=s4 _ _ D.i2z.symm (s3.extBut _ _ D.TOz.symm (s2.extBut _ _ D.i1z.symm hz1));have hez:e≠z:=fun x=>by subst x;rw [hz4] at hoe;cases hoe;simp at hce
  exact B1 hz4 (by simp) fun g5 _ s5=>stop g5 e (fun c o c1 c2 c3 c4 x=>s5.extBut _ _ c1 (s4 _ _ c4 (s3.extBut _ _ c2 (s2.extBut _ _ c3 (s1.extBut _ _ c1 x))))) ⟨oe,s5.extBut _ _ hez hoe,hce⟩
theorem qFU {b1 b2:Bool} {z TI TO i1 i2 l1 l2:Addr} {k:Nat} {xs ys:Array Value} {a b:Value} {Q:Option Value->Shared->Prop} (hh:A.handled=none) (D:ZipApart z TI TO i1 i2 l1 l2)
  (hz:IsZip s.heap z TI TO .none) (hTI:IsPair s.heap TI (.ref i1) (.ref i2)) (hTO:IsPair s.heap TO a b) (h1:Src b1 i1 l1 xs k s.heap) (h2:Src b2 i2 l2 ys k s.heap) (hend:xs[k]? = none∨ys[k]? = none)
  (hQ:∀ h',(∀ c o,c≠z->c≠TO->c≠i1->c≠i2->s.heap.get? c=some o->h'.get? c=some o)->Q none { s with heap:=h' }):wpAny (model prog w) A (pyNext (.ref z)) Q E s:=by have hT:s.TypeIs (.ref z) "zip" := ⟨_,hz,rfl⟩;unfold pyNext;refine AA (Bj (Ay (name:=Str.ofString "__next__") hT F.slot_zip_next (A2 F.slot_zip_next hT F.entry_zip_next (qDS hh D hz hTI hTO h1 h2 hend fun h' e hk he => ?_) (F.args_zip_next_1 _))));obtain ⟨o,ho,hc⟩:=he;refine AA (BE (T := "StopIteration") (b:=true) ⟨o,ho,hc⟩ Ch ?_);exact AB (hQ _ hk)
def Wq (b:Bool) (l:Addr):Obj:={ cls := .type (cond b "tuple_iterator" "list_iterator"),data := .fields #[.ref l,.int 0 0] }
def SqAt (b:Bool) (l:Addr) (xs:Array Value) (h:Heap):Prop:=match b with
 |true=>h.IsTuple l xs
 |false=>h.IsList l xs
theorem SqAt.push {b:Bool} {l:Addr} {xs:Array Value} {h:Heap} (S:SqAt b l xs h) (o:Obj):SqAt b l xs (h.push o):=by
 cases b
 ·exact Heap.IsList.push S o
 ·exact Heap.IsTuple.push S o
theorem SqAt.here {b:Bool} {l:Addr} {xs:Array Value} {h:Heap} (S:SqAt b l xs h):∃ o,h.get? l=some o:=by
 cases b
 ·obtain ⟨o,e,_⟩:=S;exact ⟨o,e⟩
 ·obtain ⟨o,e,_⟩:=S;exact ⟨o,e⟩
theorem SqAt.at {b:Bool} {l:Addr} {xs:Array Value} {h h':Heap} (S:SqAt b l xs h) (e:∀ o,h.get? l=some o->h'.get? l=some o):SqAt b l xs h':=by
 cases b
 ·exact Heap.IsList.at S e
 ·obtain ⟨o,q,r⟩:=S;exact ⟨o,e o q,r⟩
theorem SqAt.iter {b:Bool} {l:Addr} {xs:Array Value} {Q:Value->Shared->Prop} (S:SqAt b l xs s.heap) (hQ:Q (.ref s.heap.objs.size) { s with heap:=s.heap.push (Wq b l) }):wpAny (model prog w) A (pyIter (.ref l)) Q E s:=by
 cases b
 ·exact CJ S hQ
 ·exact wpAny_pyIter_tuple S hQ
theorem SqAt.src {b:Bool} {i l:Addr} {xs:Array Value} {h:Heap} (S:SqAt b l xs h) (e:h.get? i=some (Wq b l)):Src b i l xs 0 h:=by
 cases b
 ·exact ⟨⟨_,e,rfl,rfl⟩,S⟩
 ·exact ⟨⟨_,e,rfl,rfl⟩,S⟩
def zH2 (b1 b2:Bool) (h:Heap) (l1 l2:Addr):Heap:=(h.push (Wq b1 l1)).push (Wq b2 l2)
def zH5 (b1 b2:Bool) (h:Heap) (l1 l2:Addr):Heap:=(((zH2 b1 b2 h l1 l2).push { cls := .type "tuple",data := .seq #[.ref h.objs.size,.ref (h.objs.size + 1)] }).push { cls := .type "tuple",data := .seq #[.none,.none] }).push { cls := .type "zip",data := .fields #[.none,.bool false,.bool false,.ref (h.objs.size + 2),.ref (h.objs.size + 3)] }
theorem qAt (b1 b2:Bool) (l1 l2:Addr) (xs ys:Array Value) :
  Meets (Builtin.«zip.__new__» ⟨[.type "zip",.ref l1,.ref l2],[]⟩) (fun _ R s=>SqAt b1 l1 xs s.heap∧SqAt b2 l2 ys s.heap ∧
   R (.ok (.ret (.ref (s.heap.objs.size + 4)))) { s with heap:=zH5 b1 b2 s.heap l1 l2 }) :=
 .of_wp fun prog w A R s h=>by
  obtain ⟨hp,g,d,tk,os⟩:=s;obtain ⟨hl1,hl2,h⟩:=h;have hsub:=sub_zip;have hL1:SqAt b1 l1 xs (Shared.heap ⟨hp,g,d,tk,os⟩):=hl1;have hL2:SqAt b2 l2 ys (Shared.heap ⟨hp.push (Wq b1 l1),g,d,tk,os⟩):=hl2.push _
  wp_walk using SqAt.iter hL1,SqAt.iter hL2
  refine ⟨_,rfl,?_⟩;have z1:(hp.push (Wq b1 l1)).objs.size=hp.objs.size + 1:=A3 ..;unfold zH5 zH2 at h;simp only [A3];exact h
theorem qDf {b1 b2:Bool} {l1 l2:Addr} {xs ys:Array Value} {Q:Value->Shared->Prop} (hl1:SqAt b1 l1 xs s.heap) (hl2:SqAt b2 l2 ys s.heap)
  (h:∀ h',IsZip h' (s.heap.objs.size + 4) (s.heap.objs.size + 2) (s.heap.objs.size + 3) .none->IsPair h' (s.heap.objs.size + 2) (.ref s.heap.objs.size) (.ref (s.heap.objs.size + 1)) ->
   IsPair h' (s.heap.objs.size + 3) .none .none->Src b1 s.heap.objs.size l1 xs 0 h'->Src b2 (s.heap.objs.size + 1) l2 ys 0 h' ->
   (∀ c o,s.heap.get? c=some o->h'.get? c=some o)->Q (.ref (s.heap.objs.size + 4)) { s with heap:=h' }) :
  wpAny (model prog w) A (call (.type "zip") [.ref l1,.ref l2]) Q E s:=by
 refine callType_new F.called_zip (by decide) (F.typeCall_zip_2 _ _) (F.newCall_zip_2 _ _) (fun obj=>F.args_object_init_3 obj _ _) F.entry_zip_new
  (qAt b1 b2 l1 l2 xs ys) ⟨hl1,hl2,?_⟩
 have z1:(s.heap.push (Wq b1 l1)).objs.size=s.heap.objs.size + 1:=A3 ..;have z2:(zH2 b1 b2 s.heap l1 l2).objs.size=s.heap.objs.size + 2:=by unfold zH2;rw [A3,z1]
 have g5:(zH5 b1 b2 s.heap l1 l2).get? (s.heap.objs.size + 4)=some { cls := .type "zip",data := .fields #[.none,.bool false,.bool false,.ref (s.heap.objs.size + 2),.ref (s.heap.objs.size + 3)] }:=by
  have:=AT (((zH2 b1 b2 s.heap l1 l2).push { cls := .type "tuple",data := .seq #[.ref s.heap.objs.size,.ref (s.heap.objs.size + 1)] }).push { cls := .type "tuple",data := .seq #[.none,.none] }) (o:={ cls := .type "zip",data := .fields #[.none,.bool false,.bool false,.ref (s.heap.objs.size + 2),.ref (s.heap.objs.size + 3)] }) rfl
  simp only [A3,z2] at this;exact this
 have g4:(zH5 b1 b2 s.heap l1 l2).get? (s.heap.objs.size + 3)=some { cls := .type "tuple",data := .seq #[.none,.none] }:=by
  have:=AT ((zH2 b1 b2 s.heap l1 l2).push { cls := .type "tuple",data := .seq #[.ref s.heap.objs.size,.ref (s.heap.objs.size + 1)] }) (o:={ cls := .type "tuple",data := .seq #[.none,.none] }) rfl
  simp only [A3,z2] at this;exact AC _ this
 have g3:(zH5 b1 b2 s.heap l1 l2).get? (s.heap.objs.size + 2)=some { cls := .type "tuple",data := .seq #[.ref s.heap.objs.size,.ref (s.heap.objs.size + 1)] }:=by
  have:=AT (zH2 b1 b2 s.heap l1 l2) (o:={ cls := .type "tuple",data := .seq #[.ref s.heap.objs.size,.ref (s.heap.objs.size + 1)] }) rfl
  rw [z2] at this;exact AC _ (AC _ this)
 have up:∀ c o,(zH2 b1 b2 s.heap l1 l2).get? c=some o->(zH5 b1 b2 s.heap l1 l2).get? c=some o:=fun c o e=>AC _ (AC _ (AC _ e));have g2:(zH5 b1 b2 s.heap l1 l2).get? (s.heap.objs.size + 1)=some (Wq b2 l2):=by
  have:=AT (s.heap.push (Wq b1 l1)) (o:=Wq b2 l2) rfl
  rw [z1] at this;exact up _ _ this
 have g1:(zH5 b1 b2 s.heap l1 l2).get? s.heap.objs.size=some (Wq b1 l1):=up _ _ (AC _ (AT _ rfl));have old:∀ c o,s.heap.get? c=some o->(zH5 b1 b2 s.heap l1 l2).get? c=some o:=fun c o e=>up _ _ (AC _ (AC _ e));show _∧_;exact ⟨⟨_,g5,rfl⟩,h _ g5 g3 g4 ((hl1.at fun o e=>old _ o e).src g1) ((hl2.at fun o e=>old _ o e).src g2) old⟩
end
def SqG (b:Bool) (K:W.Frag) (H:Hp) (l:Addr) (xs:List V):Prop:=match b with
 |true=>SqT K H l xs
 |false=>SqL K H l xs
theorem yG {X:Cx} {pins:List (Addr×Obj)} {σ:L2.St} {H:Hp} {s:Shared} (I:L2.Inv X pins σ H s) {b:Bool} {l:Addr} {xs:List V} (h:SqG b X.K H l xs):∃ us:List Value,Vals xs us∧SqAt b l us.toArray s.heap:=by
 cases b
 ·obtain ⟨us,r,p,_⟩:=I.list h;exact ⟨us,r,p.isList⟩
 ·obtain ⟨us,r,p,_⟩:=I.tuple h;exact ⟨us,r,p⟩
theorem qCS {X:Cx} {pins:List (Addr×Obj)} {σ:L2.St} {H:Hp} {s:Shared} (I:L2.Inv X pins σ H s) {b:Bool} {l:Addr} {xs ys:List V} (h:SqG b X.K H l xs) (h':SqG b X.K H l ys):xs=ys:=by
 cases b
 ·exact I.list_inj h h'
 ·exact I.tuple_inj h h'
def qJo (b1 b2:Bool) (K:W.Frag) (l1 l2:Addr):It :=
 ⟨fun i H => ∃ xs ys x y,SqG b1 K H l1 xs∧SqG b2 K H l2 ys∧xs[i]? = some x∧ys[i]? = some y,
  fun i H v H' => ∃ T x y,H T=none∧v = .ref T∧H'=upd H T (.tup [x,y]) ∧ ∀ xs ys,SqG b1 K H l1 xs->SqG b2 K H l2 ys->xs[i]? = some x∧ys[i]? = some y,
  fun i H => ∃ xs ys,SqG b1 K H l1 xs∧SqG b2 K H l2 ys∧(xs.length≤i∨ys.length≤i)⟩
def IterAt (b:Bool) (i l:Addr) (k:Nat) (h:Heap):Prop:=match b with
 |true=>h.IsTupleIter i l k
 |false=>h.IsListIter i l k
theorem IterAt.at {b:Bool} {i l:Addr} {k:Nat} {h h':Heap} (S:IterAt b i l k h) (e:∀ o,h.get? i=some o->h'.get? i=some o):IterAt b i l k h':=by
 cases b
 ·exact Heap.IsListIter.at S e
 ·exact Heap.IsTupleIter.at S e
theorem IterAt.here {b:Bool} {i l:Addr} {k:Nat} {h:Heap} (S:IterAt b i l k h):∃ o,h.get? i=some o ∧ ∃ vs,o.data = .fields vs:=by
 cases b
 ·obtain ⟨o,e,_,d⟩:=S;exact ⟨o,e,_,d⟩
 ·obtain ⟨o,e,_,d⟩:=S;exact ⟨o,e,_,d⟩
theorem IterAt.src {b:Bool} {i l:Addr} {k:Nat} {xs:Array Value} {h:Heap} (S:IterAt b i l k h) (S2:SqAt b l xs h):Src b i l xs k h:=by
 cases b
 ·exact ⟨S,S2⟩
 ·exact ⟨S,S2⟩
theorem Src.iter {b:Bool} {i l:Addr} {k:Nat} {xs:Array Value} {h:Heap} (S:Src b i l xs k h):IterAt b i l k h:=by
 cases b
 ·exact S.1
 ·exact S.1
def qEh (b1 b2:Bool) (z TI TO i1 i2 l1 l2:Addr) (i:Nat) (h:Heap):Prop:=IsZip h z TI TO .none∧IsPair h TI (.ref i1) (.ref i2)∧(∃ a b,IsPair h TO a b)∧IterAt b1 i1 l1 i h∧IterAt b2 i2 l2 i h
theorem qCt {P:Program} {w:World} {K:W.Frag} {A:Around} {elts:List Expr} {n:Nat} {pos:Pos} (hA:A.handled=none) (b1 b2:Bool) (z TI TO i1 i2 l1 l2:Addr) (D:ZipApart z TI TO i1 i2 l1 l2) :
  Turn P w K A (.Tuple elts n pos) (qJo b1 b2 K l1 l2) [z,TI,TO,i1,i2] z (qEh b1 b2 z TI TO i1 i2 l1 l2) where
 mem:=by simp
 obj:=fun i h st b hb=>by
  obtain ⟨a1,a2,⟨a,c,a3⟩,s4,s5⟩:=st;obtain ⟨o4,a4,_,d4⟩:=s4.here;obtain ⟨o5,a5,_,d5⟩:=s5.here;simp only [AD,AR,BC] at hb;rcases hb with rfl |rfl |rfl |rfl |rfl
  ·exact ⟨_,a1,fun v q=>by cases (show Data.fields _=Data.cell v from q)⟩
  ·exact ⟨_,a2,fun v q=>by cases (show Data.seq _ _=Data.cell v from q)⟩
  ·exact ⟨_,a3,fun v q=>by cases (show Data.seq _ _=Data.cell v from q)⟩
  ·exact ⟨_,a4,fun v q=>by rw [d4] at q;cases q⟩
  ·exact ⟨_,a5,fun v q=>by rw [d5] at q;cases q⟩
 keep:=fun i h h' st k=>by obtain ⟨a1,a2,⟨a,c,a3⟩,a4,a5⟩:=st;exact ⟨k z (by simp) _ a1,k TI (by simp) _ a2,⟨a,c,k TO (by simp) _ a3⟩,a4.at fun o e=>k i1 (by simp) o e,a5.at fun o e=>k i2 (by simp) o e⟩
 item:=by
  intro X hP hw hK hA' i pins s σ H E I hf st hg;subst hP hw hK;obtain ⟨xs,ys,x,y,q1,q2,e1,e2⟩:=hg;obtain ⟨a1,a2,⟨a,c,a3⟩,a4,a5⟩:=st;obtain ⟨us,r1,p1⟩:=yG I q1;obtain ⟨vs,r2,p2⟩:=yG I q2;obtain ⟨u,g1,ru⟩:=r1.get e1;obtain ⟨v,g2,rv⟩:=r2.get e2;refine qCu D a1 a2 a3 (a4.src p1) (a5.src p2) (x:=u) (y:=v) (by simpa using g1) (by simpa using g2) fun h' z1 z2 z3 z4 z5 z7=>⟨_,rfl,?_⟩
  refine wpAny_letOwnedTupleGo_zip (s:={ s with heap:=h' }) z1 fun h2 y1 y2 => ?_;have nz:s.heap.objs.size≠z:=CM (AK a1);have oth:∀ b,b≠z->h2.get? b=h'.get? b:=fun b hb=>y2.2 b hb;have tz:qEh b1 b2 z TI TO i1 i2 l1 l2 (i + 1) h2:=⟨y1,(oth TI D.TIz).trans (z7 TI _ D.TIz D.TITO D.TIi1 D.TIi2 a2),⟨u,v,(oth TO D.TOz).trans z2⟩,z3.iter.at fun o e=>(oth i1 D.i1z).trans e,z4.iter.at fun o e=>(oth i2 D.i2z).trans e⟩;have hT:IsPair h2 s.heap.objs.size u v:=(oth _ nz).trans z5;have I2:=qGS (t':=s.toks) (h':=h2) I hf ru rv (fun b o hb e=>(oth b fun q=>hb (by simp [q])).trans (z7 b o (fun q=>hb (by simp [q])) (fun q=>hb (by simp [q])) (fun q=>hb (by simp [q])) (fun q=>hb (by simp [q])) e)) (fun b hb=>by
   obtain ⟨b1,b2,⟨a',c',b3⟩,s4,s5⟩:=tz;obtain ⟨o4,b4,_⟩:=s4.here;obtain ⟨o5,b5,_⟩:=s5.here;simp only [AD,AR,BC] at hb;rcases hb with rfl |rfl |rfl |rfl |rfl
   ·exact ⟨_,b1⟩
   ·exact ⟨_,b2⟩
   ·exact ⟨_,b3⟩
   ·exact ⟨_,b4⟩
   ·exact ⟨_,b5⟩) hT
  refine ⟨.ref s.heap.objs.size,_,I2,rfl,⟨_,x,y,I.hok.fresh (AM _),rfl,rfl,fun xs' ys' h1 h2 => ?_⟩,tz,fun b hb => ?_⟩
  ·rw [qCS I h1 q1,qCS I h2 q2];exact ⟨e1,e2⟩
  ·have:=(hf b hb).1
   have ne:b≠s.heap.objs.size:=by
    simp only [AD,AR,BC] at hb;obtain ⟨o4,b4,_⟩:=a4.here;obtain ⟨o5,b5,_⟩:=a5.here;rcases hb with rfl |rfl |rfl |rfl |rfl
    ·exact AV (AK a1)
    ·exact AV (AK a2)
    ·exact AV (AK a3)
    ·exact AV (AK b4)
    ·exact AV (AK b5)
   rw [qS ne];exact this
 done:=by
  intro X hP hw hK hA' i pins s σ H E I hf st hg;subst hP hw hK;obtain ⟨xs,ys,q1,q2,e1⟩:=hg;obtain ⟨a1,a2,⟨a,c,a3⟩,a4,a5⟩:=st;obtain ⟨us,r1,p1⟩:=yG I q1;obtain ⟨vs,r2,p2⟩:=yG I q2;have n1:=r1.length;have n2:=r2.length;refine qFU (by rw [hA'];exact hA) D a1 a2 a3 (a4.src p1) (a5.src p2) (e1.imp (fun q=>by simp;omega) fun q=>by simp;omega) fun h' k=>⟨rfl,?_⟩
  have nf:∀ b u,H b=some u->b ∉ [z,TI,TO,i1,i2]:=fun b u e q=>by rw [(hf b q).1] at e;cases e
  have kk:∀ b o,b ∉ [z,TI,TO,i1,i2]->s.heap.get? b=some o->h'.get? b=some o:=fun b o hb e=>k b o (fun q=>hb (by simp [q])) (fun q=>hb (by simp [q])) (fun q=>hb (by simp [q])) (fun q=>hb (by simp [q])) e
  exact I.call (g':=s.gens) (d':=s.drawn) (t':=s.toks) (ch:=[z,TI,TO,i1,i2]) ⟨fun b o e _ _ hb=>kk b o hb e,fun b o e _ _ hb=>⟨o.slots,kk b o hb e⟩,fun b o e n _=>n,fun b o e hb=>⟨o,kk b o hb e⟩,fun b xs e=>e,fun b o u e=>e,fun b ps e=>⟨#[],by rw [e];simp⟩⟩
   (fun b u' e=>(I.hok b u' e).stay (fun c w hc q=>kk c w (hc.elim (fun z=>by rw [z];exact nf _ _ e) fun z=>nf _ _ z) q) (fun c q=>q) fun c xs q=>q) I.bare fun b hb=>⟨(hf b hb).2.2.2.1,(hf b hb).2.1,(hf b hb).2.2.2.2.1,(hf b hb).2.2.2.2.2⟩
 self:=fun _ _ _ _ _ st h=>wpAny_pyIter_zip st.1 h
section
variable {X:Cx} {a b:Expr} {ta:TA} {p pos:Pos} {elts:List Expr} {n:Nat} {tpos:Pos}
def qJ1 (K:W.Frag) (ta:TA):TI:=fun σ H R=>ta σ H fun vs H1 => ∃ b1 b2 l1 l2,vs=[.ref l1,.ref l2]∧(∃ xs,SqG b1 K H1 l1 xs)∧(∃ ys,SqG b2 K H1 l2 ys)∧R (qJo b1 b2 K l1 l2) H1
theorem qGb (hc:X.calm=true) (hg:Gl X "zip") (hm:X.mg "zip" = none) (ha:PA X [a,b] ta) (he:starEach [a,b] X.env=(false,eval a X.env)::starEach [b] X.env:=by rfl) (hpl:(backTo pos (starEach [b] X.env)).any (·.1)=false:=by rfl) :
  PI X (.Tuple elts n tpos) (.Call (.Name "zip" p) [a,b] [] pos) (qJ1 X.K ta):=by
 intro pins s σ H R I h;refine BY (zX I hg hm PyProof.Rows.boot_zip ?_);refine Be (thn (ha pos pins s σ H _ I h) fun us s1 ⟨vs,H1,I1,r1,q1⟩ => ?_) he hpl;obtain ⟨b1,b2,l1,l2,rfl,⟨xs,h1⟩,⟨ys,h2⟩,q⟩:=q1;obtain ⟨u,v,rfl,ru,rv⟩:=qCW r1;cases ru;cases rv;obtain ⟨ts,r1,p1⟩:=yG I1 h1;obtain ⟨ws,r2,p2⟩:=yG I1 h2;refine qDf p1 p2 fun h' c1 c2 c3 c4 c5 c7 => ?_;refine wpAny_pyIter_zip c1 ?_;have lt1:l1 < s1.heap.objs.size:=by obtain ⟨_,e⟩:=p1.here;exact AK e
 have lt2:l2 < s1.heap.objs.size:=by obtain ⟨_,e⟩:=p2.here;exact AK e
 have I2:L2.Inv X pins σ H1 { s1 with heap:=h' }:=I1.kept (t':=s1.toks) c7;refine ⟨_,_,_,_,H1,rfl,I2,qCt (I1.ok.hd hc) b1 b2 _ _ _ _ _ _ _ (PyProof.Rows.zipApart_new lt1 lt2),⟨c1,c2,⟨_,_,c3⟩,c4.iter,c5.iter⟩,fun c hc' => ?_,q⟩;have hle:s1.heap.objs.size≤c:=by
  simp only [AD,AR,BC] at hc';rcases hc' with rfl |rfl |rfl |rfl |rfl
  ·exact Bu _ _
  ·exact Bu _ _
  ·exact Bu _ _
  ·exact AM _
  ·exact Bu _ _
 exact I1.fpOk hle (I1.hok.fresh hle)
end
end EX
namespace EV
open PySem PySem.Spec PyProof.Rows L2 EX
section
variable {X:Cx} {E:XK} {e a c d:Expr} {es:List Expr} {f fa fb fc:FE} {fl:FL} {pos:Pos} {F G:FS}
def kQ:PV->Bool
 | .tup _=>true
 |_=>false
theorem Zq {K:W.Frag} {H:Hp} {b:Bz} {st:qB} {p:PV} {v:V} {l:List PV} (S:SR K H b st) (r:RV K H b p v) (h:WG st p=some l) :
  ∃ x xs,v = .ref x∧SqG (kQ p) K H x xs∧RVs K H b l xs:=by
 unfold WG at h;split at h
 ·cases h;unfold RV at r;obtain ⟨x,xs,rfl,h2,h3⟩:=r;exact ⟨x,xs,rfl,h2.sq,h3⟩
 ·rename_i hp
  have:kQ p=false:=by unfold kQ;split <;> first |(exact absurd rfl (hp _)) |rfl
  rw [this];exact wA S r h
def qD1 (ps:List PV) (st:qB):Rs ItP:=match ps with
 |[p,q]=>match WG st p,WG st q with
  |some l,some m => .ok ⟨Wl l m,fun s=>WG s p=some l∧WG s q=some m⟩ st
  |_,_ => .no
 |_ => .no
def qCM (t:FA):FI:=fun r st=>(t r st).bind qD1
theorem qGc {elts:List Expr} {n:Nat} {tpos p:Pos} {t:FA} (hc:X.calm=true) (hm:X.mg "zip" = none) (ha:VA X E [a,c] t) (hg:Gl X "zip" := by rfl) (he:starEach [a,c] X.env=(false,eval a X.env)::starEach [c] X.env:=by rfl) (hpl:(backTo pos (starEach [c] X.env)).any (·.1)=false:=by rfl) :
  VI X E (.Tuple elts n tpos) (.Call (.Name "zip" p) [a,c] [] pos) (qCM t):=fun pins s σ H R I q=>qGb hc hg hm ha he hpl pins s σ H R I (by
 obtain ⟨b,r,st,S,RE,P⟩:=q;refine ⟨b,r,st,S,RE,PostA.bindI P fun l s1 us H1 b1 e1 S1 r1 P1 => ?_⟩;unfold qD1 at P1;split at P1
 ·rename_i p q;obtain ⟨u,v,rfl,h1,h2⟩:=RVs.two r1;split at P1
  ·rename_i l m el em;obtain ⟨x,xs,rfl,k1,k2⟩:=Zq S1 h1 el;obtain ⟨y,ys,rfl,k3,k4⟩:=Zq S1 h2 em;refine ⟨kQ p,kQ q,x,y,rfl,⟨xs,k1⟩,⟨ys,k3⟩,P1 _ H1 b1 (Ext.refl _ _) S1 fun H2 b2 st2 e2 S2 g2 => ?_⟩;obtain ⟨x',xs',ex,j1,j2⟩:=Zq S2 (RV.wext e2 p h1) g2.1;cases ex;obtain ⟨y',ys',ey,j3,j4⟩:=Zq S2 (RV.wext e2 q h2) g2.2;cases ey;refine ⟨fun i w hw => ?_,fun i hi => ?_⟩
   ·obtain ⟨x1,y1,w1,w2,rfl⟩:=J7 hw;obtain ⟨v1,z1,z2⟩:=j2.get w1;obtain ⟨v2,z3,z4⟩:=j4.get w2;refine ⟨⟨xs',ys',v1,v2,j1,j3,z1,z3⟩,fun z H3 ⟨T,a1,a2,hn,hz,hH,ha⟩ => ?_⟩;subst hz;subst hH;obtain ⟨q1,q2⟩:=ha xs' ys' j1 j3;rw [z1] at q1;cases q1;rw [z3] at q2;cases q2;refine ⟨fun b' o h=>by rw [qS (qT h hn)];exact h,S2.new hn,?_⟩
    unfold RV;exact ⟨T,_,rfl,.inl ⟨qw,S2.new_notin hn⟩,RVs.cons (RV.wext (WE.new hn) _ z2) (RVs.cons (RV.wext (WE.new hn) _ z4) RVs.nil)⟩
   ·have hi:min l.length m.length≤i:=by rw [← J6];exact hi
    exact ⟨xs',ys',j1,j3,by rw [← j2.length,← j4.length];omega⟩
  ·exact P1.elim
 ·exact P1.elim)
end
end EV
end
section
namespace EV
open PySem PySem.Spec PyProof.Rows L2 EX
section
variable {X:Cx} {E:XK}
def qJR (sc:Scope) (x:Str):Bool:=match sc.names.lookup x with
 |some .local=>true
 |some .cell=>true
 |some .free=>true
 |_=>false
theorem qH8 {sc:Scope} {x:Str} (h:qJR sc x=true):Vis sc x:=by
 unfold qJR at h;unfold Vis;split at h
 ·rename_i e;exact .inl e
 ·rename_i e;exact .inr (.inl e)
 ·rename_i e;exact .inr (.inr e)
 ·cases h
theorem qH (i:Nat) {x:Str} {pos:Pos} (hN:X.N[i]? = some x:=by rfl) (hv:qJR X.env.scope x=true:=by rfl) (hd:((x==("__debug__":Str)) || (x==("__classdict__":Str)))=false:=by rfl):VE X E (.Name x pos) (qD i):=by rw [Bool.or_eq_false_iff] at hd;exact qJu (pv i hN (qH8 hv) hd.1 hd.2)
def frB (X:Cx):List (Str×NameKind)->Bool
 |[]=>true
 |(x,.free)::l=>(match X.env.kindOf x with |some .cell=>true |some .free=>true |_=>false)&&frB X l
 |_::l=>frB X l
theorem qE8:∀ {l:List (Str×NameKind)},frB X l=true -> ∀ x∈l,x.2 = .free->(X.env.kindOf x.1=some .cell∨X.env.kindOf x.1=some .free)
 |[],_,x,hx,_=>by cases hx
 |(y,k)::l,h,x,hx,hk=>by
  rcases AD.mp hx with rfl |hx
  ·have hk:k = .free:=hk;subst hk;unfold frB at h;rw [Ab] at h;have h:=h.1;split at h
   ·rename_i e;exact .inl e
   ·rename_i e;exact .inr e
   ·cases h
  ·refine qE8 (l:=l) ?_ x hx hk;unfold frB at h;split at h
   ·rename_i he;cases he
   ·rename_i he;cases he;rw [Ab] at h;exact h.2
   ·rename_i he;cases he;exact h
def qG3 (X:Cx) (l:List (Str×NameKind)):List Str->List Nat->Prop
 |x::xs,j::js=>(X.N[j]? = some x∧l.lookup x=some .free)∧qG3 X l xs js
 |_,_=>True
theorem YU {x:Str} {k:NameKind}:∀ {l:List (Str×NameKind)},l.lookup x=some k->(x,k)∈l
 |[],h=>by cases h
 |(y,q)::l,h=>by
  rw [Ap] at h;split at h
  ·rename_i e;cases h;rw [eq_of_beq e];exact AH
  ·exact AE _ (YU h)
theorem qB8 {l:List (Str×NameKind)}:∀ {xs:List Str} {js:List Nat},qG3 X l xs js -> ∀ (i:Nat) (x:Str) (j:Nat),xs[i]? = some x->js[i]? = some j->X.N[j]? = some x∧(x,NameKind.free)∈l
 |[],_,_,i,x,j,h1,_=>by cases h1
 |_::_,[],_,i,x,j,_,h2=>by cases h2
 |a::xs,b::js,h,i,x,j,h1,h2=>by
  unfold qG3 at h;cases i with
  |zero=>cases h1;cases h2;exact ⟨h.1.1,YU h.1.2⟩
  |succ i=>exact qB8 h.2 i x j h1 h2
theorem Qe {scope:Scope} {capN locN:List Str} {caps:List Nat} (h1:scope.kind = .function) (h2:(scope.names.map (·.1)).Nodup) (h3:frB X scope.names=true) (h4:capN.length=caps.length) (h5:qG3 X scope.names capN caps):CSc X scope capN locN caps :=
 ⟨h1,h2,qE8 h3,h4,qB8 h5⟩
end
end EV
end
section
namespace EX
open PySem PySem.Spec PyProof.Rows L2
end EX
namespace EV
open PySem PySem.Spec PyProof.Rows L2 EX
end EV
end
section
namespace EX
open PySem PySem.Spec PyProof.Rows L2
def ExO (a C:Addr) (d:Option Addr):HO := .ext fun h => ∃ vs,h.get? a=some ⟨.ref C,d,.fields vs,#[]⟩∧vs.size=6∧vs[1]? = some Value.none∧vs[2]? = some Value.none ∧ ∃ t0,vs[0]? = some (Value.ref t0)
def DxO (d:Addr) (fs:List (Str×V)):HO := .ext fun h => ∃ mA,h.Ns1 d mA∧(∀ f,RelO (fs.lookup f) (mA f))∧PySem.Within mA (fs.map (·.1))
section
variable {P:Program} {w:World} {H:Hp} {h:Heap} {a C d:Addr} {fs:List (Str×V)}
theorem qBH {dd:Option Addr} {vs:Array Value} (e:h.get? a=some ⟨.ref C,dd,.fields vs,#[]⟩) (z:vs.size=6) (e1:vs[1]? = some Value.none) (e2:vs[2]? = some Value.none) (e0:∃ t0,vs[0]? = some (Value.ref t0)):ObjOk P w H h a (ExO a C dd) :=
 ⟨⟨vs,e,z,e1,e2,e0⟩,⟨_,e⟩,fun h1 h2 ⟨vs,q,r⟩ k=>⟨vs,k _ q,r⟩⟩
theorem qAr {mA:Str->Option Value} (n:h.Ns1 d mA) (r:∀ f,RelO (fs.lookup f) (mA f)) (wi:PySem.Within mA (fs.map (·.1))):ObjOk P w H h d (DxO d fs) :=
 ⟨⟨mA,n,r,wi⟩,(let ⟨o,_,_,e,_⟩:=n;⟨o,e⟩),fun h1 h2 ⟨mA,n,r⟩ k=>⟨mA,n.at k,r⟩⟩
end
def qFW:List Value->Bool
 | .ref _::r=>qFW r
 |l=>l==bmV
theorem zf (self:Value):∀ {l:List Value},qFW l=true->refuseLoop self "__setattr__" l=pure ()
 | .ref c::r,e=>by rw [refuseLoop_ref];exact zf self (l:=r) e
 |[],e=>by cases e
 | .none::r,e=>by rw [show (Value.none::r)=bmV from BK.mp e];exact PySem.F.store_ValueError.passes self
 | .bool b::r,e=>by rw [show (Value.bool b::r)=bmV from BK.mp e];exact PySem.F.store_ValueError.passes self
 | .type b::r,e=>by rw [show (Value.type b::r)=bmV from BK.mp e];exact PySem.F.store_ValueError.passes self
 |v::r,e=>by
  cases v <;> first
   |(rw [refuseLoop_ref];exact zf self (l:=r) e)
   |(rw [show (_::r)=bmV from BK.mp e];exact PySem.F.store_ValueError.passes self)
structure ExC (K:W.Frag) (C:Addr):Prop where
 sa:W.findIn K (.ref C) "__setattr__" = some (some (.builtin "object.__setattr__"))
 ov:∃ cd,W.clsIn K C=some cd∧cd.hasDict=true∧qFW cd.mro=true
 mo:W.mroIn K C (.type "object")=some true
section
open Builtin Builtin.ObjectAttr
variable {prog:Program} {w:World} {A:Around} {s:Shared} {K:W.Frag} {x C:Addr} {ox:Obj} {od:Option Obj} {name:Str} {tk:Tok} {v:Value} {R:Result->Shared->Prop}
theorem qB2 (X:K.In s.heap) (I:W.InstAt s.heap x ox C od) (c:ExC K C) (ht:W.findIn K (.ref C) name=some none)
  (h:∀ b,wpAny (model prog w) A.in1 (storeInOwnDict (.ref x) (.ref C) (.str name tk) name v b)
   (fun fin s'=>match fin with | .done f=>R (.ok f) s' | .again c'=>c'.quiet=true∧codeAny (model prog w) A c' R s') (fun e s'=>R (.error e) s') s) :
  codeAny (model prog w) A (.call (.builtin "object.__setattr__") ⟨[.ref x,.str name tk,v],[]⟩) R s:=by have SF:=PySem.F.store_object;obtain ⟨cd,hc,_,ho⟩:=c.ov;have sub:W.Looks (model prog w) s.heap (isInstance (.ref x) (.type "object")) true:=I.type.andThen (Bh X c.mo);refine Bc SF.slot.plain SF.entry (@W.check_slot (model prog w) _ _ s "object.__setattr__" "object" "__setattr__" (.ref x) [.str name tk,v] [] _ SF.kind SF.split sub (SF.args (.ref x) (.str name tk) v) ?_);have hm:W.Looks (model prog w) s.heap (mroOf (.ref C)) cd.mro:=(W.looks_clsIn X hc).andThen .now;have L3:W.Looks (model prog w) s.heap (storeTaker? none) none := .now;rw [W.osa_eq,refuse_eq];refine AA (AA (I.type.here (AA (hm.here ?_))));rw [zf _ ho];refine AB (AA (I.type.here (AA ((B8 X ht).here (AA (L3.here ?_))))));exact h _
end
section
open Builtin Builtin.ObjectAttr
variable {X:Cx} {pins:List (Addr×Obj)} {σ:L2.St} {H:Hp} {s:Shared} {a C d:Addr} {fs:List (Str×V)} {f:Str} {y:V} {u:Value} {A:Around} {E:Value->Shared->Prop} {Q:Unit->Shared->Prop}
theorem YT {P:Program} {w:World} {h:Heap} {dd:Option Addr} (hok:HOk P w H h) (e:H a=some (ExO a C dd)):∃ vs,h.get? a=some ⟨.ref C,dd,.fields vs,#[]⟩∧vs.size=6∧vs[1]? = some Value.none∧vs[2]? = some Value.none ∧ ∃ t0,vs[0]? = some (Value.ref t0):=(show ObjOk P w H h a (ExO a C dd) from hok a _ e).1
theorem qE9 {P:Program} {w:World} {h:Heap} (hok:HOk P w H h) (e:H d=some (DxO d fs)):∃ mA,h.Ns1 d mA∧(∀ f,RelO (fs.lookup f) (mA f))∧PySem.Within mA (fs.map (·.1)):=(show ObjOk P w H h d (DxO d fs) from hok d _ e).1
theorem qFz (I:L2.Inv X pins σ H s) (e:H a=some (ExO a C none)) (c:ExC X.K C) (n:Zg X.K C f) (ry:RelV y u)
  (h:∀ d s',H d=none->d≠a->L2.Inv X pins σ (upd (upd (upd H d (DxO d [])) a (ExO a C (some d))) d (DxO d [(f,y)])) s'->Q () s'):wpAny (model X.prog X.w) A (setAttr (.ref a) f u) Q E s:=by
 obtain ⟨vs,ha,z,v1,v2,v0⟩:=YT I.hok e;have J:W.InstAt s.heap a ⟨.ref C,none,.fields vs,#[]⟩ C none:=⟨ha,rfl,rfl,True.intro⟩;refine W.set_plain I.kIn J c.sa (qB2 (s:={ s with toks:=s.toks + 1 }) I.kIn J c n fun b => ?_);obtain ⟨cd,hc,hd',_⟩:=c.ov;refine AA (AB (AA (AA (wpAny_loadPart ha (AA (W.Looks.here (s:={ s with toks:=s.toks + 1 }) (W.looks_clsIn I.kIn hc) ?_))))));rw [hd'];have nx:a≠s.heap.objs.size:=AV (AK ha);refine AA (wpAny_alloc (o:={ cls := .type "dict",data := .dict #[] }) ?_);have a1:(s.heap.push { cls := .type "dict",data := .dict #[] }).get? a=some ⟨.ref C,none,.fields vs,#[]⟩:=AC _ ha;have d1:(s.heap.push { cls := .type "dict",data := .dict #[] }).get? s.heap.objs.size=some { cls := .type "dict",data := .dict #[] }:=AT s.heap rfl;refine AA (wpAny_update a1 ?_);refine AB ?_;have n0:(s.heap.push { cls := .type "dict",data := .dict #[] }).Ns1 s.heap.objs.size (fun _=>none):=Heap.Ns1.of_empty ⟨_,#[],_,d1,rfl,(fun e he=>absurd he (by simp)),fun _=>rfl⟩
 have I1:=I.laid (a:=s.heap.objs.size) (o:=DxO s.heap.objs.size []) (h':=s.heap.push { cls := .type "dict",data := .dict #[] }) (t':=s.toks + 1) (fun b u q=>AC _ q) (AM _) (qAr n0 (fun _=>True.intro) fun y hy=>absurd rfl hy);have f1:H s.heap.objs.size=none:=I.hok.fresh (AM _);have e1:upd H s.heap.objs.size (DxO s.heap.objs.size []) a=some (ExO a C none):=by rw [qS nx];exact e
 have a2:=As (fun o:Obj=>{ o with dict:=some s.heap.objs.size }) a1 (by rfl)
 have I2:=I1.write (x:=a) (e:=a) (o:=ExO a C (some s.heap.objs.size)) (h':=(s.heap.push { cls := .type "dict",data := .dict #[] }).update a fun o=>{ o with dict:=some s.heap.objs.size }) (t':=s.toks + 1) (by rw [e1];exact True.intro) (.inl rfl)
  (fun b q hb z=>(Aa _ _ (Ne.symm hb)).trans z) ⟨_,a2⟩ (qBH a2 z v1 v2 v0)
 have n1:((s.heap.push { cls := .type "dict",data := .dict #[] }).update a fun o=>{ o with dict:=some s.heap.objs.size }).Ns1 s.heap.objs.size (fun _=>none):=n0.at fun o q=>(Aa _ _ nx).trans q;show wpAny _ _ (storeInDict s.heap.objs.size (.str f _) f u) _ _ _;unfold storeInDict newKeyGuard;refine AA (AB (AA (wpAny_nsSet1 n1 fun h' hn' hs => ?_)));obtain ⟨oD,esD,epD,hoD,hdD,hcD⟩:=hn'.count (Within.cons f u Within.nil);refine AA (wpAny_lookBehind hoD (by rw [hdD];exact pastItsLine_dict (Ac hcD (by rw [AU,B3,Bi];omega))) ?_)
 refine AB (h s.heap.objs.size _ f1 (Ne.symm nx) ?_);refine I2.write (x:=s.heap.objs.size) (e:=s.heap.objs.size) (by rw [qS (Ne.symm nx),qw];exact True.intro) (.inl rfl) (fun b q hb z=>(hs.2 b hb).trans z) ⟨_,hoD⟩ (qAr hn' (fun g => ?_) fun g hg => ?_)
 ·show RelO (List.lookup g [(f,y)]) (if g=f then some u else none);rw [Ap];by_cases q:g=f
  ·rw [AF q,q,Aj];exact ry
  ·rw [AJ q,show (g==f)=false from AG.mpr q];exact True.intro
 ·by_cases q:g=f
  ·rw [q];exact AH
  ·exact absurd (show (if g=f then some u else none)=none by rw [AJ q]) hg
theorem qE3 (I:L2.Inv X pins σ H s) (e:H a=some (ExO a C (some d))) (e2:H d=some (DxO d fs)) (hda:d≠a) (hz:fs.length < 1000) (c:ExC X.K C) (n:Zg X.K C f) (ry:RelV y u)
  (h:∀ s',L2.Inv X pins σ (upd H d (DxO d (fs++[(f,y)]))) s'->Q () s') (hf:f ∉ fs.map (·.1)):wpAny (model X.prog X.w) A (setAttr (.ref a) f u) Q E s:=by
 obtain ⟨vs,ha,z,v1,v2,v0⟩:=YT I.hok e;obtain ⟨mA,n1,r,wi⟩:=qE9 I.hok e2;obtain ⟨od,es,ep,hd1,hd2⟩:=id n1;have J:W.InstAt s.heap a ⟨.ref C,some d,.fields vs,#[]⟩ C (some od):=⟨ha,rfl,rfl,hd1⟩;refine W.set_plain I.kIn J c.sa (qB2 (s:={ s with toks:=s.toks + 1 }) I.kIn J c n fun b => ?_);obtain ⟨cd,hc,hd',_⟩:=c.ov;refine AA (AB (AA (AA (wpAny_loadPart ha (AA (W.Looks.here (s:={ s with toks:=s.toks + 1 }) (W.looks_clsIn I.kIn hc) ?_))))));rw [hd'];refine AB (a:=some d) ?_;show wpAny _ _ (storeInDict d (.str f _) f u) _ _ _;unfold storeInDict newKeyGuard;refine AA (AB (AA (wpAny_nsSet1 (s:={ s with toks:=s.toks + 1 }) n1 fun h' hn' hs => ?_)));obtain ⟨oD,esD,epD,hoD,hdD,hcD⟩:=hn'.count (Within.cons f u wi);refine AA (wpAny_lookBehind hoD (by rw [hdD];exact pastItsLine_dict (Ac hcD (by rw [AU,AI,Bi];omega))) ?_)
 refine AB (h _ ?_);refine I.write (x:=d) (e:=d) (by rw [e2];exact True.intro) (.inl rfl) (fun b q hb z=>(hs.2 b hb).trans z) ⟨_,hoD⟩ (qAr hn' (fun g => ?_) fun g hg => ?_)
 ·show RelO (List.lookup g (fs++[(f,y)])) (if g=f then some u else mA g);rw [List.lookup_append];by_cases q:g=f
  ·have:fs.lookup f=none:=by rw [List.lookup_eq_none_iff];intro p hp;exact bne_iff_ne.mpr fun z=>hf (by rw [z];exact List.mem_map_of_mem hp)
   rw [AF q,q,this];show RelO (List.lookup f [(f,y)]) _;rw [Ap,Aj];exact ry
  ·rw [AJ q,Ap,show (g==f)=false from AG.mpr q];show RelO ((fs.lookup g).or none) _;rw [Option.or_none];exact r g
 ·rw [CF];by_cases q:g=f
  ·rw [q];exact A7 _ AH
  ·exact CP _ (wi g fun z=>hg (by show (if g=f then some u else mA g)=none;rw [AJ q];exact z))
end
structure MkX (K:W.Frag) (C f:Addr):Prop where
 at_:∃ dd cd sl k0 k1 k2 k3 k5 bm,K.lookup C=some ⟨.type "type",dd,.cls cd,sl⟩∧cd.mro = .ref C::bm∧sl.toList=[k0,k1,k2,k3,some (.builtin "ValueError.__new__"),k5]∧cd.hasDel=false∧W.tailIn K bmV bm=true ∧
  W.nsOkIn K cd.ns=true∧W.nsIn K cd.ns "__init__" = some (some (.ref f))
 fn:W.isFn K (.ref f)=true
 kp:W.keepIn K (.ref C)=true
 x:ExC K C
theorem qBL {K:W.Frag} {h:Heap} {N:Addr} {mN:Str->Option Value} {n:Str} {v:Value} (X:K.In h) (G:h.Ns N mN) (e:W.nsIn K N n=some (some v)):mN n=some v:=by
 obtain ⟨ob,es,ep,hob,hdt,_,hfind⟩:=G;unfold W.nsIn at e;split at e
 ·rename_i c d es2 n2 sl q;have z:=X _ _ q;rw [hob] at z;cases z;cases hdt;split at e
  ·rename_i en hen;cases e;rw [← hfind];unfold nsFind findBy;rw [← Array.find?_toList,hen];rfl
  ·split at e <;> cases e
 ·cases e
theorem JW {K:W.Frag} {h:Heap} {C f:Addr} (X:K.In h) (M:MkX K C f) :
  ∃ bm N nm qn bs hd sn sb ab co dd k0 k1 k2 k3 k5 mN,h.get? C=some (excClassObj nm qn C N bs bm hd sn sb ab co dd k0 k1 k2 k3 k5 "ValueError.__new__")∧h.Ns N mN∧mN "__init__" = some (.ref f)∧OwnTail h bmV bm:=by obtain ⟨dd,cd,sl,k0,k1,k2,k3,k5,bm,ho,hm,hs,hdel,ht,hn,hi⟩:=M.at_;obtain ⟨nm,bs,mro,ns,qn,hd,sn,sb,ab,co,del⟩:=cd;obtain ⟨sl⟩:=sl;have hm:mro=_:=hm;have hs:sl=_:=hs;have hdel:del=false:=hdel;subst hm;subst hs;subst hdel;exact ⟨bm,ns,nm,qn,bs,hd,sn,sb,ab,co,dd,k0,k1,k2,k3,k5,_,X _ _ ho,.of_isNs (W.isNs_of_in X hn),qBL X (.of_isNs (W.isNs_of_in X hn)) hi,W.tail_of_in X ht⟩
section
variable {prog:Program} {w:World} {A:Around} {E:Value->Shared->Prop} {h:Heap} {g:Array GenState} {d:Drawn} {t:Nat} {os:OsState}
variable {nm q:Str} {C N:Addr} {bs bm:List Value} {hdct:Bool} {sn:List Str} {sub:List Value} {ab:Bool} {col:Option Bool} {dd:Option Addr} {k0 k1 k2 k3 k5:Option Value}
theorem qDD {e t0:Addr} {od:Option Addr} {vs:Array Value} {rest:List Value} {Q:Value->Shared->Prop} (T:OwnTail h bmV bm) (hC:h.get? C=some (excClassObj nm q C N bs bm hdct sn sub ab col dd k0 k1 k2 k3 k5 "ValueError.__new__"))
  (he:h.get? e=some ⟨.ref C,od,.fields vs,#[]⟩) (hz:vs.size=6) (h0:vs[0]? = some (.ref t0)) (hrest:rest.length≤sizeLine)
  (hq:∀ h' vs',h'.get? e=some ⟨.ref C,od,.fields vs',#[]⟩->vs'.size=6->(∃ t1,vs'[0]? = some (Value.ref t1))->vs'[1]? = vs[1]? -> vs'[2]? = vs[2]? -> (∀ b o,b≠e->h.get? b=some o->h'.get? b=some o)->Q .none ⟨h',g,d,t,os⟩) :
  wpAny (model prog w) A (call (.builtin "ValueError.__init__") (.ref e::rest)) Q E ⟨h,g,d,t,os⟩:=by
 have F:=CT;refine Bk (Bc F.init.plain F.initEntry (wpAny_check_init_subU F T hC he rfl ?_))
 wp_walk
 rw [h0];refine AB ?_;have e1:(h.push { cls := .type "tuple",data := .seq rest.toArray }).get? e=some ⟨.ref C,od,.fields vs,#[]⟩:=AC _ he;refine AA (BL e1 rfl (by rw [hz];decide) ?_)
 wp_walk
 refine hq _ (vs.setIfInBounds 0 (.ref h.objs.size)) ?_ (by rw [Array.size_setIfInBounds,hz]) ⟨h.objs.size,?_⟩ (Array.getElem?_setIfInBounds_ne (by decide)) (Array.getElem?_setIfInBounds_ne (by decide)) fun b o hb q => ?_
 ·exact As _ e1 rfl
 ·rw [Array.getElem?_setIfInBounds_self_of_lt (by rw [hz];decide)]
 ·exact (Aa _ _ (Ne.symm hb)).trans (AC _ q)
theorem qEd {mN:Str->Option Value} {rest:List Value} {fI:Addr} {oI:Obj} {Q:Value->Shared->Prop} (T:OwnTail h bmV bm)
  (hC:h.get? C=some (excClassObj nm q C N bs bm hdct sn sub ab col dd k0 k1 k2 k3 k5 "ValueError.__new__")) (hn:h.Ns N mN) (hi:mN "__init__" = some (.ref fI)) (hfI:h.get? fI=some oI) (hfc:oI.cls = .type "function") (hrest:rest.length≤sizeLine)
  (hq:wpAny (model prog w) (A.under (.builtin "type.__call__" ⟨.ref C::rest,[]⟩)) (call (.ref fI) (.ref (h.objs.size + 1)::rest)) (fun r s'=>r = .none∧Q (.ref (h.objs.size + 1)) s') E
   ⟨(h.push { cls := .type "tuple",data := .seq rest.toArray }).push { cls := .ref C,data := .fields #[.ref h.objs.size,.none,.none,.none,.bool false,.none] },g,d,t,os⟩) :
  wpAny (model prog w) A (call (.ref C) rest) Q E ⟨h,g,d,t,os⟩:=by
 have F:=CT;have f1:=tc_lookup;have f2:=tc_bind (.ref C);have hT:(⟨h,g,d,t,os⟩:Shared).TypeIs (.ref C) "type" := ⟨_,hC,rfl⟩;refine Bk (codeAny_of_tree ?_);show wpAny _ _ (callAny (.ref C) _) _ _ _;repeat (any_goals (first |assumption |with_reducible refine BX hC ?_ |wp_step))
 refine ⟨rfl,?_⟩;refine codeAny_call_builtin_at (Cg _ (by decide +kernel)) entry_typeCall (wpAny_check_type_call_sub hC ?_)
 repeat (first |with_reducible refine BX hC ?_ |with_reducible refine wpAny_madeBy_exc hC ?_ |wp_step)
 refine codeAny_call_builtin_code (Cg _ F.quiet) (wpAny_check_new_subU F F.hasB T hC ?_);refine codeAny_exc_new_subU F F.hasB F T hC ?_ hrest;change wpAny _ _ _ _ _ ⟨(h.push { cls := .type "tuple",data := .seq rest.toArray }).push { cls := .ref C,data := .fields #[.ref h.objs.size,.none,.none,.none,.bool false,.none] },g,d,t,os⟩;generalize hh:(h.push { cls := .type "tuple",data := .seq rest.toArray }).push { cls := .ref C,data := .fields #[.ref h.objs.size,.none,.none,.none,.bool false,.none] }=h1 at hq ⊢;have kp:∀ b o,h.get? b=some o->h1.get? b=some o:=fun b o z=>by rw [← hh];exact AC _ (AC _ z)
 have hget:h1.get? (h.objs.size + 1)=some { cls := .ref C,data := .fields #[.ref h.objs.size,.none,.none,.none,.bool false,.none] }:=by
  rw [← hh]
  have:=AT (h.push { cls := .type "tuple",data := .seq rest.toArray }) (o:={ cls := .ref C,data := .fields #[.ref h.objs.size,.none,.none,.none,.bool false,.none] }) rfl
  rwa [A3] at this
 have hC1:=kp _ _ hC;have hfI1:=kp _ _ hfI;have hn1:h1.Ns N mN:=let ⟨o,es,ep,e,r⟩:=hn;⟨o,es,ep,kp _ _ e,r⟩
 have T1:=T.keeps kp;have hcC:(Value.ref C::bm).contains (.ref C)=true:=by simp
 unfold isInstance;repeat (first |with_reducible refine BX hget ?_ |(with_reducible refine wpAny_isSubtype_exc hC1 ?_;rw [hcC]) |wp_step)
 show wpAny _ _ (typeLookup (.ref C) _) _ _ _;refine wpAny_typeLookup_tail hC1 hn1 T1 F.mroIs F.init.lookup ?_;rw [hi];refine Ae (AA ?_);unfold bindSpecial;refine AA (BZ (T := "function") ⟨_,hfI1,hfc⟩ ?_);rw [AF (by decide)]
 refine AB (AA (Bb hq (fun r s' hr => ?_) fun _ _ x=>x));obtain ⟨rfl,hQ⟩:=hr
 wp_walk
 exact hQ
end
section
variable {X:Cx} {pins:List (Addr×Obj)} {σ:L2.St} {H:Hp} {s:Shared} {C f:Addr}
theorem qIG {a:Addr} {o:HO} (e:H a=some o):upd H a o=H:=by
 funext b;unfold upd;by_cases z:b=a
 ·rw [AF z,z,e]
 ·rw [AJ z]
theorem qEB {pl:Sem Bool} {B:Addr} {bn:Str} {np apos pos:Pos} {e:Expr} {es:List Expr} {t:TA} (hg:Gl X bn) (hm:X.mg bn=some (.ref B)) (hr:W.readsIn X.K B (.type "type")=true)
  (hf:W.findCls X.K (.ref B) (.type "type") "__init__" = some (.val (.builtin "ValueError.__init__"))) (hs:W.specialIn X.K (.ref B) "__getattribute__" = some (some (.builtin "type.__getattribute__"))) (M:MkX X.K C f) (ha:PA X (e::es) t)
  (hdb:(bn==("__debug__":Str))=false:=by decide) (he:starEach (e::es) X.env=(false,eval e X.env)::starEach es X.env:=by rfl) (hpl:(backTo pos (starEach es X.env)).any (·.1)=false:=by rfl)
  (ht:eval (.Call (.Attribute (.Name bn np) "__init__" apos) (e::es) [] pos) X.env=(do
   let ov ← eval (.Name bn np) X.env
   standAt apos.atName
   let (f,first) ← holding [ov] (getMethod ov "__init__" pl)
   callWith pos f first (backTo pos (starEach (e::es) X.env)) (backToKw pos (keywordEach [] X.env))):=by rfl) :
  PE X (.Call (.Attribute (.Name bn np) "__init__" apos) (e::es) [] pos) (fun σ H Q=>t σ H fun vs H1 => ∃ a x,vs=[.ref a,.str x]∧H1 a=some (ExO a C none)∧Q .non H1):=by
 intro pins s σ H Q I h;refine W.methodCall_KW (pl:=pl) (Z2 I hg hm (W.method_cls I.kIn hs (W.cls_value I.kIn hr hf rfl ?_)) hdb) ht;have ha':=ha pos pins _ σ H _ (I.tok (s.toks + 1)) h;show wpAny _ _ (callWith pos (.builtin "ValueError.__init__") [] (backTo pos (starEach (e::es) X.env)) []) _ _ _;rw [he] at ha' ⊢;refine Calls.callWith_builtin (by show (false || (backTo pos (starEach es X.env)).any (·.1))=false;rw [hpl];rfl) (Calls.evalArgs_plain (thn ha' fun us s1 ⟨vs,H1,I1,r1,a,x,ev,ea,q⟩ => ?_))
 subst ev;cases r1 with |cons r1 r2=>cases r2 with |cons r2 r3=>cases r3 with |nil =>
 obtain ⟨tx,rfl⟩:=r2;obtain rfl:=r1;obtain ⟨bm,N,nm,qn,bs,hd,sn,sb,ab,co,dd,k0,k1,k2,k3,k5,mN,o1,o2,o3,o4⟩:=JW I1.kIn M;obtain ⟨ws,g1,g2,g3,g4,t0,g5⟩:=YT I1.hok ea;obtain ⟨hh,g,d,tk,os⟩:=s1;refine qDD o4 o1 g1 g2 g5 (show 1≤sizeLine by decide) fun h' ws' q1 q2 q3 q4 q5 q6=>⟨.non,H1,?_,rfl,q⟩
 have:=I1.write (x:=a) (e:=a) (o:=ExO a C none) (h':=h') (t':=tk) (by rw [ea];exact True.intro) (.inl rfl) (fun b u hb z=>q6 b u hb z) ⟨_,q1⟩ (qBH q1 q2 (q4.trans g3) (q5.trans g4) q3)
 rwa [qIG ea] at this
def spI (C:Addr) (n1 n2:Str) (ok:Int->Int->Bool):Sp:=fun vs H Q _ => ∃ e m n,vs=[.ref e,.int m,.int n]∧H e=some (ExO e C none)∧ok m n=true ∧
 ∀ d H',H d=none->d≠e->H' e=some (ExO e C (some d))->H' d=some (DxO d [(n1,.int m),(n2,.int n)])->(∀ b,b≠e->b≠d->H' b=H b)->Q .non H'
theorem qGu {k:Nat} {fd:FuncData} {ps:List Str} {n1 n2:Str} {ok:Int->Int->Bool} {m n:Int} {us:List Value} {Q:Value->Shared->Prop} (M:MkX X.K C f) (F:FnOk X.prog X.w X.K X.mg X.base (CXF X.prog X.w) k f fd ps (spI C n1 n2 ok)) (hr:Room (k + 1) X.A) (hb:Binds X.K fd ps [])
  (I:L2.Inv X pins σ H s) (r:Vals [.int m,.int n] us) (hok:ok m n=true)
  (h:∀ e d H' s',s.heap.objs.size≤e->H e=none->H d=none->d≠e->H' e=some (ExO e C (some d))->H' d=some (DxO d [(n1,.int m),(n2,.int n)])->(∀ b,b≠e->b≠d->H' b=H b)->L2.Inv X pins σ H' s'->Q (.ref e) s') :
  wpAny (model X.prog X.w) X.A (call (.ref C) us) Q X.xe s:=by
 obtain ⟨bm,N,nm,qn,bs,hd,sn,sb,ab,co,dd,k0,k1,k2,k3,k5,mN,o1,o2,o3,o4⟩:=JW I.kIn M;obtain ⟨oI,f1,f2⟩:∃ oI,s.heap.get? f=some oI∧oI.cls = .type "function" := by have z:(List.lookup f X.K).map (fun o=>o.cls)=some (.type "function"):=BK.mp M.fn;obtain ⟨oI,h1,h2⟩:=Option.map_eq_some_iff.mp z;exact ⟨oI,I.kIn _ _ h1,h2⟩
 obtain ⟨hh,g,d,tk,os⟩:=s;have hz:us.length≤sizeLine:=by rw [← r.length];exact (by decide:2≤sizeLine)
 refine qEd o4 o1 o2 o3 f1 f2 hz ?_;generalize hh1:(hh.push { cls := .type "tuple",data := .seq us.toArray }).push { cls := .ref C,data := .fields #[.ref hh.objs.size,.none,.none,.none,.bool false,.none] }=h1;have kp:∀ b o,hh.get? b=some o->h1.get? b=some o:=fun b o z=>by rw [← hh1];exact AC _ (AC _ z)
 have e1:h1.get? (hh.objs.size + 1)=some { cls := .ref C,data := .fields #[.ref hh.objs.size,.none,.none,.none,.bool false,.none] }:=by
  rw [← hh1]
  have:=AT (hh.push { cls := .type "tuple",data := .seq us.toArray }) (o:={ cls := .ref C,data := .fields #[.ref hh.objs.size,.none,.none,.none,.bool false,.none] }) rfl
  rwa [A3] at this
 have fr:H (hh.objs.size + 1)=none:=I.hok.fresh (CG _);have I2:=I.laid (a:=hh.objs.size + 1) (o:=ExO (hh.objs.size + 1) C none) (h':=h1) (t':=tk) kp (CG _) (qBH e1 rfl rfl rfl ⟨_,rfl⟩);have r2:Vals (V.ref (hh.objs.size + 1)::[.int m,.int n]) (Value.ref (hh.objs.size + 1)::us) := .cons rfl r;have sp:spI C n1 n2 ok (V.ref (hh.objs.size + 1)::[.int m,.int n]) (upd H (hh.objs.size + 1) (ExO (hh.objs.size + 1) C none)) (fun v H'=>v = .non ∧ ∃ d,H d=none∧d≠hh.objs.size + 1∧H' (hh.objs.size + 1)=some (ExO (hh.objs.size + 1) C (some d))∧H' d=some (DxO d [(n1,.int m),(n2,.int n)]) ∧ ∀ b,b≠hh.objs.size + 1->b≠d->H' b=H b) (fun _ _ _=>False):=by refine ⟨_,m,n,rfl,qw,hok,fun d H' q1 q2 q3 q4 q5=>⟨rfl,d,by rwa [qS q2] at q1,q2,q3,q4,fun b z1 z2=>by rw [q5 b z1 z2,qS z1]⟩⟩
 have hl:(Value.ref (hh.objs.size + 1)::us).length=ps.length:=by rw [← r2.length];exact F.len _ _ _ _ sp
 refine Bk (codeAny_mono (F.run _ X.stack _ _ ⟨Value.ref (hh.objs.size + 1)::us,[]⟩ (Value.ref (hh.objs.size + 1)::us) _ _ _ (hr.make C us []) (I2.env0.make C us []) (by have:=hb ⟨h1,g,d,tk,os⟩ (Value.ref (hh.objs.size + 1)::us) I2.kIn (by rw [BA];exact hl);rwa [BA] at this) r2 sp) fun rr s' hq' => ?_)
 cases rr with
 |error e=>obtain ⟨_,_,_,_,_,_,_,_,_,_,_,_,q⟩:=hq';exact q.elim
 |ok fl =>
  cases fl with
  |ret u =>obtain ⟨v,H',I3,rv,ev,d,q1,q2,q3,q4,q5⟩:=I2.after hq';subst ev;exact ⟨rv,h _ d H' s' (CG _) fr q1 q2 q3 q4 q5 I3⟩
  |next=>exact False.elim hq'
  |brk=>exact False.elim hq'
  |cont=>exact False.elim hq'
end
section
variable {M:Model} {A:Around} {E:Value->Shared->Prop} {env:Env}
variable {nm q:Str} {C N:Addr} {bs bm:List Value} {hdct:Bool} {sn:List Str} {sub:List Value} {ab:Bool} {col:Option Bool} {dd:Option Addr} {k0 k1 k2 k3 k5:Option Value} {newId:String}
theorem qFb {s:Shared} {x:Sem Value} {Q:Flow->Shared->Prop} (hbase:bm.contains (.type "BaseException")=true) (hh:A.handled=none)
  (h:wpAny M A x (fun v s₁ => ∃ e od vs,v = .ref e∧s₁.heap.get? C=some (excClassObj nm q C N bs bm hdct sn sub ab col dd k0 k1 k2 k3 k5 newId)∧s₁.heap.get? e=some ⟨.ref C,od,.fields vs,#[]⟩∧vs[1]? = some Value.none∧E (.ref e) s₁) E s) :
  wpAny M A (raiseStmt env (some x) none) Q E s:=by
 have hcB:(Value.ref C::bm).contains (.type "BaseException")=true:=by rw [List.contains_cons,hbase,Bool.or_true]
 unfold raiseStmt;refine AA (Bb h (fun v s₁ h₁ => ?_) fun _ _ x=>x);obtain ⟨e,od,vs,rfl,hC,he,h1,hE⟩:=h₁;obtain ⟨hp,g,d,tk,os⟩:=s₁;repeat (first |with_reducible refine BX he ?_ |with_reducible refine BX hC ?_ |(with_reducible refine wpAny_isSubtype_exc hC ?_;rw [hcB]) |wp_step)
 rw [h1];refine AB ?_;rw [AJ (show ¬ ((Value.none != Value.none)=true) by decide)]
 exact AB (wpAny_raiseNew_none hh hE)
end
section
variable {P:Program} {w:World} {K:W.Frag} {mg:Str->Option Value} {base:Heap} {N:List Str} {qual:Str} {scope:Scope} {f:Addr} {cd:Value} {A:Around} {outer:List Env} {s₀:Shared} {H₀:Hp} {E:XK}
def Y6 (H:Hp) (e d:Addr) (fs:List (Str×V)):Hp:=fun b=>if b=e then none else if b=d then some (.xd fs) else H b
theorem qA8 {pins:List (Addr×Obj)} {σ:L2.St} {H:Hp} {s:Shared} {C e d:Addr} {fs:List (Str×V)} (I:L2.Inv (Qq (CXF P w) P w K mg base N qual scope f cd A outer s₀ H₀ E) pins σ H s) (he:H e=some (ExO e C (some d))) (hd:H d=some (DxO d fs)) (hde:d≠e)
  (hn:s₀.heap.get? e=none) (q:E (.ref C) (some d) (Y6 H e d fs)):(Qq (CXF P w) P w K mg base N qual scope f cd A outer s₀ H₀ E).xe (.ref e) s:=by
 have hfr:(envOfC qual scope s₀.heap.objs.size f cd).frame=some s₀.heap.objs.size:=rfl;have ef:frs (Qq (CXF P w) P w K mg base N qual scope f cd A outer s₀ H₀ E).stack=s₀.heap.objs.size::frs outer:=Yp hfr;have Ib:Un (frs outer) [] H₀ H s₀.heap s.heap:=I.base;have ne:∀ b o,s₀.heap.get? b=some o->b≠s₀.heap.objs.size:=fun b o e=>AV (AK e);have nee:∀ b o,s₀.heap.get? b=some o->b≠e:=fun b o z1 z2=>by rw [z2,hn] at z1;cases z1
 generalize hB:W.hideAll s.heap (e::frs (Qq (CXF P w) P w K mg base N qual scope f cd A outer s₀ H₀ E).stack)=B;have toB:∀ b o,s.heap.get? b=some o->b≠e->b ∉ frs (Qq (CXF P w) P w K mg base N qual scope f cd A outer s₀ H₀ E).stack->B.get? b=some o:=fun b o z1 z2 z3=>by rw [← hB];exact W.hideAll_get _ z1 fun z=>(AD.mp z).elim z2 z3
 have ofB:∀ b o,B.get? b=some o->s.heap.get? b=some o:=fun b o e=>by rw [← hB] at e;exact W.of_hideAll _ e
 have trk:∀ b u,H b=some u->b ∉ frs (Qq (CXF P w) P w K mg base N qual scope f cd A outer s₀ H₀ E).stack:=fun b u e z=>by rw [I.stkFree b z] at e;cases e
 have fun1:s.heap.FunFrames B (Qq (CXF P w) P w K mg base N qual scope f cd A outer s₀ H₀ E).stack:=by
  have:=W.funFrames_hide (as:=e::frs (Qq (CXF P w) P w K mg base N qual scope f cd A outer s₀ H₀ E).stack) I.stack fun env he a ha=>AE _ (Bw.mpr ⟨env,he,ha⟩)
  rwa [hB] at this
 have eB:B.get? e=none:=by rw [← hB];exact W.hideAll_none _ AH
 obtain ⟨vs,g1,g2,g3,g4,g5⟩:=YT I.hok he;have noE:∀ b u,H b=some u->(∀ φ,u ≠ .ext φ)->b≠e∧b≠d:=fun b u z n=>⟨fun y=>by rw [y,he] at z;cases z;exact n _ rfl,fun y=>by rw [y,hd] at z;cases z;exact n _ rfl⟩
 have fl:∀ b u,H b=some u->(∀ φ,u ≠ .ext φ)->Y6 H e d fs b=some u:=fun b u z n=>by unfold Y6;rw [AJ (noE b u z n).1,AJ (noE b u z n).2,z]
 refine Zu (s:=s) I.ok.frames fun1 hfr (fun b o z=>ofB b o z) eB g1 rfl g3 g4 fun h2 x u=>⟨e,.ref C,some d,B,Y6 H e d fs,rfl,x,?_,I.os,I.bare,?_,fun b hb o e1 => ?_,q⟩
 ·intro b u e1;unfold Y6 at e1;by_cases z1:b=e
  ·rw [AF z1] at e1;cases e1
  rw [AJ z1] at e1;by_cases z2:b=d
  ·rw [AF z2] at e1;cases e1;subst z2;obtain ⟨mA,n1,r,wi⟩:=qE9 I.hok hd;exact ⟨mA,n1.at fun o z=>toB b o z z1 (trk b _ hd),r⟩
  rw [AJ z2] at e1;exact (I.hok b u e1).stay (fun c v hc z=>toB c v z (hc.elim (fun y=>by rw [y];exact z1) fun y=>(noE c _ y (fun _=>nofun)).1) (hc.elim (fun z=>by rw [z];exact trk b u e1) fun z=>trk c _ z)) (fun c z=>fl c _ z (fun _=>nofun)) fun c xs z=>fl c _ z (fun _=>nofun)
 ·refine ⟨fun b o z n hb => ?_,fun b o z n => ?_,fun b o z hb => ?_,fun b xs z=>fl b _ (Ib.tups b xs z) (fun _=>nofun),fun b o u z=>fl b _ (Ib.frzs b o u z) (fun _=>nofun),fun b ps z => ?_⟩
  ·exact toB b o (Ib.keep b o z n hb (by simp)) (nee b o z) (by rw [ef];intro y;exact (AD.mp y).elim (ne b o z) hb)
  ·have y:=Ib.free b o z n (by simp)
   unfold Y6;rw [AJ (nee b o z),AJ (fun y2=>by rw [y2,hd] at y;cases y)]
   exact y
  ·obtain ⟨o',e'⟩:=Ib.there b o z (by simp)
   exact ⟨o',toB b o' e' (nee b o z) (by rw [ef];intro y;exact (AD.mp y).elim (ne b o z) hb)⟩
  ·obtain ⟨more,y⟩:=Ib.tbls b ps z;exact ⟨more,fl b _ y (fun _=>nofun)⟩
 ·obtain ⟨sl1,e2⟩:=Ib.slot b o e1 (I.ok.frf b hb) hb (by simp)
  have nf:∀ vs,o.data ≠ .fields vs:=by obtain ⟨_,o2,ho2,nf⟩:=I.ok.funs.mem hb;have e1:(Qq (CXF P w) P w K mg base N qual scope f cd A outer s₀ H₀ E).s₀.heap.get? b=some o:=e1;rw [e1] at ho2;cases ho2;exact nf
  obtain ⟨sl3,e3⟩:=u b _ e2 nf;exact ⟨sl3,e3⟩
def RzI (X:Cx) (E:XK):Prop := ∀ (pins:List (Addr×Obj)) (σ:L2.St) (H:Hp) (s:Shared) (C e d:Addr) (fs:List (Str×V)),L2.Inv X pins σ H s->H e=some (ExO e C (some d))->H d=some (DxO d fs)->d≠e->X.s₀.heap.get? e=none->E (.ref C) (some d) (Y6 H e d fs)->X.xe (.ref e) s
theorem qIP:RzI (Qq (CXF P w) P w K mg base N qual scope f cd A outer s₀ H₀ E) E:=fun _ _ _ _ _ _ _ _ I he hd hde hn q=>qA8 I he hd hde hn q
end
section
variable {X:Cx} {E:XK} {x:Str} {C f:Addr} {e:Expr} {es:List Expr} {t:TA} {np cpos pos:Pos} {n1 n2:Str} {ok:Int->Int->Bool}
theorem qDi {k:Nat} {fd:FuncData} {ps:List Str} (hz:RzI X E) (hc:X.calm=true) (hg:Gl X x) (hm:X.mg x=some (.ref C)) (M:MkX X.K C f) (F:FnOk X.prog X.w X.K X.mg X.base (CXF X.prog X.w) k f fd ps (spI C n1 n2 ok)) (hr:Room (k + 1) X.A) (hb:Binds X.K fd ps []) (ha:PA X (e::es) t)
  (hdb:(x==("__debug__":Str))=false:=by decide) (he:starEach (e::es) X.env=(false,eval e X.env)::starEach es X.env:=by rfl) (hpl:(backTo cpos (starEach es X.env)).any (·.1)=false:=by rfl) :
  PS X (.Raise (some (.Call (.Name x np) (e::es) [] cpos)) none pos) (fun D σ H=>t σ H fun vs H1 => ∃ m n,vs=[.int m,.int n]∧ok m n=true ∧ ∀ ea d,H1 d=none->H1 ea=none->d≠ea -> ∀ H',H' d=some (.xd [(n1,.int m),(n2,.int n)])->H' ea=none->(∀ b,b≠ea->b≠d->H' b=H1 b)->E (.ref C) (some d) H'):=by
 intro pins s σ H D I h;obtain ⟨bm,N,nm,qn,bs,hd,sn,sb,ab,co,dd,k0,k1,k2,k3,k5,mN,o1,o2,o3,o4⟩:=JW I.ok.mod.kin M;have hbase:bm.contains (.type "BaseException")=true:=o4.hasType PySem.F.excBase_ValueError.hasBase;rw [arm_exec_Raise];refine AA (B6 (qFb (C:=C) (nm:=nm) (q:=qn) (N:=N) (bs:=bs) (bm:=bm) (hdct:=hd) (sn:=sn) (sub:=sb) (ab:=ab) (col:=co) (dd:=dd) (k0:=k0) (k1:=k1) (k2:=k2) (k3:=k3) (k5:=k5) (newId := "ValueError.__new__") hbase (I.ok.hd hc) (AA (Bb (BY (Z2 I hg hm ?_ hdb)) (fun v s₃ h₃=>AA (B6 (AB h₃))) fun _ _ x=>x))));refine W.callWith_K (h₀:=X.base) I.ok.mod.kin M.kp (thn (ha cpos pins s σ H _ I h) fun us s1 ⟨vs,H1,I1,r1,m,n,ev,hm1,q⟩=>⟨I1.kIn,?_⟩) he hpl;subst ev;refine qGu M F hr hb I1 r1 hm1 fun ea d H' s' z0 z1 z2 z3 z4 z5 z6 I2 => ?_;obtain ⟨ws,g1,g2,g3,g4⟩:=YT I2.hok z4;have h0:X.s₀.heap.get? ea=none:=Heap.get?_none_of_le (Ac I1.sz z0);refine ⟨ea,some d,ws,rfl,I2.bk _ _ o1,g1,g3,hz pins σ H' s' C ea d _ I2 z4 z5 z3 h0 (q ea d z2 z1 z3 _ ?_ ?_ fun b y1 y2 => ?_)⟩
 ·unfold Y6;rw [AJ z3,AF rfl]
 ·unfold Y6;rw [AF rfl]
 ·unfold Y6;rw [AJ y1,AJ y2,z6 b y1 y2]
end
section
variable {P:Program} {w:World} {K:W.Frag} {mg:Str->Option Value} {base:Heap} {C f:Addr}
theorem qBw {X : Cx} {o value : Expr} {n : Str} {pos' pos : Pos} {ta tv : TE} (ha : PE X o ta) (hv : PE X value tv) (c : ExC X.K C) (na : Zg X.K C n) (hs : swapsWith value (some (.Attribute o n pos')) pos.line X.env=pure false) :
    PS X (.Assign [.Attribute o n pos'] value pos) (fun D σ H=>tv σ H fun y H1=>ta σ H1 fun x H2 => ∃ a, x = .ref a ∧
      ((H2 a=some (ExO a C none) ∧ ∀ d, H2 d=none->d≠a->D.nx σ (upd (upd (upd H2 d (DxO d [])) a (ExO a C (some d))) d (DxO d [(n, y)]))) ∨
       ∃ d fs, H2 a=some (ExO a C (some d))∧H2 d=some (DxO d fs)∧d≠a∧fs.length < 1000∧n ∉ fs.map (·.1)∧D.nx σ (upd H2 d (DxO d (fs++[(n, y)]))))):=by
  intro pins s σ H D I h;refine plainObj_wpAny_Assign_Attribute (thn (hv pins s σ H _ I h) fun u s1 ⟨y, H1, I1, ry, q⟩=>thn (ha pins s1 σ H1 _ I1 q) fun ov s2 ⟨x, H2, I2, rx, a, ex, q2⟩ => ?_) hs;subst ex;obtain rfl : ov=Value.ref a:=rx;rcases q2 with ⟨e1, q3⟩ |⟨d, fs, e1, e2, hde, hz, hf, q3⟩
  · exact qFz I2 e1 c na ry fun d s3 z1 z2 I3=>⟨σ, _, I3, q3 d z1 z2⟩
  · exact qE3 I2 e1 e2 hde hz c na ry (fun s3 I3=>⟨σ, _, I3, q3⟩) hf
def qHZ (C : Addr) (n : Str) (ta tv : TE) : TS:=fun D σ H=>tv σ H fun y H1=>ta σ H1 fun x H2 => ∃ a, x = .ref a ∧
      ((H2 a=some (ExO a C none) ∧ ∀ d, H2 d=none->d≠a->D.nx σ (upd (upd (upd H2 d (DxO d [])) a (ExO a C (some d))) d (DxO d [(n, y)]))) ∨
       ∃ d fs, H2 a=some (ExO a C (some d))∧H2 d=some (DxO d fs)∧d≠a∧fs.length < 1000∧n ∉ fs.map (·.1)∧D.nx σ (upd H2 d (DxO d (fs++[(n, y)]))))
def qIH (C:Addr) (t:TA):TE:=fun σ H Q=>t σ H fun vs H1 => ∃ a x,vs=[.ref a,.str x]∧H1 a=some (ExO a C none)∧Q .non H1
def qKR (te:TE):TE:=fun σ H Q=>te σ H fun v H1 => ∃ i,v = .int i∧i.natAbs.log2 < 1920∧Q (.str (toString i)) H1
abbrev TJ:=Str->L2.St->Hp->(Str->Hp->Prop)->Prop
def qKB:TJ:=fun out _ H Q=>out.length≤sizeLine∧Q out H
def qBP (te:TE) (t:TJ):TJ:=fun out σ H Q=>te σ H fun v H1 => ∃ y,v = .str y∧(out++y).length≤sizeLine∧t (out++y) σ H1 Q
def qKe (t:TJ):TE:=fun σ H Q=>t Str.empty σ H fun x H1=>Q (.str x) H1
def okI (x1:Str) (m n:Int):Bool:=decide (m.natAbs.log2 < 1920)&&decide (n.natAbs.log2 < 1920)&&decide ((Str.empty++(toString m:Str)).length≤sizeLine)&&decide ((Str.empty++(toString m:Str)++x1).length≤sizeLine)&&decide ((Str.empty++(toString m:Str)++x1++(toString n:Str)).length≤sizeLine)
def qKE (C:Addr) (n1 n2 x1:Str):TS:=qJa (qHg (qIH C (qFA (Y1 0) (qFA (qKe (qBP (qKR (Y1 1)) (qBP (tC (.str x1)) (qBP (qKR (Y1 2)) qKB)))) qJy)))) (qJa (qHZ C n1 (Y1 0) (Y1 1)) (qHZ C n2 (Y1 0) (Y1 2)))
theorem qEa {n1 n2 x1 qual:Str} {st:Stmt} {fd:FuncData} (FF:Fun K "__init__" qual st f fd) (S:FnScope ["self",n1,n2] ["self",n1,n2] (qJ st)) (hne:n2 ∉ [n1])
  (hb:∀ (cdv:Value) (A:Around) (outer:List Env) (s:Shared) (H:Hp) (E:XK),PSs (Qq (CXF P w) P w K mg base ["self",n1,n2] qual (qJ st) f cdv A outer s H E) (qY st) (qKE C n1 n2 x1)):FnOk P w K mg base (CXF P w) 1 f fd ["self",n1,n2] (spI C n1 n2 (okI x1)):=by
 obtain ⟨oc,od,kV,doc,pm,an,cdv,ct,osl,rfl,lk,hcd⟩:=FF.ex;refine qHd lk hcd S (fun vs H Q E ⟨e,m,n,z,_⟩=>by rw [z];rfl) fun A outer s H vs Q E hr0 hcm ⟨e,m,n,ev,he,hok,q⟩ => ?_
 subst ev;unfold okI at hok;simp only [Ab,decide_eq_true_eq] at hok;obtain ⟨⟨⟨⟨k1,k2⟩,k3⟩,k4⟩,k5⟩:=hok;refine ⟨_,hb cdv A outer s H E,?_⟩;refine ⟨_,rfl,_,rfl,m,rfl,k1,_,rfl,k3,_,rfl,k4,_,rfl,n,rfl,k2,_,rfl,k5,k5,?_⟩;refine ⟨e,_,rfl,he,?_⟩;refine ⟨_,rfl,_,rfl,e,rfl,.inl ⟨he,fun d z1 z2 => ?_⟩⟩;refine ⟨_,rfl,_,rfl,e,rfl,.inr ⟨d,[(n1,.int m)],by rw [qS (Ne.symm z2),qw],qw,z2,(show 1 < 1000 by decide),hne,?_⟩⟩
 refine q d _ z1 z2 (by rw [qS (Ne.symm z2),qS (Ne.symm z2),qw]) qw fun b y1 y2 => ?_
 rw [qS y2,qS y2,qS y1,qS y2]
end
section
variable {M:Model} {A:Around} {E:Value->Shared->Prop} {h:Heap} {g:Array GenState} {d:Drawn} {t:Nat} {os:OsState} {K:W.Frag} {C Bx:Addr} {dd:Option Addr} {cd:ClassData} {sl:Array (Option Value)} {e:Addr} {oe:Obj} {Q:Bool->Shared->Prop}
theorem Jn (X:K.In h) (o1:K.lookup Bx=some ⟨.type "type",dd,.cls cd,sl⟩) (m1:W.mroIn K Bx (.type "BaseException")=some true) (he:h.get? e=some oe) (hc:oe.cls = .ref C) (m2:W.mroIn K C (.ref Bx)=some false)
  (hq:Q false ⟨h,g,d,t,os⟩):wpAny M A (excMatches (.ref e) (.ref Bx)) Q E ⟨h,g,d,t,os⟩:=by
 have hB:=X _ _ o1;have L4:=Bh (M:=M) X m1;have L5:=Bh (M:=M) X m2;have f:=tc_notTuple;unfold excMatches;repeat (first |(with_reducible refine BX he ?_;rw [hc]) |with_reducible refine BX hB ?_ |with_reducible refine L4.at ?_ |with_reducible refine L5.at ?_ |wp_step)
 exact hq
end
section
variable {X:Cx}
def tSu (i k:Nat) (th:TS) (D:Ends) (cls:Value) (dd:Option Addr) (H1:Hp):Prop := ∀ (σ':L2.St) (ea:Addr) (oe:Obj),σ'.length=k->H1 ea=none->oe.cls=cls->oe.dict=dd->(∃ vs,oe.data = .fields vs) ->
 th { nx:=fun σ2 H2=>D.nx (σ2.set i none) H2,rt:=D.rt,bk:=fun σ2 H2=>D.bk (σ2.set i none) H2,ct:=fun σ2 H2=>D.ct (σ2.set i none) H2 } (σ'.set i (some (.ref ea))) (upd H1 ea (.frz oe qGy))
theorem qHc {pins:List (Addr×Obj)} {s:Shared} {σ:L2.St} {H:Hp} {x n:Str} {i:Nat} {Bx:Addr} {dd:Option Addr} {cd:ClassData} {sl:Array (Option Value)} {b0:Stmt} {suite:List Stmt} {np hpos:Pos} {rest:List ExceptHandler} {th:TS} {D:Ends} {σ':L2.St} {H' H1:Hp} {s1 s2:Shared} {ea C:Addr} {d2:Option Addr} {B h5:Heap}
  (I:L2.Inv X pins σ H s) (FX:FrameX X) (hc:X.calm=true) (hN:X.N.Nodup) (hi:X.N[i]? = some n) (hl:X.env.scope.names.lookup n=some .local) (hg:Gl X x) (hm:X.mg x=some (.ref Bx)) (o1:X.K.lookup Bx=some ⟨.type "type",dd,.cls cd,sl⟩) (m1:W.mroIn X.K Bx (.type "BaseException")=some true) (m2:W.mroIn X.K C (.ref Bx)=some true)
  (hh:∀ ea,PSs (suX X ea) (b0::suite) th) (hdb:(x==("__debug__":Str))=false) (J':L2.Inv X pins σ' H' s1) (hok1:HOk X.prog X.w H1 B) (os:s2.os=s1.os) (bare:AllBare s2.gens) (un:UnB (frs X.stack) H' H1 s1.heap B) (sl1:∀ b∈frs X.stack,∀ o,s1.heap.get? b=some o -> ∃ sl,s2.heap.get? b=some { o with slots:=sl })
  (ns5:h5.Ns X.env.globals X.mg) (k5:X.K.In h5) (x5:Fly B (X.env::X.outer) ea (.ref C) d2 .none h5) (u45:s2.heap.UpToSlots h5) (q2:tSu i X.N.length th D (.ref C) d2 H1) :
  wpAny (model X.prog X.w) X.A (handleBy (.ref ea) X.env (.ExceptHandler (some (.Name x np)) (some n) (b0::suite) hpos::rest)) (SP X pins D) X.xe { s2 with heap:=h5 }:=by
 obtain ⟨_,_,_,oe5,_,_,_,_,he5,hc5,_⟩:=id x5;have stk1:s1.heap.FunFrames X.base X.stack:=J'.stack;refine wpAny_handleBy_cons (codeAny_handlers_test (B4 I.ok.kind hg (Calls.loadGlobal_global ns5 hm ?_) hdb)) (by intro q;cases q)
 refine Js k5 o1 m1 he5 hc5 m2 (codeAny_handlers_suite_as (qBz x5 fun h6 x6 u6 => ?_));have u26:s2.heap.UpToSlots h6:=u45.trans u6;obtain ⟨k1,k2,k3,oe,vs,T,oT,ts,g1,g2,g3,g4,g5,g6,g7⟩:=x6;have nf:∀ b∈frs X.stack,∀ o,s1.heap.get? b=some o -> ∀ vs,o.data ≠ .fields vs:=fun b hb o z=>by obtain ⟨_,o2,ho2,nf⟩:=stk1.mem hb;rw [z] at ho2;cases ho2;exact nf
 have slN:∀ b∈frs X.stack,∀ o,s1.heap.get? b=some o -> ∃ sl,h6.get? b=some { o with slots:=sl }:=fun b hb o z=>by obtain ⟨sl2,z2⟩:=sl1 b hb o z;obtain ⟨sl3,z3⟩:=u26 b _ z2 (nf b hb o z);exact ⟨sl3,z3⟩
 have I6:L2.Inv X pins σ' H1 { s2 with heap:=h6 }:=J'.call' (s':={ s2 with heap:=h6 }) (ch:=[]) os (CXF.un (P:=X.prog) (w:=X.w) (s:=s1) (s':={ s2 with heap:=h6 }) k1 un slN) (hok1.kept k1) bare fun b z=>by cases z
 have neW:∀ b o,s1.heap.get? b=some o->b≠ea:=fun b o z hz=>by
  subst hz;by_cases hb:b∈frs X.stack
  ·obtain ⟨sl2,z2⟩:=slN b hb o z;rw [g1] at z2;cases z2;exact nf b hb o z vs g4
  ·obtain ⟨o',z'⟩:=un.there b o z hb;rw [k2] at z';cases z'
 have hn1:H1 ea=none:=by
  cases z:H1 ea with
  |none=>rfl
  |some u=>obtain ⟨o',z'⟩:=got (hok1 ea u z);rw [k2] at z';cases z'
 have I7:L2.Inv X pins σ' (upd H1 ea (.frz oe qGy)) { s2 with heap:=h6 }:=by
  refine qDQ I6 hn1 g1 ?_ ?_ (fun x c z => ?_) fun p hp => ?_
  ·cases z:X.s₀.heap.get? ea with
   |none=>rfl
   |some o=>obtain ⟨o',z'⟩:=J'.base.there ea o z (by rw [FX.ex];simp);exact (neW ea o' z' rfl).elim
  ·obtain ⟨m,⟨o,_,_,z,_⟩,_⟩:=J'.loc;exact Ne.symm (neW _ o z)
  ·obtain ⟨v,o,z',_⟩:=J'.cell x c z;exact neW c o z'
  ·exact neW p.1 p.2 (J'.pin p hp).1
 have I8:=qC9 I7 qw g4 g6;refine zw (X:=suX X ea) (v := .ref ea) I8 hN hi (.inl hl) (show RelV (.ref ea) (.ref ea) from rfl) (fun s7 I9 => ?_) (.inr hl);have hlen:σ'.length=X.N.length:=J'.len;refine wpAny_noRaise (thn (hh ea pins s7 _ _ _ I9 (q2 σ' ea oe hlen hn1 g2 g3 ⟨vs,g4⟩)) fun f s8 q => ?_);have hp:(X.env.scope.kind == .class || (X.env.scope.kind == .module&&X.env.locals != X.env.globals))=false:=by rw [I.ok.kind];rfl
 have goes:∀ {σ8:L2.St} {H8:Hp} {Q:Shared->Prop},L2.Inv (suX X ea) pins σ8 H8 s8->(∀ s9,L2.Inv X pins (σ8.set i none) H8 s9->Q s9)->wpAny (model X.prog X.w) X.A (do bindName X.env n .none;unbindBehindTheSuite X.env n hpos) (fun _ s9=>Q s9) X.xe s8:=fun {σ8 H8 Q} I8 hQ=>by have I9:=Jw I.ok hc I8;obtain ⟨m,hn,hl'⟩:=id I9.loc;exact wpAny_nameGoes_keeps hl hn hp fun h9 v hn9 hs9=>hQ _ (qEq I9 hN hi hl' hn9 hs9)
 cases f with
 |next=>obtain ⟨σ8,H8,I8,q8⟩:=q;exact goes I8 fun s9 I9=>⟨_,H8,I9,q8⟩
 |brk=>obtain ⟨σ8,H8,I8,q8⟩:=q;exact goes I8 fun s9 I9=>⟨_,H8,I9,q8⟩
 |cont=>obtain ⟨σ8,H8,I8,q8⟩:=q;exact goes I8 fun s9 I9=>⟨_,H8,I9,q8⟩
 |ret u=>obtain ⟨v,σ8,H8,I8,r8,q8⟩:=q;exact goes I8 fun s9 I9=>⟨v,_,H8,I9,r8,q8⟩
theorem qF3 {x y n:Str} {i:Nat} {Bx By:Addr} {dd dd':Option Addr} {cd cd':ClassData} {sl sl':Array (Option Value)} {body:List Stmt} {b0 b1:Stmt} {suite suite':List Stmt} {np hpos np' hpos' pos:Pos} {ok ok':Value->Prop} {tb:XK->TS} {th th':TS} (FX:FrameX X) (hc:X.calm=true) (hN:X.N.Nodup) (hi:X.N[i]? = some n) (hl:X.env.scope.names.lookup n=some .local)
  (hg:Gl X x) (hm:X.mg x=some (.ref Bx)) (o1:X.K.lookup Bx=some ⟨.type "type",dd,.cls cd,sl⟩) (m1:W.mroIn X.K Bx (.type "BaseException")=some true) (hok:∀ v,ok v -> ∃ C,v = .ref C∧W.mroIn X.K C (.ref Bx)=some true)
  (hg':Gl X y) (hm':X.mg y=some (.ref By)) (o1':X.K.lookup By=some ⟨.type "type",dd',.cls cd',sl'⟩) (m1':W.mroIn X.K By (.type "BaseException")=some true) (hok':∀ v,ok' v -> ∃ C,v = .ref C∧W.mroIn X.K C (.ref Bx)=some false∧W.mroIn X.K C (.ref By)=some true)
  (hb:∀ (pins:List (Addr×Obj)) (xe:Value->Shared->Prop) (E':XK),zx (CXF X.prog X.w) (qAJ X pins xe) E'->PSs (qAJ X pins xe) body (tb E')) (hh:∀ ea,PSs (suX X ea) (b0::suite) th) (hh':∀ ea,PSs (suX X ea) (b1::suite') th') (hdb:(x==("__debug__":Str))=false:=by decide) (hdb':(y==("__debug__":Str))=false:=by decide) :
  PS X (.Try body [.ExceptHandler (some (.Name x np)) (some n) (b0::suite) hpos,.ExceptHandler (some (.Name y np')) (some n) (b1::suite') hpos'] [] [] pos) (fun D σ H=>tb (fun cls dd H1=>(ok cls∧tSu i X.N.length th D cls dd H1)∨(ok' cls∧tSu i X.N.length th' D cls dd H1)) D σ H):=by
 intro pins s σ H D I h;refine wpAny_Try_except ?_;generalize hE:(fun (cls:Value) (dd:Option Addr) (H1:Hp)=>(ok cls∧tSu i X.N.length th D cls dd H1)∨(ok' cls∧tSu i X.N.length th' D cls dd H1))=E' at h;refine Bb (hb pins _ E' ?_ [] s σ H D (qHH I) h) (fun f s1 q => ?_) fun e s1 q=>q
 rotate_left
 ·have q:=qFs q;cases f with
  |next=>exact wpAny_execs_nil q
  |brk=>exact q
  |cont=>exact q
  |ret u=>exact q
 ·intro pins' σ' H' s1 e s2 J c;obtain ⟨ea,cls,d2,B,H1,rfl,fl,hok1,os,bare,un,sl1,qE⟩:=c;have J':=zJ J;rw [← hE] at qE;have fr':X.A.frames=some (X.env::X.outer):=by rw [← FX.stk];exact I.ok.frames
  have fl':Fly B (X.env::X.outer) ea cls d2 .none s2.heap:=by rw [← FX.stk];exact fl
  have un:UnB (frs X.stack) H' H1 s1.heap B:=un;have sl1:∀ b∈frs X.stack,∀ o,s1.heap.get? b=some o -> ∃ sl,s2.heap.get? b=some { o with slots:=sl }:=sl1;have stk1:s1.heap.FunFrames X.base X.stack:=J'.stack;have baseB:∀ b o,X.base.get? b=some o->B.get? b=some o:=fun b o z=>un.keep b o (J'.bs b o z).1 (J'.bs b o z).2 fun hm=>by rw [(stk1.mem hm).1] at z;cases z
  refine jA (A:=X.A) fr' FX.fr fl' fun h4 x4 u4=>qBz x4 fun h5 x5 u5 => ?_;have ns5:h5.Ns X.env.globals X.mg:=by rw [I.ok.glob];exact I.mod.glob.keeps fun b o z=>x5.1 b o (baseB b o z)
  have k5:X.K.In h5:=I.ok.mod.kin.keeps fun b o z=>x5.1 b o (baseB b o z);rcases qE with ⟨q1,q2⟩ |⟨q1,q2⟩
  ·obtain ⟨C,rfl,m2⟩:=hok cls q1;exact qHc (s2:=s2) I FX hc hN hi hl hg hm o1 m1 m2 hh hdb J' hok1 os bare un sl1 ns5 k5 x5 (u4.trans u5) q2
  ·obtain ⟨C,rfl,m3,m2⟩:=hok' cls q1;obtain ⟨_,_,_,oe5,_,_,_,_,he5,hc5,_⟩:=id x5;refine wpAny_handleBy_cons (codeAny_handlers_test (B4 I.ok.kind hg (Calls.loadGlobal_global ns5 hm ?_) hdb)) (by intro q;cases q)
   refine Jn k5 o1 m1 he5 hc5 m3 ?_;exact qHc (s2:=s2) I FX hc hN hi hl hg' hm' o1' m1' m2 hh' hdb' J' hok1 os bare un sl1 ns5 k5 x5 (u4.trans u5) q2
end
end EX
end
section
namespace EV
open PySem PySem.Spec PyProof.Rows L2 EX
section
variable {X:Cx} {E:XK} {e:Expr} {es:List Expr} {pos:Pos}
def qIa:Stmt->Stmt
 | .ClassDef _ _ _ (b::_) _ _ _ _ _ _ _=>b
 |s=>s
def xcI (C:Addr) (n1 n2:Str) (ok:Int->Int->Bool):List PV->qB->RS
 |[.int m,.int n],s=>if ok m n=true then .ex ⟨C,[(n1,m),(n2,n)]⟩ s else .no
 |_,_ => .no
def Z0 (C:Addr) (n1 n2:Str) (ok:Int->Int->Bool) (t:FA):FS:=fun r st=>match t r st with
 | .ok ps s=>xcI C n1 n2 ok ps s
 | .ex x s => .ex x s
 | .no => .no
theorem qC0 {x:Str} {C f:Addr} {n1 n2:Str} {ok:Int->Int->Bool} {t:FA} {np cpos:Pos} {k:Nat} {fd:FuncData} {ps:List Str} (hz:RzI X E) (hc:X.calm=true) (hg:Gl X x) (hm:X.mg x=some (.ref C)) (M:MkX X.K C f) (F:FnOk X.prog X.w X.K X.mg X.base (CXF X.prog X.w) k f fd ps (spI C n1 n2 ok)) (hr:Room (k + 1) X.A) (hb:L2.Binds X.K fd ps []) (ha:VA X E (e::es) t) (hdb:(x==("__debug__":Str))=false:=by decide)
  (he:starEach (e::es) X.env=(false,eval e X.env)::starEach es X.env:=by rfl) (hpl:(backTo cpos (starEach es X.env)).any (·.1)=false:=by rfl):VS X E (.Raise (some (.Call (.Name x np) (e::es) [] cpos)) none pos) (Z0 C n1 n2 ok t) :=
 PS.imp (qDi hz hc hg hm M F hr hb ha hdb he hpl) fun D s H ⟨b,r,st,S,R,P⟩=>⟨b,r,st,S,R,by
  unfold Z0 at P;cases ef:t r st with
  |no=>rw [ef] at P;exact P.elim
  |ex x s1=>rw [ef] at P;exact P
  |ok ps s1 =>
   rw [ef] at P;dsimp only at P;unfold xcI at P;split at P
   ·rename_i m n;by_cases hl:ok m n=true
    ·rw [AF hl] at P;intro vs H' b' e' S' r';obtain ⟨v1,v2,rfl,r1,r2⟩:=RVs.two r';unfold RV at r1 r2;subst r1;subst r2;refine ⟨m,n,rfl,hl,fun ea d z1 z2 z3 H2 q1 q2 q3 => ?_⟩;have eH:H2=upd H' d (.xd [(n1,.int m),(n2,.int n)]):=by
      funext y;by_cases y1:y=d
      ·rw [y1,qw,q1]
      ·rw [qS y1];by_cases y2:y=ea
       ·rw [y2,q2,z2]
       ·exact q3 y y2 y1
     subst eH;exact P (.ref C) (some d) _ b' (e'.trans (Ext.new z1)) (S'.new z1) ⟨rfl,.inr ⟨d,rfl,qw,S'.new_notin z1⟩⟩
    ·rw [AJ hl] at P;exact P.elim
   ·exact P.elim⟩
def qAb (i n:Nat) (Fh:FS) (x:Exc) (s:qB):RS:=match Fh ((List.replicate n none).set i (some (.exc x.cls x.fs))) s with
  | .nx r' s' => .nx (r'.set i none) s'
  | .bk r' s' => .bk (r'.set i none) s'
  | .ct r' s' => .ct (r'.set i none) s'
  | .rt v s' => .rt v s'
  | .ex _ _ => .no
  | .no => .no
def YI (i n:Nat) (cs cs':List Addr) (Fb Fh Fh':FS):FS:=fun r st=>match Fb r st with
 | .ex x s=>if x.cls∈cs then qAb i n Fh x s else if x.cls∈cs' then qAb i n Fh' x s else .no
 |o=>o
theorem qHa {D:Ends} {H:Hp} {b:Bz} {s1:qB} {x:Exc} {Fh:FS} {n:Str} {i:Nat} (hi:X.N[i]? = some n) (P:PostS X.K E H b (qAb i X.N.length Fh x s1) D) {c:Value} {d:Option Addr} {H':Hp} {b':Bz} (e':Ext H b H' b') (S':SR X.K H' b' s1) (rx:RX X.K H' b' x c d) :
  tSu i X.N.length (rdS X.K E0 Fh) D c d H':=by
 obtain ⟨rc,rf⟩:=rx;intro σ' ea oe hlen hn hcls hdict hdata;refine ⟨b',(List.replicate X.N.length none).set i (some (.exc x.cls x.fs)),s1,S'.new hn,⟨by simp [hlen],fun j p hp => ?_⟩,?_⟩
 ·by_cases hj:i=j
  ·subst hj;have hl':i < X.N.length:=(AQ.mp hi).1;rw [A8 (by simpa using hl')] at hp
   cases hp;refine ⟨.ref ea,by rw [A8 (by rw [hlen];exact hl')],?_⟩
   unfold RV;refine ⟨ea,oe,_,rfl,qw,S'.new_notin hn,hcls.trans rc,hdata,rf.imp (fun q=>⟨q.1,hdict.trans q.2⟩) fun ⟨a,q1,q2,q3⟩=>⟨a,hdict.trans q1,by rw [qS (qT q2 hn)];exact q2,q3⟩⟩
  ·rw [BJ hj,Bs] at hp;split at hp <;> cases hp
 ·unfold qAb at P;have P2:=PostS.ext P (e'.trans (Ext.new (o := .frz oe qGy) hn));cases eh:Fh ((List.replicate X.N.length none).set i (some (.exc x.cls x.fs))) s1 with
  |nx r' s'=>rw [eh] at P2;exact fun s2 H2 b2 e2 S2 R2=>P2 _ H2 b2 e2 S2 (R2.lose i)
  |bk r' s'=>rw [eh] at P2;exact fun s2 H2 b2 e2 S2 R2=>P2 _ H2 b2 e2 S2 (R2.lose i)
  |ct r' s'=>rw [eh] at P2;exact fun s2 H2 b2 e2 S2 R2=>P2 _ H2 b2 e2 S2 (R2.lose i)
  |rt v s'=>rw [eh] at P2;exact P2
  |ex y s'=>rw [eh] at P2;exact P2.elim
  |no=>rw [eh] at P2;exact P2.elim
theorem qHX {x y n:Str} {Bx By:Addr} {dd dd':Option Addr} {cd cd':ClassData} {sl sl':Array (Option Value)} {body:List Stmt} {b0 b1:Stmt} {suite suite':List Stmt} {np hpos np' hpos':Pos} {cs cs':List Addr} {Fb Fh Fh':FS} (i:Nat) (FX:FrameX X) (hc:X.calm=true) (hN:X.N.Nodup)
  (hg:Gl X x) (hm:X.mg x=some (.ref Bx)) (o1:X.K.lookup Bx=some ⟨.type "type",dd,.cls cd,sl⟩) (m1:W.mroIn X.K Bx (.type "BaseException")=some true) (hcs:∀ C∈cs,W.mroIn X.K C (.ref Bx)=some true)
  (hg':Gl X y) (hm':X.mg y=some (.ref By)) (o1':X.K.lookup By=some ⟨.type "type",dd',.cls cd',sl'⟩) (m1':W.mroIn X.K By (.type "BaseException")=some true) (hcs':∀ C∈cs',W.mroIn X.K C (.ref Bx)=some false∧W.mroIn X.K C (.ref By)=some true)
  (hb:∀ (pins:List (Addr×Obj)) (xe:Value->Shared->Prop) (E':XK),zx (CXF X.prog X.w) (qAJ X pins xe) E'->VSs (qAJ X pins xe) E' body Fb) (hh:∀ ea,VSs (suX X ea) E0 (b0::suite) Fh) (hh':∀ ea,VSs (suX X ea) E0 (b1::suite') Fh')
  (hi:X.N[i]? = some n:=by rfl) (hl:X.env.scope.names.lookup n=some .local:=by rfl) (hdb:(x==("__debug__":Str))=false:=by decide) (hdb':(y==("__debug__":Str))=false:=by decide) :
  VS X E (.Try body [.ExceptHandler (some (.Name x np)) (some n) (b0::suite) hpos,.ExceptHandler (some (.Name y np')) (some n) (b1::suite') hpos'] [] [] pos) (YI i X.N.length cs cs' Fb Fh Fh'):=by
 refine PS.imp (qF3 (ok:=fun v => ∃ C∈cs,v = .ref C) (ok':=fun v => ∃ C∈cs',v = .ref C) (tb:=fun E'=>rdS X.K E' Fb) (th:=rdS X.K E0 Fh) (th':=rdS X.K E0 Fh') FX hc hN hi hl hg hm o1 m1 (fun v ⟨C,hC,e⟩=>⟨C,e,hcs C hC⟩) hg' hm' o1' m1' (fun v ⟨C,hC,e⟩=>⟨C,e,hcs' C hC⟩) hb hh hh' hdb hdb') fun D σ H ⟨b,r,st,S,R,P⟩=>⟨b,r,st,S,R,?_⟩;unfold YI at P;cases eb:Fb r st with
 |nx r' s'=>rw [eb] at P;exact P
 |rt r' s'=>rw [eb] at P;exact P
 |bk r' s'=>rw [eb] at P;exact P
 |ct r' s'=>rw [eb] at P;exact P
 |no=>rw [eb] at P;exact P
 |ex x s1 =>
  rw [eb] at P;dsimp only at P;by_cases hx:x.cls∈cs
  ·rw [AF hx] at P;exact fun c d H' b' e' S' rx => .inl ⟨⟨x.cls,hx,rx.1⟩,qHa hi P e' S' rx⟩
  ·rw [AJ hx] at P;by_cases hx':x.cls∈cs'
   ·rw [AF hx'] at P;exact fun c d H' b' e' S' rx => .inr ⟨⟨x.cls,hx',rx.1⟩,qHa hi P e' S' rx⟩
   ·rw [AJ hx'] at P;exact P.elim
theorem qFJ {prog:Program} {w:World} {A:Around} {E:Value->Shared->Prop} {s:Shared} {K:W.Frag} {x D:Addr} {ox od:Obj} {name:Str} {v:Value} {Q:Value->Shared->Prop} (C:ExcK K D) (X:K.In s.heap) (I:W.InstAt s.heap x ox D (some od)) (hf:W.findObj K D (some od) name=some (.value v)) (hv:W.handedIn v=true)
  (h:Q v { s with toks:=s.toks + 1 }):wpAny (model prog w) A (getAttr (.ref x) name true) Q E s:=by
 obtain ⟨hh,g,d,t,os⟩:=s;have L0:=I.type (M:=model prog w);have L1:=B8 (M:=model prog w) X C.ga;have L2:=B8 (M:=model prog w) X C.gn;have L3:=W.looks_find (M:=model prog w) X I hf;have L4:=Bh (M:=model prog w) X C.mb;have LI:W.Looks (model prog w) hh (isInstance (.ref x) (.type "BaseException")) true:=L0.andThen L4;have f3:=F.attr_ValueError.ga.bind (.ref x);unfold getAttr getAttrBy;refine AA (wpAny_mkText (Ae (AA (L0.at (AA (L1.at ?_))))));show wpAny _ _ (getAttrByItsOwn _ _ _ _ _ _) _ _ _;unfold getAttrByItsOwn;refine AA (L2.at (AA (Bj (Ae ?_))));show wpAny _ _ (boundAndCalled _ _ _) _ _ _;unfold boundAndCalled;refine AA (Ah f3 ?_);refine Bk (Bc F.attr_ValueError.ga.plain F.entry_bexc_ga ?_);have hk:builtinKind "BaseException.__getattribute__" = some .slot:=by decide +kernel
 have hsp:splitId "BaseException.__getattribute__" = some ("BaseException","__getattribute__"):=by decide +kernel
 have ha:=F.args_bexc_ga (.ref x) (.str name t);simp only [checkBuiltinCall,hk,hsp];refine AA (LI.at ?_);rw [AJ (show ¬ ((!true)=true) by decide)]
 refine Ah (a:=()) ha ?_;show wpAny _ A.in1 (Builtin.«object.__getattribute__» ⟨[.ref x,.str name t],[]⟩) _ _ _;unfold Builtin.«object.__getattribute__»;refine AA (AB ?_);refine AA (AB ?_);refine AA (L0.at (AA (L3.at ?_)));refine AB ?_;show wpAny _ _ (handedOut v) _ _ _;rw [W.handedOut_of hv];exact AB h
theorem qF7 {C:Addr} {n:Str} {te:TE} (hk:ExcK X.K C) (hd:W.hasDictIn X.K C=true) (hn:Zg X.K C n) (he:PE X e te) (hb:attributeBase e n X.env (eval e X.env)=eval e X.env) :
  PE X (.Attribute e n pos) (fun σ H Q=>te σ H fun v H1 => ∃ a o u d fs i,v = .ref a∧H1 a=some (.frz o u)∧o.cls = .ref C∧(∃ vs,o.data = .fields vs)∧o.dict=some d∧H1 d=some (.xd fs)∧fs.lookup n=some (.int i)∧Q (.int i) H1):=by
 intro pins s σ H Q I h;refine qGA hb (thn (he pins s σ H _ I h) fun u s1 ⟨x,H1,I1,rx,a,o,u2,d,fs,i,ex,ea,q1,⟨vs,q2⟩,q3,q4,q5,q6⟩ => ?_);subst ex;obtain rfl:u=Value.ref a:=rx;obtain ⟨g1,_⟩:=(show ObjOk X.prog X.w H1 s1.heap a (.frz o u2) from I1.hok a _ ea);obtain ⟨mA,n1,r⟩:=(show ObjOk X.prog X.w H1 s1.heap d (.xd fs) from I1.hok d _ q4);obtain ⟨od,hod,hl⟩:=qDN n1;obtain ⟨u,hu,ru⟩:=RelO.some_of (v := .int i) (o:=mA n) (by rw [← q5];exact r n)
 obtain ⟨oc,odi,oda,osl⟩:=o;dsimp only at q1 q2 q3;subst q1;subst q2;subst q3;exact qFJ hk I1.kIn (ox:=⟨.ref C,some d,.fields vs,osl⟩) (od:=od) ⟨g1,rfl,rfl,hod⟩ (W.findObj_own hd hn rfl (by rw [hl,hu])) (qDO ru) ⟨.int i,H1,I1.tok _,ru,q6⟩
def qCT (C:Addr) (n:Str):PV->Option Int
 | .exc c fs=>if c=C then fs.lookup n else none
 |_=>none
def yZ (C:Addr) (n:Str) (f:FE):FE:=fun r st=>(f r st).bind fun v s=>match qCT C n v with
 |some i => .ok (.int i) s
 |none => .no
theorem ye (n:Str):∀ fs:List (Str×Int),(fs.map fun p=>(p.1,V.int p.2)).lookup n=(fs.lookup n).map V.int
 |[]=>rfl
 |(k,v)::r=>by
  rw [An,Ap,Ap];cases n==k
  ·exact ye n r
  ·rfl
theorem qBx {C:Addr} {n:Str} {f:FE} (hk:ExcK X.K C) (hd:W.hasDictIn X.K C=true) (hn:Zg X.K C n) (h:VE X E e f) (hb:attributeBase e n X.env (eval e X.env)=eval e X.env:=by rfl):VE X E (.Attribute e n pos) (yZ C n f) :=
 PE.imp (qF7 hk hd hn h hb) fun s H Q ⟨b,r,st,S,R,P⟩=>⟨b,r,st,S,R,by
  unfold yZ at P;cases ef:f r st with
  |no=>rw [ef] at P;exact P.elim
  |ex x s1=>rw [ef] at P;exact P
  |ok v s1 =>
   rw [ef] at P;cases v with
   |exc c fs =>
    change PostE X.K E H b (match (if c=C then fs.lookup n else none) with |some i=>Rs.ok (.int i) s1 |none => .no) Q at P;by_cases z:c=C
    ·rw [AF z] at P;subst z;cases el:fs.lookup n with
     |none=>rw [el] at P;exact P.elim
     |some i =>
      rw [el] at P;intro v H' b' e' S' r';unfold RV at r';obtain ⟨a,o,u,rfl,q1,_,q3,q4,q5⟩:=r';rcases q5 with ⟨z,_⟩ |⟨d,q6,q7,_⟩
      ·rw [z] at el;cases el
      ·exact ⟨a,o,u,d,_,i,rfl,q1,q3,q4,q6,q7,by rw [ye,el];rfl,P _ H' b' e' S' Qx⟩
    ·rw [AJ z] at P;exact P.elim
   |_=>exact P.elim⟩
theorem qKl {a:Expr} {n:Str} {f:FE} {g:FA} (h:VE X E (.Attribute a n pos) f) (h2:VA X E es g):VA X E (.Attribute a n pos::es) (qA f g):=wD h h2 rfl
end
end EV
end
section
namespace EX
open PySem PySem.Spec PyProof.Rows L2
end EX
namespace EV
open PySem PySem.Spec PyProof.Rows L2 EX
end EV
end
section
namespace EX
open PySem PySem.Spec PyProof.Rows L2
end EX
namespace EV
open PySem PySem.Spec PyProof.Rows L2 EX
end EV
end
section
namespace EX
open PySem PySem.Spec PyProof.Rows L2
end EX
namespace EV
open PySem PySem.Spec PyProof.Rows L2 EX
end EV
end
section
namespace EV
open PySem PySem.Spec PyProof.Rows L2 EX
section
variable {X:Cx} {E:XK} {e a c d:Expr} {es:List Expr} {f fa fb fc:FE} {fl:FL} {pos:Pos} {F G:FS}
theorem qFQ {ta:FA} {p:Pos} (ha:VA X E (e::es) ta) (hm:X.mg "abs" = none) (hg:Gl X "abs" := by rfl) (he:starEach (e::es) X.env=(false,eval e X.env)::starEach es X.env:=by rfl) (hpl:(backTo pos (starEach es X.env)).any (·.1)=false:=by rfl):VE X E (.Call (.Name "abs" p) (e::es) [] pos) (qI qBU ta) :=
 WZ qFj qJT hg hm PyProof.Rows.boot_abs ha (he:=he) (hpl:=hpl)
def qBn (f:FE) (lo hi:FO):FE:=fun r st=>(f r st).bind fun p s1=>(lo r s1).bind fun k s2=>(hi r s2).bind fun m s3=>match asL s3 p with
 |some l => .ok (.lst (wl l k m)) s3
 |none => .no
theorem wn {l:List PV} {xs:List V} (h:l.length=xs.length) {K:W.Frag} {H:Hp} {b:Bz} (r:RVs K H b l xs) (k m:Option Int):RVs K H b (wl l k m) (Y5 xs k m):=by unfold wl Y5;rw [h];exact RVs.take _ (RVs.drop _ r)
theorem qD0 {lo hi:Option Expr} {flo fhi:FO} {p2:Pos} (h:VE X E e f) (hl:VO X E lo flo) (hh:VO X E hi fhi):VE X E (.Subscript e (.Slice lo hi none p2) pos) (qBn f flo fhi) :=
 PE.imp (J8 qGE h hl hh) fun s H Q ⟨b,r,st,S,R,P⟩=>⟨b,r,st,S,R,PostE.bind P fun p s1 u H1 b1 e1 S1 r1 P1=>⟨b1,r,s1,S1,R.ext e1,PostO.bind P1 fun k s2 H2 b2 e2 S2 P2=>⟨b2,r,s2,S2,(R.ext e1).ext e2,PostO.bind P2 fun m s3 H3 b3 e3 S3 P3=>by
  split at P3
  ·rename_i l el;obtain ⟨x,xs,rfl,h2,h3⟩:=wA S3 (RV.ext e3 _ (RV.ext e2 _ r1)) el;refine ⟨x,xs,rfl,h2,fun p hp=>PostN.lay (PostN.of (r := .ok (wl l k m) s3) P3) S3 (wn h3.length h3 k m) hp⟩
  ·exact P3.elim⟩⟩⟩
end
end EV
end
section
namespace EX
open PySem PySem.Spec PyProof.Rows L2
end EX
namespace EV
open PySem PySem.Spec PyProof.Rows L2 EX
end EV
end
section
namespace EX
open PySem PySem.Spec PyProof.Rows L2
def byT (w:World):Bool:=w.params.followText "set-order"
section
variable {prog:Program} {w:World} {A:Around} {E:Value->Shared->Prop} {s:Shared}
theorem qCb {a:Value} {Q:Value->Shared->Prop} (h:Q (.ref s.heap.objs.size) { s with heap:=s.heap.push { cls := .type "set",data := .set #[] 0 (SetTable.fresh 0 0 (!byT w)) } }) :
  codeAny (model prog w) A (.call (.builtin "set.__new__") ⟨[.type "set",a],[]⟩) (wants Q E) s:=by
 refine Bc F.plain_set_new F.entry_set_new (Ah (F.newCall_set_1 a) ?_);unfold Builtin.«set.__new__» Builtin.Frozenset.newClass;dsimp only;refine AA (AA (Ah (a:=true) rfl ?_));rw [AJ (by decide)]
 refine AA (Ah sub_set_self ?_);rw [AJ (by decide)]
 refine AB (AA ?_);unfold newSet setsByText;refine AA (AA (CA (AB ?_)));dsimp only;unfold newObj;dsimp only;rw [AJ (by decide)]
 unfold newObjAsIs;refine AA (wpAny_alloc ?_);dsimp only;exact AB (AB h)
end
theorem j0:entryFor table "set.__iter__" = some Builtin.«frozenset.__iter__» := entryFor_alias (id' := "frozenset.__iter__") (by kernel_rfl) (by kernel_rfl) (by kernel_rfl) (by kernel_rfl)
theorem Zk:entryFor table "set_iterator.__next__" = some Builtin.«set_iterator.__next__» := entryFor_of_fast (by kernel_rfl)
theorem slot_setit:Slot "set_iterator" (Str.ofString "__next__") "set_iterator.__next__" := @Slot.of "set_iterator" (Str.ofString "__next__") "set_iterator.__next__" "set_iterator" "__next__" (by rw [typeLookup_type,builtinLookup_eq_fast];rfl) (by decide) (by decide) (by decide) (Or.inl (by decide +kernel)) (by rw [isSubtype_type];rfl) (by decide +kernel)
theorem YG (a:Value):argsOk "set_iterator.__next__" { pos:=[a] }:=by
 unfold argsOk
 kernel_rfl
theorem qCB {α:Type}:∀ {l:List α} {i:Nat} (h:i < l.length),(l[i]::l.eraseIdx i).Perm l
 |x::l,0,_ => .refl _
 |x::l,i + 1,h=>(List.Perm.swap x _ _).trans ((qCB (l:=l) (i:=i) (by simpa using h)).cons x)
theorem qCc {α:Type} (next:Nat->Nat):∀ (n k:Nat) (left:List α) (out:Array α),left.length=n->(pickOrder.go next n k left out).toList.Perm (out.toList++left)
 |0,k,left,out,h=>by
  have:left=[]:=List.eq_nil_of_length_eq_zero h
  subst this;show out.toList.Perm _;rw [BA]
 |n + 1,k,left,out,h=>by
  have hl:next k % left.length < left.length:=Nat.mod_lt _ (by omega)
  show (match left[next k % left.length]? with |some x=>pickOrder.go next n (k + 1) (left.eraseIdx (next k % left.length)) (out.push x) |none=>out).toList.Perm _;rw [AL hl];dsimp only;refine (qCc next n (k + 1) _ _ (by rw [List.length_eraseIdx_of_lt hl];omega)).trans ?_
  rw [Array.toList_push,A4];exact List.Perm.append_left _ (qCB hl)
def wc (w:World) (a:Addr) (ep:Nat) (es:Array (Int×Value)):Array (Int×Value):=if byT w=true then pickOrder (w.params.setOrder a ep) es else es
theorem qAl {w:World} {a:Addr} {ep:Nat} {es:Array (Int×Value)}:(wc w a ep es).toList.Perm es.toList:=by
 unfold wc;split
 ·exact qCc _ _ _ _ _ (by simp)
 ·exact .refl _
theorem zI {w:World} {a:Addr} {ep:Nat} {es:Array (Int×Value)}:(wc w a ep es).size=es.size:=by
 have:=(qAl (w:=w) (a:=a) (ep:=ep) (es:=es)).length_eq
 rwa [AW,AW] at this
theorem jH:entryFor table "list.extend.loop" = some Builtin.«list.extend.loop» := entryFor_of_fast (by kernel_rfl)
theorem W8:plainId "list.extend.loop" = true:=by decide +kernel
section
variable {prog:Program} {w:World} {A:Around} {E:Value->Shared->Prop} {R:Result->Shared->Prop} {a it:Addr} {es:Array (Int×Value)} {ep:Nat} {t:SetTable}
theorem hint_set {s:Shared} {Q:Bool->Shared->Prop} (hT:s.TypeIs (.ref a) "set") (h:Q false s):wpAny (model prog w) A (Builtin.List.listLengthHint (.ref a)) Q E s:=by
 unfold Builtin.List.listLengthHint;refine AA (Cc hT F.slot_set_len.lookup ?_);dsimp only;rw [show splitId "set.__len__" = some ("set","__len__") by decide]
 dsimp only;refine AA (BE hT sub_set_self ?_);rw [AJ (by decide),AF (by decide +kernel)]
 exact AA (BZ hT (AB h))
end
end EX
namespace EV
open PySem PySem.Spec PyProof.Rows L2 EX
section
variable {X:Cx} {E:XK} {e:Expr} {f:FE} {p p2 pos pos2:Pos}
theorem zq {K:W.Frag} {H:Hp} {b:Bz}:∀ (ns:List Int),RVs K H b (ns.map PV.int) (ns.map V.int)
 |[]=>RVs.nil
 |n::ns=>RVs.cons Qx (zq ns)
end
end EV
end
section
namespace EX
open PySem PySem.Spec PyProof.Rows L2
inductive LexG (A:Around) (s:Shared) (r:Bool):List Value->List Value->Prop where
 |nn:r=false->LexG A s r [] []
 |nc {w ws}:r=true->LexG A s r [] (w::ws)
 |cn {v vs}:r=false->LexG A s r (v::vs) []
 |eq {v vs w ws}:SeqAt.EqAt A s v w true->LexG A s r vs ws->LexG A s r (v::vs) (w::ws)
 |ne {v vs w ws}:SeqAt.EqAt A s v w false->(∀ (prog:Program) (wd:World) (E:Value->Shared->Prop) (Q:Value->Shared->Prop),Q (.bool r) s->wpAny (model prog wd) A (richCompare .Lt v w) Q E s)->LexG A s r (v::vs) (w::ws)
section
open PySem.SeqAt
open PySem.AutoSeq1 (wpAny_loadPart')
open PySem.MeetsSeq PySem.MeetsSeq2 PySem.MeetsSeq3
theorem jm (l b:Addr) (items items2:Array Value) (n n2:Nat) (dd dd2:Option Addr) (sl sl2:Array (Option Value)) (r:Bool) :
  Meets (Builtin.«tuple.__lt__» ⟨[.ref l,.ref b],[]⟩)
   (fun A R s=>s.heap.get? l=some { cls := .type "tuple",dict:=dd,data := .seq items n,slots:=sl }∧s.heap.get? b=some { cls := .type "tuple",dict:=dd2,data := .seq items2 n2,slots:=sl2 }∧LexG A.in1 s r items.toList items2.toList ∧
    R (.ok (.ret (.bool r))) s) :=
 .of_wp fun prog w A R s h=>by
  obtain ⟨hp,g,d,tk,os⟩:=s;obtain ⟨hl,hb,hG,h⟩:=h;have f2:=AutoSeq1.sub_tuple_tuple
  wp_walk using wpAny_loadPart' hl,wpAny_loadPart' hb,wpAny_forIn_list _ (fun rest b s'=>b.1=none∧s'=⟨hp,g,d,tk,os⟩ ∧ ∃ (vs ws:List Value),rest=vs.zip ws∧LexG A.in1 ⟨hp,g,d,tk,os⟩ r vs ws ∧
   vs.length + items2.size=ws.length + items.size) _
  case turn =>
   rintro ⟨y,x⟩ rest b s' ⟨hb',rfl,vs,ws,hz,hG',hlen⟩
   cases hG' with
   |nn _=>cases hz
   |nc _=>cases hz
   |cn _=>rw [List.zip_nil_right] at hz;cases hz
   |eq he hG2 =>
    rw [BP] at hz;injection hz with hyx hrest;injection hyx with hy hx;subst hy hx;simp only [AU] at hlen;refine AA (he prog w _ _ ?_)
    wp_walk
    exact ⟨rfl,rfl,_,_,hrest,hG2,by omega⟩
   |ne he hc =>
    rw [BP] at hz;injection hz with hyx hrest;injection hyx with hy hx;subst hy hx;refine AA (he prog w _ _ ?_);have hri:=hc prog w
    wp_walk using hri
    exact ⟨_,rfl,by simpa using h⟩
  case fin =>
   rintro ⟨b1,b2⟩ s' ⟨hb',rfl,vs,ws,hz,hG',hlen⟩
   simp only at hb';subst hb';have hv:r=decide (items.size < items2.size):=by
    cases hG' with
    |nn hr =>simp only [B3] at hlen;rw [hr];exact (AX (by omega)).symm
    |nc hr =>simp only [B3,AU] at hlen;rw [hr];exact (Af (by omega)).symm
    |cn hr =>simp only [B3,AU] at hlen;rw [hr];exact (AX (by omega)).symm
    |eq he hG2=>rw [BP] at hz;cases hz
    |ne he hc=>rw [BP] at hz;cases hz
   rw [hv] at h
   wp_walk
   exact ⟨_,rfl,by simpa [Builtin.Tuple.tupleCompareSizes] using h⟩
  case h =>exact ⟨rfl,rfl,items.toList,items2.toList,rfl,hG,by simp;omega⟩
end
end EX
namespace EV
open PySem PySem.Spec PyProof.Rows L2 EX
mutual
def plt:PV->PV->Option Bool
 | .int i,.int j=>some (decide (i < j))
 | .tup l,.tup m=>plts l m
 |_,_=>none
def plts:List PV->List PV->Option Bool
 |[],[]=>some false
 |[],_::_=>some true
 |_::_,[]=>some false
 |p::ps,q::qs=>if peq p q=true then plts ps qs else plt p q
end
section
variable {X:Cx} {pins:List (Addr×Obj)} {σ:L2.St} {H:Hp} {s:Shared}
def qKQ (X:Cx) (H:Hp) (s:Shared) (A:Around) (p q:PV):Prop := ∀ {v u:V} {uv uu:Value} {r:Bool},RW X.K H p v->RW X.K H q u->RelV v uv->RelV u uu->plt p q=some r ->
  ∀ (prog:Program) (wd:World) (E:Value->Shared->Prop) (Q:Value->Shared->Prop),Q (.bool r) s->wpAny (model prog wd) A (richCompare .Lt uv uu) Q E s
theorem qIr (I:L2.Inv X pins σ H s) {n:Nat} {A:Around} {r:Bool} (hu:A.units + n < cLine) (ih:∀ p q,dep p≤n->qKQ X H s A p q):∀ {l m:List PV} {xs ys:List V} {its its2:List Value},deps l≤n->RWs X.K H l xs->RWs X.K H m ys->Vals xs its->Vals ys its2->plts l m=some r->LexG A s r its its2:=by
 intro l;induction l with
 |nil =>
  intro m xs ys its its2 _ h1 h2 r1 r2 e;unfold RWs at h1;subst h1;cases r1;cases m with
  |nil=>unfold RWs at h2;subst h2;cases r2;unfold plts at e;cases e;exact .nn rfl
  |cons q qs=>unfold RWs at h2;obtain ⟨y,yr,rfl,_,_⟩:=h2;cases r2;unfold plts at e;cases e;exact .nc rfl
 |cons p ps ihl =>
  intro m xs ys its its2 hd h1 h2 r1 r2 e;unfold RWs at h1;obtain ⟨x,xr,rfl,hx,hxs⟩:=h1;unfold deps at hd;cases r1 with
  |cons rx rxs =>
   cases m with
   |nil=>unfold RWs at h2;subst h2;cases r2;unfold plts at e;cases e;exact .cn rfl
   |cons q qs =>
    unfold RWs at h2;obtain ⟨y,yr,rfl,hy,hys⟩:=h2;cases r2 with
    |cons ry rys =>
     have he:=J3 I n p q x y _ _ A (by omega) hu hx hy rx ry
     unfold plts at e;cases hq:peq p q with
     |true =>rw [hq] at e he;exact .eq he (ihl (by omega) hxs hys rxs rys e)
     |false =>rw [hq] at e he;exact .ne he (ih p q (by omega) hx hy rx ry e)
theorem qJ9 (I:L2.Inv X pins σ H s):∀ (n:Nat) (p q:PV) (A:Around),dep p≤n->A.units + n < cLine->qKQ X H s A p q:=by
 intro n;induction n with
 |zero =>
  intro p q A hd hu v u uv uu r hp hq rv ru e prog wd E Q h;cases p with
  |int i =>
   cases q with
   |int j =>unfold RW at hp hq;subst hp;subst hq;obtain ⟨t,rfl⟩:=rv;obtain ⟨t',rfl⟩:=ru;unfold plt at e;cases e;exact HT.rcLt_int A s i t j t' prog wd E Q h
   |_=>simp [plt] at e
  |tup l=>unfold dep at hd;omega
  |_=>cases q <;> simp [plt] at e
 |succ n ih =>
  intro p q A hd hu v u uv uu r hp hq rv ru e prog wd E Q h;cases p with
  |int i =>
   cases q with
   |int j =>unfold RW at hp hq;subst hp;subst hq;obtain ⟨t,rfl⟩:=rv;obtain ⟨t',rfl⟩:=ru;unfold plt at e;cases e;exact HT.rcLt_int A s i t j t' prog wd E Q h
   |_=>simp [plt] at e
  |tup l =>
   cases q with
   |tup m =>
    unfold RW at hp hq;obtain ⟨a,xs,rfl,h2,h3⟩:=hp;obtain ⟨a',ys,rfl,k2,k3⟩:=hq;cases rv;cases ru;obtain ⟨its,r1,t1,_⟩:=I.tuple h2;obtain ⟨its2,r2,t2,_⟩:=I.tuple k2;unfold plt at e;unfold dep at hd;obtain ⟨⟨cls,dd,data,sl⟩,ho,hc,n1,hda⟩:=id t1;obtain ⟨⟨cls2,dd2,data2,sl2⟩,ho2,hc2,n2,hda2⟩:=id t2;simp only at hc hda hc2 hda2;subst hc hda hc2 hda2;have hu1:A.in1.units + n < cLine:=by show A.units + 1 + n < cLine;omega
    have G:=qIr I (n:=n) (A:=A.in1) hu1 (fun p q hd=>ih p q A.in1 hd hu1) (by omega) h3 k3 r1 r2 e
    exact richCompare_meets_room (op := .Lt) ⟨_,ho,rfl⟩ ⟨_,ho2,rfl⟩ PySem.F.slot_tuple_lt PySem.F.entry_tuple_lt (PySem.F.args_tuple_lt_2 _ _) (jm _ _ its.toArray its2.toArray n1 n2 dd dd2 sl sl2 r)
     ⟨ho,ho2,by simpa using G,show Value.bool r≠Value.notImplemented∧Q (.bool r) s from ⟨(fun x=>nomatch x),h⟩⟩ (by omega)
   |_=>simp [plt] at e
  |_=>cases q <;> simp [plt] at e
end
section
variable {X:Cx} {E:XK} {a c:Expr} {fa fb:FE} {pos:Pos}
def qKm (K:W.Frag):R2:=fun u v H Q => ∃ p q r,RW K H p u∧RW K H q v∧dep p≤ym∧plt p q=some r∧Q (.bl r) H
theorem qIE (hr:X.A.units + 64 < cLine):OpR X (compareOp .Lt) (qKm X.K):=by intro pins s σ H x y v u Q I rx ry h;obtain ⟨p,q,r,hp,hq,hd,e,h⟩:=h;exact qJ9 I 60 p q X.A hd (by omega) hp hq rx ry e _ _ _ _ ⟨.bl _,H,I,rfl,h⟩
def qCn:PV->PV->qB->Rs PV:=fun p q st=>if Yu (res st p) (res st q)=true then (match plt (res st p) (res st q) with |some r => .ok (.bl r) st |none => .no) else .no
theorem qJV:OpG X E (qKm X.K) qCn:=by
 intro H b st p q u v Q S rp rq P;unfold qCn at P;split at P
 ·rename_i h;obtain ⟨h1,h2,h3⟩:=YA h;split at P
  ·rename_i r hr;exact ⟨_,_,r,ZU S rp h1,ZU S rq h2,h3,hr,PostE.here P S zN⟩
  ·exact P.elim
 ·exact P.elim
theorem qIU (hu:X.A.units + 64 < cLine) (ha:VE X E a fa) (hb:VE X E c fb):VE X E (.Compare a [.Lt] [c] pos) (qN qCn fa fb):=jr (qIE hu) qJV ha hb
end
end EV
end
section
namespace EV
open PySem PySem.Spec PyProof.Rows L2 EX
section
variable {X:Cx} {E:XK} {e:Expr} {te:TE} {f:FE} {p kp kpos pos:Pos} {j:Nat}
def qCQ:=gI fun i j=>if 0 < j∧j < 2 ^ 64 then some (.int (i / j)) else none
theorem qEN:OpR X (binaryOp .FloorDiv) (rI (fun _ j=>0 < j∧j < 2 ^ 64) fun i j => .int (i / j)):=opI fun i j _ _ _ _ _ hc q=>by
 have h1:(0:Int) < j:=hc.1;have h2:j < 2 ^ 64:=hc.2;refine floordiv_int (by omega) (by rw [Int.fdiv_eq_ediv_of_nonneg i (by omega)];exact q) (.inl (PyProof.noPylong_of_log2 ?_))
 have h3:j.natAbs < 2 ^ 64:=by omega
 have h4:j.natAbs≠0:=by omega
 exact Nat.lt_trans ((Nat.log2_lt h4).mpr h3) (by decide)
theorem qGU {a c:Expr} {fa fb:FE} (ha:VE X E a fa) (hb:VE X E c fb):VE X E (.BinOp a .FloorDiv c pos) (qN qCQ fa fb):=Z4 qEN (qFx fun i j z e=>by
 split at e
 ·rename_i h;cases e;exact ⟨h,fun _ _=>Qx⟩
 ·cases e) ha hb
end
end EV
end
section
namespace ET
open PySem
def Rz (xs:Array Nat):Prop := ∀ i k,i < k->k < xs.size->xs.getD i 0 < xs.getD k 0
theorem qGf {xs:Array Nat} {i a b:Nat} (h:i < xs.size):xs.getD i a=xs.getD i b:=by rw [AN,AN,AS h];rfl
theorem YW {xs:Array Nat} {j:Nat} (R:Rz xs):∀ (f lo hi:Nat),lo≤hi->hi≤xs.size->hi - lo≤f->(∀ i,i < lo->xs.getD i 0 < j)->(∀ i,hi≤i->i < xs.size->j≤xs.getD i 0) ->
  (∀ i,i < SetTable.below.go xs j f lo hi->xs.getD i 0 < j)∧(∀ i,SetTable.below.go xs j f lo hi≤i->i < xs.size->j≤xs.getD i 0)∧SetTable.below.go xs j f lo hi≤xs.size
 |0,lo,hi,h1,h2,h3,h4,h5=>by
  have:lo=hi:=by omega
  subst this;exact ⟨h4,h5,h2⟩
 |f + 1,lo,hi,h1,h2,h3,h4,h5=>by
  unfold SetTable.below.go;by_cases hl:lo < hi
  ·rw [AF hl];have hm1:lo≤(lo + hi) / 2:=by omega
   have hm2:(lo + hi) / 2 < hi:=by omega
   dsimp only;rw [qGf (b:=0) (show (lo + hi) / 2 < xs.size by omega)]
   by_cases hq:xs.getD ((lo + hi) / 2) 0 < j
   ·rw [AF hq];refine YW R f _ _ (by omega) h2 (by omega) (fun i hi' => ?_) h5
    by_cases he:i=(lo + hi) / 2
    ·rw [he];exact hq
    ·exact Nat.lt_trans (R i _ (by omega) (by omega)) hq
   ·rw [AJ hq];refine YW R f _ _ (by omega) (by omega) (by omega) h4 (fun i hi' hs => ?_)
    by_cases he:i=(lo + hi) / 2
    ·rw [he];omega
    ·have:=R _ i (show (lo + hi) / 2 < i by omega) hs
     omega
  ·rw [AJ hl]
   have:lo=hi:=by omega
   subst this;exact ⟨h4,h5,h2⟩
theorem WK {xs:Array Nat} (R:Rz xs) (j:Nat):(∀ i,i < SetTable.below xs j->xs.getD i 0 < j)∧(∀ i,SetTable.below xs j≤i->i < xs.size->j≤xs.getD i 0)∧SetTable.below xs j≤xs.size :=
 YW R _ _ _ (BV _) (AM _) (AM _) (fun i h=>absurd h (BN _)) (fun i h1 h2=>absurd h2 (by omega))
theorem qEM {xs:Array Nat} (R:Rz xs) {i:Nat} (h:i < xs.size):SetTable.below xs (xs.getD i 0)=i:=by
 obtain ⟨h1,h2,h3⟩:=WK R (xs.getD i 0);by_cases hq:SetTable.below xs (xs.getD i 0)=i
 ·exact hq
 ·rcases Nat.lt_or_gt_of_ne hq with q |q
  ·have:=h2 _ (AM _) (by omega)
   have:=R _ _ q h
   omega
  ·have:=h1 i q;omega
theorem qBh {xs:Array Nat} (R:Rz xs) {i:Nat} (h:i < xs.size):SetTable.below xs (xs.getD i 0 + 1)=i + 1:=by
 obtain ⟨h1,h2,h3⟩:=WK R (xs.getD i 0 + 1);by_cases hq:SetTable.below xs (xs.getD i 0 + 1)=i + 1
 ·exact hq
 ·rcases Nat.lt_or_gt_of_ne hq with q |q
  ·have:=h2 i (by omega) h
   omega
  ·have a:=h1 (i + 1) q
   have:=R i (i + 1) (by omega) (by omega)
   omega
theorem qBq {xs:Array Nat} (R:Rz xs):SetTable.below xs 0=0:=by
 obtain ⟨h1,h2,h3⟩:=WK R 0;cases h:SetTable.below xs 0 with
 |zero=>rfl
 |succ n=>have:=h1 0 (by omega);omega
theorem mem_getD {xs:Array Nat} {j:Nat}:j∈xs.toList ↔ ∃ i,i < xs.size∧xs.getD i 0=j:=by
 constructor
 ·intro h;obtain ⟨i,hi,e⟩:=List.getElem_of_mem h;refine ⟨i,by simpa using hi,?_⟩
  rw [AN,AS (by simpa using hi)]
  simpa using e
 ·rintro ⟨i,hi,rfl⟩
  rw [AN,AS hi];exact CQ.mpr (Array.getElem_mem hi)
theorem qB3 (j:Nat):SetTable.has #[] j=false:=by unfold SetTable.has;simp
theorem jJ {t:SetTable} (R:Rz t.place) {i:Nat} (h:i < t.place.size):t.slot (t.place.getD i 0) = .live i:=by unfold SetTable.slot;rw [qEM R h];dsimp only;rw [AF];rw [AN,AS h];simp
theorem qBY {t:SetTable} (hd:t.dummies = #[]) {j:Nat} (h:j ∉ t.place.toList):t.slot j = .empty:=by
 unfold SetTable.slot;dsimp only;rw [AJ,hd,qB3]
 ·simp
 ·intro q;refine h (mem_getD.mpr ⟨SetTable.below t.place j,?_⟩);have q:=eq_of_beq q;obtain ⟨h1,h2⟩:=BU.mp q;refine ⟨h1,?_⟩;rw [AN,q];rfl
def qBM (mask:Nat) (p:SetTable.Probe):SetTable.Probe :=
 if p.more > 0 then { p with j:=p.j + 1,more:=p.more - 1 } else
 { p with j:=(SetTable.leap mask p.i p.perturb).1,more:=SetTable.runEnd mask (SetTable.leap mask p.i p.perturb).1 - (SetTable.leap mask p.i p.perturb).1,i:=(SetTable.leap mask p.i p.perturb).1,perturb:=(SetTable.leap mask p.i p.perturb).2 }
theorem qJC (t:SetTable) (p:SetTable.Probe):t.advance p=qBM t.mask p:=rfl
def sq (mask:Nat) (h:Int):Nat->SetTable.Probe
 |0=>⟨SetTable.bits h % (mask + 1),SetTable.runEnd mask (SetTable.bits h % (mask + 1)) - SetTable.bits h % (mask + 1),SetTable.bits h % (mask + 1),SetTable.bits h,none⟩
 |n + 1=>qBM mask (sq mask h n)
def lp (mask:Nat) (h:Int):Nat->Nat×Nat
 |0=>(SetTable.bits h % (mask + 1),SetTable.bits h)
 |n + 1=>SetTable.leap mask (lp mask h n).1 (lp mask h n).2
def rn (mask i:Nat):Nat:=SetTable.runEnd mask i - i
def lpN (mask:Nat) (h:Int):Nat->Nat
 |0=>0
 |n + 1=>lpN mask h n + rn mask (lp mask h n).1 + 1
theorem qBG {mask:Nat} {h:Int} {m n:Nat} (e:sq mask h n=⟨(lp mask h m).1,rn mask (lp mask h m).1,(lp mask h m).1,(lp mask h m).2,none⟩):∀ k,k≤rn mask (lp mask h m).1->sq mask h (n + k)=⟨(lp mask h m).1 + k,rn mask (lp mask h m).1 - k,(lp mask h m).1,(lp mask h m).2,none⟩
 |0,_=>e
 |k + 1,hk=>by
  rw [← Nat.add_assoc,sq,qBG e k (by omega)]
  unfold qBM;rw [AF (show rn mask (lp mask h m).1 - k > 0 by omega)]
  show SetTable.Probe.mk _ _ _ _ _=_;rw [show rn mask (lp mask h m).1 - k - 1=rn mask (lp mask h m).1 - (k + 1) by omega,Nat.add_assoc]
theorem qB1 {mask:Nat} {h:Int}:∀ m,sq mask h (lpN mask h m)=⟨(lp mask h m).1,rn mask (lp mask h m).1,(lp mask h m).1,(lp mask h m).2,none⟩
 |0=>rfl
 |m + 1=>by
  rw [lpN,sq,qBG (qB1 m) _ (AM _)];unfold qBM;rw [AJ (show ¬ rn mask (lp mask h m).1 - rn mask (lp mask h m).1 > 0 by omega)]
  rfl
theorem qH5 {mask:Nat} {h:Int} {m k:Nat} (hk:k≤rn mask (lp mask h m).1):(sq mask h (lpN mask h m + k)).j=(lp mask h m).1 + k:=by rw [qBG (qB1 m) k hk]
theorem qKT (mask i:Nat):rn mask i≤9:=by unfold rn SetTable.runEnd;split <;> omega
theorem qD5 {mask:Nat} {h:Int}:∀ m,lpN mask h m≤10 * m
 |0=>AM _
 |m + 1=>by
  have:=qD5 (mask:=mask) (h:=h) m
  have:=qKT mask (lp mask h m).1
  rw [lpN];omega
theorem qJ2 {mask:Nat} {h:Int}:∀ m,(lp mask h m).1≤mask
 |0=>CK (Nat.mod_lt _ (Nat.succ_pos _))
 |m + 1=>CK (Nat.mod_lt _ (Nat.succ_pos _))
theorem qB5 {mask:Nat} {h:Int}:∀ m,(lp mask h m).2=SetTable.bits h / 32 ^ m
 |0=>by simp [lp]
 |m + 1=>by show (lp mask h m).2 / 32=_;rw [qB5 m,Nat.div_div_eq_div_mul,Nat.pow_succ]
theorem qHG (h:Int):SetTable.bits h < 2 ^ 64:=by
 unfold SetTable.bits
 have:=Int.emod_lt_of_pos h (show (0:Int) < 2 ^ 64 by decide)
 have:=Int.emod_nonneg h (show (2 ^ 64:Int)≠0 by decide)
 omega
theorem qIt {mask:Nat} {h:Int} (m:Nat) (hm:13≤m):(lp mask h m).2=0:=by rw [qB5];refine Nat.div_eq_of_lt (Ao (qHG h) ?_);exact Ac (show 2 ^ 64≤32 ^ 13 by decide) (Nat.pow_le_pow_right (by decide) hm)
def cy (mask:Nat) (a:Nat):Nat->Nat
 |0=>a
 |n + 1=>(cy mask a n * 5 + 1) % (mask + 1)
theorem y9 {mask a:Nat} (m:Nat):∀ n,cy mask (cy mask a m) n=cy mask a (m + n)
 |0=>rfl
 |n + 1=>by rw [← Nat.add_assoc,cy,cy,y9 m n]
def Cyc (mask:Nat):Prop := ∀ a,a≤mask -> ∀ e,e≤mask -> ∃ k,k≤mask∧cy mask a k=e
def cyl (mask:Nat):Nat->Nat->List Nat
 |0,_=>[]
 |n + 1,a=>a::cyl mask n ((a * 5 + 1) % (mask + 1))
theorem qCK {mask:Nat}:∀ (n a i:Nat),i < n->(cyl mask n a)[i]? = some (cy mask a i)
 |0,_,_,h=>absurd h (BN _)
 |n + 1,a,0,_=>rfl
 |n + 1,a,i + 1,h=>by
  rw [cyl,List.getElem?_cons_succ,qCK n _ i (by omega)]
  have:=y9 (mask:=mask) (a:=a) 1 i
  rw [show i + 1=1 + i by omega,← this]
  rfl
theorem qCa {mask:Nat}:∀ (n a:Nat),(cyl mask n a).length=n
 |0,_=>rfl
 |n + 1,a=>by rw [cyl,AU,qCa n]
def qKL (mask:Nat):Bool:=Nat.beq (cy mask 0 (mask + 1)) 0&&(List.range (mask + 1)).all fun e=>(cyl mask (mask + 1) 0).any fun x=>Nat.beq x e
theorem JZ {mask:Nat} (h:qKL mask=true):Cyc mask:=by
 unfold qKL at h;rw [Ab,Au] at h;obtain ⟨h0,hall⟩:=h;have h0:=Nat.eq_of_beq_eq_true h0;have hat:∀ e,e≤mask -> ∃ k,k≤mask∧cy mask 0 k=e:=fun e he=>by
  obtain ⟨x,hx,q⟩:=List.any_eq_true.mp (hall e (BI.mpr (by omega)))
  have q:=Nat.eq_of_beq_eq_true q;obtain ⟨k,hk⟩:=BS hx;have hl:=(AQ.mp hk).1;rw [qCa] at hl;rw [qCK _ _ _ hl] at hk;cases hk;exact ⟨k,by omega,q⟩
 intro a ha e he;obtain ⟨k1,h1,e1⟩:=hat a ha;obtain ⟨k2,h2,e2⟩:=hat e he;by_cases hq:k1≤k2
 ·refine ⟨k2 - k1,by omega,?_⟩
  rw [← e1,y9,show k1 + (k2 - k1)=k2 by omega,e2]
 ·refine ⟨k2 + (mask + 1) - k1,by omega,?_⟩
  rw [← e1,y9,show k1 + (k2 + (mask + 1) - k1)=(mask + 1) + k2 by omega,← y9,h0,e2]
theorem qK1:Cyc 7:=JZ (by decide +kernel)
theorem qKj:Cyc 31:=JZ (by decide +kernel)
theorem qIQ:Cyc 127:=JZ (by decide +kernel)
theorem qJg:Cyc 511:=JZ (by decide +kernel)
theorem qHq {mask:Nat} {h:Int}:∀ n,(lp mask h (13 + n)).1=cy mask (lp mask h 13).1 n
 |0=>rfl
 |n + 1=>by
  show ((lp mask h (13 + n)).1 * 5 + 1 + (lp mask h (13 + n)).2 / 32) % (mask + 1)=_;rw [qIt _ (by omega),qHq n]
  rfl
theorem qFc {mask:Nat} {h:Int} (C:Cyc mask) {e:Nat} (he:e≤mask):∃ m,m≤mask + 13∧(lp mask h m).1=e:=by obtain ⟨k,hk,q⟩:=C _ (qJ2 (mask:=mask) (h:=h) 13) e he;exact ⟨13 + k,by omega,by rw [qHq,q]⟩
theorem qIu {mask:Nat} {h:Int} (C:Cyc mask) {e:Nat} (he:e≤mask):∃ n,n < 10 * SetTable.turns mask∧(sq mask h n).j=e:=by
 obtain ⟨m,hm,q⟩:=qFc (h:=h) C he;refine ⟨lpN mask h m,?_,?_⟩
 ·have:=qD5 (mask:=mask) (h:=h) m
  unfold SetTable.turns;omega
 ·rw [qB1];exact q
structure TbG (t:SetTable) (n:Nat):Prop where
 dum:t.dummies = #[]
 sz:t.place.size=n
 ris:Rz t.place
 le:∀ j∈t.place.toList,j≤t.mask
 room:n≤t.mask
theorem qA5:∀ (n:Nat) (l:List Nat),l.length < n -> ∃ e,e < n∧e ∉ l
 |0,l,h=>absurd h (BN _)
 |n + 1,l,h=>by
  by_cases hn:n∈l
  ·obtain ⟨e,he,hq⟩:=qA5 n (l.filter (· ≠ n)) (by
    have:(l.filter (· ≠ n)).length < l.length:=by apply List.length_filter_lt_length_iff_exists.mpr;exact ⟨n,hn,by simp⟩
    omega)
   refine ⟨e,by omega,fun q=>hq (List.mem_filter.mpr ⟨q,by simp;omega⟩)⟩
  ·exact ⟨n,by omega,hn⟩
theorem TbG.free {t:SetTable} {n:Nat} (T:TbG t n):∃ e,e≤t.mask∧e ∉ t.place.toList:=by
 obtain ⟨e,h1,h2⟩:=qA5 (t.mask + 1) t.place.toList (by rw [AW,T.sz];have:=T.room;omega)
 exact ⟨e,by omega,h2⟩
theorem qAV {P:Nat->Prop} (hd:∀ n,Decidable (P n)):∀ {n:Nat},P n -> ∃ k,k≤n∧P k ∧ ∀ m,m < k -> ¬ P m
 |0,h=>⟨0,AM _,h,fun m hm=>absurd hm (BN _)⟩
 |n + 1,h=>by
  by_cases hq:∃ m,m≤n∧P m
  ·obtain ⟨m,hm,hp⟩:=hq
   have:∀ (f:Nat) (m:Nat),m≤f->P m -> ∃ k,k≤m∧P k ∧ ∀ m',m' < k -> ¬ P m':=by
    intro f;induction f with
    |zero =>
     intro m hm hp
     have:m=0:=by omega
     subst this;exact ⟨0,AM _,hp,fun m hm=>absurd hm (BN _)⟩
    |succ f ih =>
     intro m hm hp;by_cases hz:∃ m',m' < m∧P m'
     ·obtain ⟨m',h1,h2⟩:=hz;obtain ⟨k,k1,k2,k3⟩:=ih m' (by omega) h2
      exact ⟨k,by omega,k2,k3⟩
     ·exact ⟨m,AM _,hp,fun m' h1 h2=>hz ⟨m',h1,h2⟩⟩
   obtain ⟨k,k1,k2,k3⟩:=this m m (AM _) hp;exact ⟨k,by omega,k2,k3⟩
  ·exact ⟨n + 1,AM _,h,fun m hm hp=>hq ⟨m,by omega,hp⟩⟩
theorem TbG.first {t:SetTable} {n:Nat} (T:TbG t n) (C:Cyc t.mask) (h:Int):∃ k,k < 10 * SetTable.turns t.mask∧(sq t.mask h k).j ∉ t.place.toList ∧ ∀ m,m < k->(sq t.mask h m).j∈t.place.toList:=by
 obtain ⟨e,he,hq⟩:=T.free;obtain ⟨k,hk,hj⟩:=qIu (h:=h) C he;obtain ⟨k',k1,k2,k3⟩:=qAV (P:=fun k=>(sq t.mask h k).j ∉ t.place.toList) (fun _=>inferInstance) (n:=k) (by rw [hj];exact hq)
 exact ⟨k',by omega,k2,fun m hm=>Decidable.not_not.mp (k3 m hm)⟩
theorem Yi (mask:Nat) (h:Int):∀ n,(sq mask h n).dummy=none
 |0=>rfl
 |n + 1=>by
  rw [sq];unfold qBM;split
  ·exact Yi mask h n
  ·exact Yi mask h n
theorem J4 {t:SetTable} {n:Nat} (T:TbG t n) (f:Nat->Int) (h:Int) {k:Nat} (hk:(sq t.mask h k).j ∉ t.place.toList) (hb:∀ m,m < k->(sq t.mask h m).j∈t.place.toList):∀ (F m:Nat),m≤k->k - m < F ->
  ((∀ x,m≤x->x < k -> ∀ i,t.place.getD i 0=(sq t.mask h x).j->i < t.place.size->f i≠h)∧SetTable.probe.go t f h F (sq t.mask h m)=some (.empty (sq t.mask h k).j none)) ∨
  ∃ x i,m≤x∧x < k∧i < t.place.size∧t.place.getD i 0=(sq t.mask h x).j∧f i=h∧(∀ y,m≤y->y < x -> ∀ i,t.place.getD i 0=(sq t.mask h y).j->i < t.place.size->f i≠h)∧SetTable.probe.go t f h F (sq t.mask h m)=some (.candidate (sq t.mask h x).j i (sq t.mask h (x + 1)))
 |0,m,_,h2=>absurd h2 (BN _)
 |F + 1,m,h1,h2=>by
  rw [SetTable.probe.go];by_cases he:m=k
  ·subst he;left;refine ⟨fun x a b=>absurd b (by omega),?_⟩
   rw [qBY T.dum hk,Yi]
  ·have hm:=hb m (by omega)
   obtain ⟨i,hi,e⟩:=mem_getD.mp hm;have hsl:t.slot (sq t.mask h m).j = .live i:=by rw [← e];exact jJ T.ris hi
   rw [hsl];dsimp only;have uniq:∀ i',t.place.getD i' 0=(sq t.mask h m).j->i' < t.place.size->i'=i:=fun i' e' h'=>by
    rcases Nat.lt_trichotomy i' i with q |q |q
    ·have:=T.ris _ _ q hi;omega
    ·exact q
    ·have:=T.ris _ _ q h';omega
   by_cases hf:f i=h
   ·rw [AF (by rw [hf];exact Aj h)]
    right;exact ⟨m,i,AM _,by omega,hi,e,hf,fun y a b=>absurd b (by omega),rfl⟩
   ·rw [AJ (by simpa using hf)]
    have:=J4 T f h hk hb F (m + 1) (by omega) (by omega)
    rw [qJC];have hs:qBM t.mask (sq t.mask h m)=sq t.mask h (m + 1):=rfl;rw [hs];rcases this with ⟨a,b⟩ |⟨x,i',a,b,c,d,e1,e2,e3⟩
    ·left;refine ⟨fun x h1 h2 i' e' h' => ?_,b⟩;by_cases hx:x=m
     ·subst hx;rw [uniq i' e' h'];exact hf
     ·exact a x (by omega) h2 i' e' h'
    ·right;refine ⟨x,i',by omega,b,c,d,e1,fun y h1 h2 i'' e' h' => ?_,e3⟩
     by_cases hx:y=m
     ·subst hx;rw [uniq i'' e' h'];exact hf
     ·exact e2 y (by omega) h2 i'' e' h'
def Rch {α:Type} (t:SetTable) (es:List (Int×α)):Prop := ∀ q∈t.place.toList.zip es,∃ m,(sq t.mask q.2.1 m).j=q.1 ∧ ∀ m',m' < m->(sq t.mask q.2.1 m').j∈t.place.toList
theorem qGz {α:Type} (xs:Array α) (p:Nat) (x:α):(SetTable.insertAt xs p x).toList=xs.toList.take p++x::xs.toList.drop p:=by unfold SetTable.insertAt;simp [Array.toList_append,CH]
theorem ris_list {xs:Array Nat}:Rz xs ↔ xs.toList.Pairwise (· < ·):=by
 rw [List.pairwise_iff_getElem];constructor
 ·intro R i j hi hj hij
  have:=R i j hij (by simpa using hj)
  rw [AN,AN,AS (by simpa using hi),AS (by simpa using hj)] at this
  simpa using this
 ·intro R i k hik hk
  have:=R i k (by simp;omega) (by simpa using hk) hik
  rw [AN,AN,AS (by omega),AS hk]
  simpa using this
theorem qF5 {xs:Array Nat} (R:Rz xs) {j:Nat}:∀ x∈xs.toList.take (SetTable.below xs j),x < j:=by
 intro x hx;obtain ⟨i,hi,e⟩:=List.getElem_of_mem hx;rw [Bl,AW] at hi
 have:=(WK R j).1 i (by omega)
 rw [AN,AS (by omega)] at this
 rw [List.getElem_take] at e;simp at e this;omega
theorem qCe {xs:Array Nat} (R:Rz xs) {j:Nat}:∀ x∈xs.toList.drop (SetTable.below xs j),j≤x:=by
 intro x hx;obtain ⟨i,hi,e⟩:=List.getElem_of_mem hx;rw [CS,AW] at hi
 have:=(WK R j).2.1 (SetTable.below xs j + i) (by omega) (by omega)
 rw [AN,AS (by omega)] at this
 rw [List.getElem_drop] at e;simp at e this;omega
theorem qGL {xs:Array Nat} (R:Rz xs) {j:Nat} (h:j ∉ xs.toList):Rz (SetTable.insertAt xs (SetTable.below xs j) j):=by
 rw [ris_list,qGz];have P:=ris_list.mp R;rw [List.pairwise_append];refine ⟨P.sublist (List.take_sublist _ _),?_,?_⟩
 ·rw [BQ];refine ⟨fun x hx => ?_,P.sublist (List.drop_sublist _ _)⟩
  have:=qCe R x hx
  have:x≠j:=fun q=>h (by rw [← q];exact CU hx)
  omega
 ·intro a ha b hb;have h1:=qF5 R a ha;rcases AD.mp hb with q |q
  ·omega
  ·have:=qCe R b q;omega
theorem qGi {α β:Type} {xs:List α} {ys:List β} {p:Nat} {x:α} {y:β} (hl:xs.length=ys.length):(xs.take p++x::xs.drop p).zip (ys.take p++y::ys.drop p)=(xs.zip ys).take p++(x,y)::(xs.zip ys).drop p:=by rw [List.zip_append (by simp [hl]),BP,List.zip_eq_zipWith,List.zip_eq_zipWith,List.zip_eq_zipWith,List.take_zipWith,List.drop_zipWith]
theorem qBD {α:Type} {t:SetTable} {es:Array (Int×α)} {h:Int} {x:α} {k:Nat} (T:TbG t es.size) (hr:es.size + 1≤t.mask) (R:Rch t es.toList) (hjm:(sq t.mask h k).j≤t.mask) (hk:(sq t.mask h k).j ∉ t.place.toList) (hb:∀ m,m < k->(sq t.mask h m).j∈t.place.toList) :
  TbG (t.put (sq t.mask h k).j).1 (es.size + 1)∧Rch (t.put (sq t.mask h k).j).1 (SetTable.insertAt es (t.put (sq t.mask h k).j).2 (h,x)).toList∧(SetTable.insertAt es (t.put (sq t.mask h k).j).2 (h,x)).toList.Perm ((h,x)::es.toList):=by
 have hp:(t.put (sq t.mask h k).j).1.place.toList=t.place.toList.take (SetTable.below t.place (sq t.mask h k).j)++(sq t.mask h k).j::t.place.toList.drop (SetTable.below t.place (sq t.mask h k).j):=qGz _ _ _;have hmem:∀ j,j∈(t.put (sq t.mask h k).j).1.place.toList ↔ j=(sq t.mask h k).j∨j∈t.place.toList:=by
  intro j;rw [hp,Ax,AD];constructor
  ·rintro (q |q |q)
   ·exact .inr (CV q)
   ·exact .inl q
   ·exact .inr (CU q)
  ·rintro (q |q)
   ·exact .inr (.inl q)
   ·rw [← List.take_append_drop (SetTable.below t.place (sq t.mask h k).j) t.place.toList,Ax] at q;rcases q with q |q
    ·exact .inl q
    ·exact .inr (.inr q)
 refine ⟨⟨?_,?_,qGL T.ris hk,?_,hr⟩,?_,?_⟩
 ·show (if SetTable.has t.dummies _=true then SetTable.eraseAt t.dummies _ else t.dummies) = #[];rw [T.dum,qB3];rfl
 ·rw [← AW,hp]
  have:=(WK T.ris (sq t.mask h k).j).2.2
  rw [AZ,Bl,AU,CS,AW,T.sz] at *;omega
 ·intro j hj;rcases (hmem j).mp hj with q |q
  ·rw [q];exact hjm
  ·exact T.le j q
 ·intro q hq;rw [hp,qGz] at hq;have hq:q∈(t.place.toList.take (SetTable.below t.place (sq t.mask h k).j)++(sq t.mask h k).j::t.place.toList.drop (SetTable.below t.place (sq t.mask h k).j)).zip (es.toList.take (SetTable.below t.place (sq t.mask h k).j)++(h,x)::es.toList.drop (SetTable.below t.place (sq t.mask h k).j)):=hq;rw [qGi (by rw [AW,AW,T.sz]),Ax,AD] at hq
  have old:q∈t.place.toList.zip es.toList -> ∃ m,(sq t.mask q.2.1 m).j=q.1 ∧ ∀ m',m' < m->(sq t.mask q.2.1 m').j∈(t.put (sq t.mask h k).j).1.place.toList:=fun hq=>by obtain ⟨m,h1,h2⟩:=R q hq;exact ⟨m,h1,fun m' hm=>(hmem _).mpr (.inr (h2 m' hm))⟩
  rcases hq with hq |hq |hq
  ·exact old (CV hq)
  ·subst hq;exact ⟨k,rfl,fun m' hm=>(hmem _).mpr (.inr (hb m' hm))⟩
  ·exact old (CU hq)
 ·rw [qGz];refine List.perm_middle.trans ?_;rw [List.take_append_drop]
structure Ow (mask:Nat) (owner:Array (Option Nat)) (hs:List Int) (js:List Nat):Prop where
 size:owner.size=mask + 1
 len:js.length=hs.length
 iff:∀ (j k:Nat),owner[j]? = some (some k) ↔ js[k]? = some j
 way:∀ (k:Nat) (h:Int) (j:Nat),hs[k]? = some h->js[k]? = some j -> ∃ m,(sq mask h m).j=j ∧ ∀ m',m' < m->(sq mask h m').j∈js
 le:∀ j∈js,j≤mask
theorem qAa {mask:Nat} {h:Int} {a:Nat}:∀ {b:Nat},a≤b->lpN mask h a≤lpN mask h b
 |0,q=>by
  have:a=0:=by omega
  subst this;exact AM _
 |b + 1,q=>by
  by_cases e:a=b + 1
  ·subst e;exact AM _
  ·have:=qAa (mask:=mask) (h:=h) (a:=a) (b:=b) (by omega)
   rw [lpN];omega
theorem qJA {mask:Nat} {h:Int} {a b:Nat} (q:a < b):lpN mask h a < lpN mask h b:=by
 have:=qAa (mask:=mask) (h:=h) (show a + 1≤b by omega)
 rw [lpN] at this;omega
theorem qCg {mask:Nat} {owner:Array (Option Nat)} {hs:List Int} {js:List Nat} (O:Ow mask owner hs js) {h:Int} {k0:Nat} (hk:(sq mask h k0).j ∉ js) (hkm:(sq mask h k0).j≤mask) (hb:∀ m,m < k0->(sq mask h m).j∈js) :
  ∀ (F m:Nat),lpN mask h m≤k0->k0 < lpN mask h (m + F)->SetTable.layClean.free mask owner F (lp mask h m).1 (lp mask h m).2=some (sq mask h k0).j
 |0,m,h1,h2=>by rw [Nat.add_zero] at h2;omega
 |F + 1,m,h1,h2=>by
  rw [SetTable.layClean.free];have hrn:SetTable.runEnd mask (lp mask h m).1 + 1 - (lp mask h m).1=rn mask (lp mask h m).1 + 1:=by unfold rn SetTable.runEnd;split <;> omega
  have occ:∀ k,k≤rn mask (lp mask h m).1->lpN mask h m + k < k0->(owner.getD ((lp mask h m).1 + k) (some 0)).isNone=false:=fun k a b=>by
   have:=hb _ b
   rw [qH5 a] at this;obtain ⟨i,hi⟩:=BS this
   have:=(O.iff _ _).mpr hi
   rw [AN,this];rfl
  rw [hrn];by_cases hq:k0≤lpN mask h m + rn mask (lp mask h m).1
  ·have ej:(sq mask h k0).j=(lp mask h m).1 + (k0 - lpN mask h m):=by
    have:=qH5 (mask:=mask) (h:=h) (m:=m) (k:=k0 - lpN mask h m) (by omega)
    rw [show lpN mask h m + (k0 - lpN mask h m)=k0 by omega] at this
    exact this
   have hf:(List.range (rn mask (lp mask h m).1 + 1)).find? (fun k=>(owner.getD ((lp mask h m).1 + k) (some 0)).isNone)=some (k0 - lpN mask h m):=by
    rw [List.find?_range_eq_some];refine ⟨?_,BI.mpr (by omega),fun j hj => ?_⟩
    ·rw [← ej,AN,AS (by rw [O.size];omega)]
     cases hx:owner[(sq mask h k0).j]'(by rw [O.size];omega) with
     |none=>rfl
     |some k' =>exfalso;refine hk (Ar ((O.iff _ k').mp ?_));rw [AS (by rw [O.size];omega),hx]
    ·rw [occ j (by omega) (by omega)];rfl
   rw [hf,ej]
  ·have hf:(List.range (rn mask (lp mask h m).1 + 1)).find? (fun k=>(owner.getD ((lp mask h m).1 + k) (some 0)).isNone)=none:=by
    rw [List.find?_eq_none];intro k hk';rw [occ k (by have:=BI.mp hk';omega) (by have:=BI.mp hk';omega)]
    simp
   rw [hf];exact qCg O hk hkm hb F (m + 1) (by rw [lpN];omega) (by rw [show m + 1 + F=m + (F + 1) by omega];exact h2)
theorem qHj {mask:Nat} {h:Int} (n:Nat):(sq mask h n).j≤mask:=by
 have:∀ n,(sq mask h n).j + (sq mask h n).more≤mask∧(sq mask h n).i≤mask:=by
  intro n;have key:∀ i,i≤mask->i + (SetTable.runEnd mask i - i)≤mask:=fun i hi=>by unfold SetTable.runEnd;split <;> omega
  induction n with
  |zero =>have hi:SetTable.bits h % (mask + 1)≤mask:=CK (Nat.mod_lt _ (Nat.succ_pos _));exact ⟨key _ hi,hi⟩
  |succ n ih =>
   rw [sq];unfold qBM;split
   ·rename_i hm;exact ⟨by show (sq mask h n).j + 1 + ((sq mask h n).more - 1)≤mask;omega,ih.2⟩
   ·have hi:(SetTable.leap mask (sq mask h n).i (sq mask h n).perturb).1≤mask:=CK (Nat.mod_lt _ (Nat.succ_pos _));exact ⟨key _ hi,hi⟩
 have:=(this n).1
 omega
theorem Ow.step {mask:Nat} {owner:Array (Option Nat)} {hs:List Int} {js:List Nat} (O:Ow mask owner hs js) (C:Cyc mask) (hl:hs.length≤mask) (h:Int):∃ j,SetTable.layClean.free mask owner (SetTable.turns mask) (SetTable.bits h % (mask + 1)) (SetTable.bits h)=some j∧Ow mask (owner.setIfInBounds j (some hs.length)) (hs++[h]) (js++[j]):=by
 obtain ⟨e,he,hq⟩:=qA5 (mask + 1) js (by rw [O.len];omega)
 obtain ⟨m,hm,q⟩:=qFc (h:=h) C (show e≤mask by omega)
 obtain ⟨k0,k1,k2,k3⟩:=qAV (P:=fun k=>(sq mask h k).j ∉ js) (fun _=>inferInstance) (n:=lpN mask h m) (by rw [qB1,q];exact hq)
 have hb:∀ m,m < k0->(sq mask h m).j∈js:=fun m hm=>Decidable.not_not.mp (k3 m hm);have hj:=qHj (mask:=mask) (h:=h) k0;refine ⟨_,qCg O k2 hj hb (SetTable.turns mask) 0 (BV _) ?_,?_⟩
 ·rw [Nat.zero_add];refine CD k1 (qJA ?_);unfold SetTable.turns;omega
 ·have hmem:∀ x,x∈js++[(sq mask h k0).j] ↔ x∈js∨x=(sq mask h k0).j:=fun x=>by simp
  refine ⟨by simp [O.size],by simp [O.len],fun j k => ?_,fun k h' j h1 h2 => ?_,fun j hj' => ?_⟩
  ·rw [Array.getElem?_setIfInBounds];by_cases hjj:(sq mask h k0).j=j
   ·rw [AF hjj,AF (by rw [O.size];omega)]
    constructor
    ·intro z;cases z;rw [Aw (by rw [O.len];exact AM _),O.len,Nat.sub_self]
     simp [hjj]
    ·intro z;by_cases hkl:k < js.length
     ·rw [Ak hkl] at z;exact absurd (by rw [hjj];exact Ar z) k2
     ·rw [Aw (by omega)] at z
      have:k - js.length=0:=by
       have:=(AQ.mp z).1
       simp at this;omega
      rw [show k=hs.length by have:=O.len;omega]
   ·rw [AJ hjj,O.iff];constructor
    ·intro z;rw [Ak (AQ.mp z).1];exact z
    ·intro z;by_cases hkl:k < js.length
     ·rwa [Ak hkl] at z
     ·rw [Aw (by omega)] at z
      have h0:=(AQ.mp z).1
      have:k - js.length=0:=by simp at h0;omega
      rw [this] at z;simp at z;exact absurd z hjj
  ·by_cases hkl:k < js.length
   ·rw [Ak hkl] at h2;rw [Ak (by rw [← O.len];exact hkl)] at h1
    obtain ⟨m,a,b⟩:=O.way k h' j h1 h2;exact ⟨m,a,fun m' hm'=>(hmem _).mpr (.inl (b m' hm'))⟩
   ·rw [Aw (by omega)] at h2
    rw [Aw (by have:=O.len;omega)] at h1
    have h0:=(AQ.mp h2).1;have z:k - js.length=0:=by simp at h0;omega
    rw [← O.len,z] at h1;rw [z] at h2;simp at h1 h2;subst h1;subst h2;exact ⟨k0,rfl,fun m' hm'=>(hmem _).mpr (.inl (hb m' hm'))⟩
  ·rcases (hmem j).mp hj' with q |q
   ·exact O.le j q
   ·rw [q];exact hj
theorem Jt {mask:Nat} (C:Cyc mask):∀ (r hs:List Int) (owner:Array (Option Nat)) (js:List Nat),Ow mask owner hs js->hs.length + r.length≤mask + 1 ->
  ∃ owner' js',r.foldl (fun acc h=>do
   let (owner,k) ← acc;let j ← SetTable.layClean.free mask owner (SetTable.turns mask) (SetTable.bits h % (mask + 1)) (SetTable.bits h)
   pure (owner.setIfInBounds j (some k),k + 1)) (some (owner,hs.length))=some (owner',(hs++r).length)∧Ow mask owner' (hs++r) js'
 |[],hs,owner,js,O,_=>⟨owner,js,by simp,by simpa using O⟩
 |h::r,hs,owner,js,O,hl=>by
  rw [AU] at hl;obtain ⟨j,e,O'⟩:=O.step C (by omega) h
  obtain ⟨ow,js',e2,O2⟩:=Jt C r (hs++[h]) _ _ O' (by rw [AZ,Aq];omega)
  refine ⟨ow,js',?_,by simpa using O2⟩
  rw [Cd]
  have:(do
   let (owner,k) ← some (owner,hs.length);let j ← SetTable.layClean.free mask owner (SetTable.turns mask) (SetTable.bits h % (mask + 1)) (SetTable.bits h)
   pure (owner.setIfInBounds j (some k),k + 1))=some (owner.setIfInBounds j (some hs.length),hs.length + 1):=by
   show (do
    let j ← SetTable.layClean.free mask owner (SetTable.turns mask) (SetTable.bits h % (mask + 1)) (SetTable.bits h)
    pure (owner.setIfInBounds j (some hs.length),hs.length + 1))=_
   rw [e];rfl
  rw [this];simpa using e2
theorem qET {mask:Nat} (C:Cyc mask) (hashes:Array Int) (hl:hashes.size≤mask + 1):∃ owner js,SetTable.layClean mask hashes=some owner∧Ow mask owner hashes.toList js:=by
 obtain ⟨owner,js,e,O⟩:=Jt C hashes.toList [] (Array.replicate (mask + 1) none) [] ⟨by simp,rfl,fun j k=>by
  constructor
  ·intro z;rw [Array.getElem?_replicate] at z;split at z <;> simp at z
  ·intro z;simp at z,fun k h j h1 h2=>by simp at h1,fun j h=>by simp at h⟩ (by simpa using hl)
 refine ⟨owner,js,?_,by simpa using O⟩
 unfold SetTable.layClean;rw [← Array.foldl_toList];have e':=e;simp only [List.nil_append] at e';have h0:(some (Array.replicate (mask + 1) none,([]:List Int).length):Option (Array (Option Nat)×Nat))=some (Array.replicate (mask + 1) none,0):=rfl;rw [h0] at e';rw [e'];rfl
theorem ZR {α:Type} [DecidableEq α]:∀ {l m:List α},l.Nodup->m.Nodup->(∀ x,x∈l ↔ x∈m)->l.Perm m
 |[],m,_,_,h=>by
  cases m with
  |nil=>exact .refl _
  |cons y m=>exact absurd ((h y).mpr AH) (by simp)
 |x::l,m,h1,h2,h=>by
  have hx:=(h x).mp AH;refine List.Perm.trans ?_ (List.perm_cons_erase hx).symm;refine List.Perm.cons x (ZR (BD.mp h1).2 (h2.erase x) fun y => ?_);rw [h2.mem_erase_iff];constructor
  ·intro hy;exact ⟨fun z=>(BD.mp h1).1 (by rw [← z];exact hy),(h y).mp (AE _ hy)⟩
  ·rintro ⟨a,b⟩
   rcases AD.mp ((h y).mpr b) with q |q
   ·exact absurd q a
   ·exact q
theorem qFO {α:Type} (l:List α):(List.range l.length).filterMap (fun i=>l[i]?)=l:=by
 induction l with
 |nil=>rfl
 |cons x l ih =>rw [AU,List.range_succ_eq_map,BF];show x::((List.range l.length).map Nat.succ).filterMap _=_;rw [List.filterMap_map];congr 1
theorem qFZ {α β:Type} {f:α->Option β} {g:α->β}:∀ {l:List α},(∀ x∈l,f x=some (g x))->l.filterMap f=l.map g
 |[],_=>rfl
 |x::l,h=>by rw [BF,h x AH,An,qFZ fun y hy=>h y (AE _ hy)]
theorem qGM {α:Type} [Inhabited α] {mask finger moves:Nat} {led plain:Bool} (C:Cyc mask) {es:Array (Int×α)} (hl:es.size≤mask):∃ t order,SetTable.laid mask finger moves led plain (es.map (·.1))=some (t,order)∧t.mask=mask∧t.led=led∧t.plain=plain ∧
  (order.filterMap (es[·]?)).toList.Perm es.toList∧TbG t es.size∧Rch t (order.filterMap (es[·]?)).toList:=by
 obtain ⟨owner,js,e,O⟩:=qET C (es.map (·.1)) (by simp;omega)
 refine ⟨_,_,by unfold SetTable.laid;rw [e];rfl,rfl,rfl,rfl,?_⟩
 generalize hL:(List.range (mask + 1)).filterMap (fun j=>(owner.getD j none).map (j,·))=L;have hmem:∀ q,q∈L ↔ js[q.2]? = some q.1:=by
  intro ⟨j,k⟩;rw [← hL,Bw];constructor
  ·rintro ⟨a,ha,hb⟩
   have ha:=BI.mp ha;rw [AN,AS (by rw [O.size];omega)] at hb
   cases hx:owner[a]'(by rw [O.size];omega) with
   |none=>rw [hx] at hb;simp at hb
   |some k' =>rw [hx] at hb;simp at hb;obtain ⟨rfl,rfl⟩:=hb;exact (O.iff _ _).mp (by rw [AS (by rw [O.size];omega),hx])
  ·intro z;have z':=(O.iff _ _).mpr z;refine ⟨j,BI.mpr (by have:=O.le j (Ar z);omega),?_⟩
   rw [AN,z'];rfl
 have hlen:js.length=es.size:=by rw [O.len];simp
 have hinj:∀ a b j,js[a]? = some j->js[b]? = some j->a=b:=fun a b j h1 h2=>by have h1:=(O.iff j a).mpr h1;have h2:=(O.iff j b).mpr h2;rw [h1] at h2;cases h2;rfl
 have hpw:L.Pairwise (fun p q=>p.1 < q.1):=by rw [← hL,List.pairwise_filterMap];refine List.Pairwise.imp ?_ List.pairwise_lt_range;intro a b hab x hx y hy;simp only [Option.map_eq_some_iff] at hx hy;obtain ⟨_,_,rfl⟩:=hx;obtain ⟨_,_,rfl⟩:=hy;exact hab
 have hnd:(L.map (·.2)).Nodup:=by
  rw [List.nodup_iff_pairwise_ne,Br];refine List.Pairwise.imp_of_mem (R:=fun p q=>p.1 < q.1) ?_ hpw;intro a b ha hb hab z;have h1:=(hmem a).mp ha;have h2:=(hmem b).mp hb;rw [z,h2] at h1
  have:=Ai h1
  omega
 have hperm:(L.map (·.2)).Perm (List.range es.size):=by
  refine ZR hnd List.nodup_range fun k => ?_;rw [BI,Ag];constructor
  ·rintro ⟨q,hq,rfl⟩
   have:=(AQ.mp ((hmem q).mp hq)).1
   omega
  ·intro hk
   have:js[k]? = some (js[k]'(by omega)):=AL _
   exact ⟨(js[k]'(by omega),k),(hmem _).mpr this,rfl⟩
 have hLl:L.length=es.size:=by have:=hperm.length_eq;simpa using this
 have hfm:(((L.map (·.2)).toArray.filterMap (es[·]?)).toList)=L.map fun q=>es.toList.getD q.2 (0,default):=by
  rw [List.filterMap_toArray];show (L.map (·.2)).filterMap (fun i=>es[i]?)=_;rw [List.filterMap_map];refine qFZ fun q hq => ?_
  have:=(AQ.mp ((hmem q).mp hq)).1
  show es[q.2]? = _;rw [AS (by omega),Al,A0,AS (by omega)]
  rfl
 refine ⟨?_,⟨rfl,by simp [hLl],?_,?_,hl⟩,?_⟩
 ·have h1:((L.map (·.2)).toArray.filterMap (es[·]?)).toList=(L.map (·.2)).filterMap (fun i=>es.toList[i]?):=by rw [List.filterMap_toArray];simp
  rw [h1];refine (hperm.filterMap _).trans ?_
  have:=qFO es.toList
  rw [AW] at this;rw [this]
 ·rw [ris_list];show (L.map (·.1)).Pairwise _;rw [Br];exact hpw
 ·intro j hj;have hj:j∈L.map (·.1):=hj;obtain ⟨q,hq,rfl⟩:=Ag.mp hj;exact O.le _ (Ar ((hmem q).mp hq))
 ·intro q hq;rw [hfm] at hq;have hq:q∈(L.map (·.1)).zip (L.map fun q=>es.toList.getD q.2 (0,default)):=hq;rw [List.zip_map,Ag] at hq;obtain ⟨⟨u,v⟩,huv,rfl⟩:=hq;have huv':u=v∧u∈L:=by
   have:∀ (l:List (Nat×Nat)) (p:(Nat×Nat)×(Nat×Nat)),p∈l.zip l->p.1=p.2∧p.1∈l:=by
    intro l;induction l with
    |nil=>intro p hp;simp at hp
    |cons a l ih =>
     intro p hp;rw [BP] at hp;rcases AD.mp hp with z |z
     ·subst z;exact ⟨rfl,AH⟩
     ·exact ⟨(ih p z).1,AE _ (ih p z).2⟩
   exact this L _ huv
  obtain ⟨rfl,hu⟩:=huv';have hj:=(hmem u).mp hu;have hlt:=(AQ.mp hj).1;have hh:(es.map (·.1)).toList[u.2]? = some (es.toList.getD u.2 (0,default)).1:=by
   rw [Al,A0,A0,Array.getElem?_map,AS (show u.2 < es.size by omega)]
   rfl
  obtain ⟨m,h1,h2⟩:=O.way _ _ _ hh hj;refine ⟨m,h1,fun m' hm' => ?_⟩
  have:=h2 m' hm'
  obtain ⟨i,hi⟩:=BS this;show _∈L.map (·.1);exact Ag.mpr ⟨((sq mask (es.toList.getD u.2 (0,default)).1 m').j,i),(hmem _).mpr hi,rfl⟩
end ET
end
section
namespace ET
open PySem PySem.Spec PyProof.Rows L2 EX
section
variable {prog:Program} {w:World} {A:Around} {E:Value->Shared->Prop} {s:Shared}
abbrev TK (prog:Program) (w:World) (h:Heap) (ks:List Int) (b:Addr):Prop:=IsTupleKey (intKind prog w) h ks b
abbrev hsT (prog:Program) (w:World) (ks:List Int):Int:=tupleKeyHash (intKind prog w) ks
theorem zl {ks:List Int} {vs:List Value} (h:ItemsAre (intKind prog w) ks vs):∀ v∈vs,∃ n t,v=Value.int n t:=by
 induction h with
 |nil=>intro v hv;cases hv
 | @cons k v ks vs h1 _ ih =>
  intro u hu;rcases AD.mp hu with q |q
  ·subst q;cases u with
   |int n t=>exact ⟨n,t,rfl⟩
   |_=>exact Bool.noConfusion (show false=true from h1)
  ·exact ih u q
theorem TK.keep {h h':Heap} {ks:List Int} {b:Addr} (k:TK prog w h ks b) (e:∀ o,h.get? b=some o->h'.get? b=some o):TK prog w h' ks b:=by obtain ⟨o,its,n,h1,h2⟩:=k;exact ⟨o,its,n,e o h1,h2⟩
theorem hbv {ks:List Int} {b:Addr} {Q:Bool->Shared->Prop} (k:TK prog w s.heap ks b) (h:Q true s):wpAny (model prog w) A (hashByValue 8 (.ref b)) Q E s:=by
 have hT:=k.typeIs;obtain ⟨o,items,n,ho,_,hd,hi⟩:=k;unfold hashByValue;refine AA (Cc hT F.slot_tuple_hash.lookup ?_);dsimp only;refine AA (BM ho hd ?_);show wpAny _ _ (forIn items _ _ >>= _) _ _ s;refine AA ?_;rw [← Array.forIn_toList];refine wpAny_forIn_list _ (fun rest r s'=>r.1=none∧s'=s ∧ ∀ v∈rest,∃ n t,v=Value.int n t) _ ?_ ?_ _ _ ⟨rfl,rfl,zl hi⟩
 ·rintro v rest r s' ⟨hr,rfl,hall⟩
  obtain ⟨n,t,rfl⟩:=hall v AH;refine AA (Ah (a:=true) (by rw [hashByValue_scannable 7 (x := .int n t) rfl];rfl) ?_)
  simp only [Bool.not_true,A6,Bm];exact AB ⟨rfl,rfl,fun u hu'=>hall u (AE _ hu')⟩
 ·rintro ⟨r1,r2⟩ s' ⟨hr,rfl,_⟩
  simp only at hr;subst hr;exact AB h
theorem oac {ks:List Int} {b:Addr} {Q:Bool->Shared->Prop} (k:TK prog w s.heap ks b) (h:Q false s):wpAny (model prog w) A (ofAClassStatement 8 (.ref b)) Q E s:=by
 have hT:=k.typeIs;obtain ⟨o,items,n,ho,_,hd,hi⟩:=k;unfold ofAClassStatement;refine AA (BZ hT ?_);dsimp only;rw [AF (by decide)]
 refine AA (AB ?_);rw [AJ (by decide)]
 refine AA (BM ho hd ?_);dsimp only;refine AA ?_;rw [← Array.forIn_toList];refine wpAny_forIn_list _ (fun rest r s'=>r.1=none∧s'=s ∧ ∀ v∈rest,∃ n t,v=Value.int n t) _ ?_ ?_ _ _ ⟨rfl,rfl,zl hi⟩
 ·rintro v rest r s' ⟨hr,rfl,hall⟩
  obtain ⟨n,t,rfl⟩:=hall v AH;refine AA (Ah (a:=false) (by unfold ofAClassStatement;rfl) ?_)
  rw [AJ (by decide)]
  exact AB ⟨rfl,rfl,fun u hu'=>hall u (AE _ hu')⟩
 ·rintro ⟨r1,r2⟩ s' ⟨hr,rfl,_⟩
  simp only at hr;subst hr;exact AB h
theorem qK8 {ks:List Int} {b:Addr} {Q:Bool->Shared->Prop} (k:TK prog w s.heap ks b) (l:List Value) (hl:∀ v∈l,∃ c ks',v = .ref c∧TK prog w s.heap ks' c) (h:Q false s):wpAny (model prog w) A (searchCouldBeSeen (.ref b) l) Q E s:=by
 unfold searchCouldBeSeen;refine AA ?_;refine wpAny_forIn_list _ (fun rest r s'=>r.1=none∧s'=s ∧ ∀ v∈rest,∃ c ks',v = .ref c∧TK prog w s.heap ks' c) _ ?_ ?_ _ _ ⟨rfl,rfl,hl⟩
 ·rintro v rest r s' ⟨hr,rfl,hall⟩
  obtain ⟨c,ks',rfl,k'⟩:=hall v AH;dsimp only;by_cases hbc:(b==c || (carriedByValue (.ref b)&&carriedByValue (.ref c)))=true
  ·rw [AF hbc];exact AB ⟨rfl,rfl,fun u hu'=>hall u (AE _ hu')⟩
  ·rw [AJ hbc];refine AA (wpAny_eqIsQuiet_tuple k ?_);rw [AJ (by decide)]
   refine AA (wpAny_eqIsQuiet_tuple k' ?_);rw [AJ (by decide)]
   refine AA (oac k ?_);rw [AJ (by decide)]
   refine AA (oac k' ?_);rw [AJ (by decide)]
   exact AB ⟨rfl,rfl,fun u hu'=>hall u (AE _ hu')⟩
 ·rintro ⟨r1,r2⟩ s' ⟨hr,rfl,_⟩
  simp only at hr;subst hr;exact AB h
inductive EsT (prog:Program) (w:World) (h:Heap):List (Int×Value)->List (List Int)->Prop
 |nil:EsT prog w h [] []
 |cons {ks:List Int} {b:Addr} {l:List (Int×Value)} {kss:List (List Int)}:TK prog w h ks b->EsT prog w h l kss->EsT prog w h ((hsT prog w ks,.ref b)::l) (ks::kss)
theorem EsT.len {h:Heap} {l:List (Int×Value)} {kss:List (List Int)} (e:EsT prog w h l kss):l.length=kss.length:=by
 induction e with
 |nil=>rfl
 |cons _ _ ih=>rw [AU,AU,ih]
theorem EsT.keep {h h':Heap} {l:List (Int×Value)} {kss:List (List Int)} (e:EsT prog w h l kss) (k:∀ b ks,TK prog w h ks b->TK prog w h' ks b):EsT prog w h' l kss:=by
 induction e with
 |nil=>exact .nil
 |cons a _ ih=>exact .cons (k _ _ a) ih
theorem EsT.get {h:Heap} {l:List (Int×Value)} {kss:List (List Int)} (e:EsT prog w h l kss):∀ {i:Nat} {x:Int×Value},l[i]? = some x -> ∃ ks b,kss[i]? = some ks∧x=(hsT prog w ks,.ref b)∧TK prog w h ks b:=by
 induction e with
 |nil=>intro i x hx;simp at hx
 | @cons ks b l kss a _ ih =>
  intro i x hx;cases i with
  |zero=>simp at hx;exact ⟨ks,b,rfl,hx.symm,a⟩
  |succ i=>simp at hx;simpa using ih hx
theorem EsT.get' {h:Heap} {l:List (Int×Value)} {kss:List (List Int)} (e:EsT prog w h l kss):∀ {i:Nat} {ks:List Int},kss[i]? = some ks -> ∃ b,l[i]? = some (hsT prog w ks,.ref b)∧TK prog w h ks b:=by
 induction e with
 |nil=>intro i x hx;simp at hx
 | @cons ks b l kss a _ ih =>
  intro i x hx;cases i with
  |zero=>simp at hx;subst hx;exact ⟨b,rfl,a⟩
  |succ i=>simp at hx;simpa using ih hx
theorem EsT.perm {h:Heap} {l l':List (Int×Value)} (p:l.Perm l'):∀ {kss:List (List Int)},EsT prog w h l kss -> ∃ kss',kss.Perm kss'∧EsT prog w h l' kss':=by
 induction p with
 |nil=>intro kss e;exact ⟨kss,.refl _,e⟩
 |cons x _ ih =>
  intro kss e;cases e with
  |cons a e =>obtain ⟨k',q,r⟩:=ih e;exact ⟨_,q.cons _,.cons a r⟩
 |swap x y l =>
  intro kss e;cases e with
  |cons a e =>
   cases e with
   |cons b e=>exact ⟨_,.swap _ _ _,.cons b (.cons a e)⟩
 |trans _ _ ih1 ih2 =>intro kss e;obtain ⟨k1,q1,r1⟩:=ih1 e;obtain ⟨k2,q2,r2⟩:=ih2 r1;exact ⟨k2,q1.trans q2,r2⟩
theorem EsT.mem {h:Heap} {l:List (Int×Value)} {kss:List (List Int)} (e:EsT prog w h l kss):∀ x∈l,∃ ks b,ks∈kss∧x=(hsT prog w ks,.ref b)∧TK prog w h ks b:=by intro x hx;obtain ⟨i,hi⟩:=BS hx;obtain ⟨ks,b,h1,h2,h3⟩:=e.get hi;exact ⟨ks,b,Ar h1,h2,h3⟩
def Lv (mask n:Nat):Prop:=(mask=7∧n≤4)∨(mask=31∧n≤18)∨(mask=127∧n≤76)∨(mask=511∧n≤306)
theorem Lv.cyc {mask n:Nat} (h:Lv mask n):Cyc mask:=by
 rcases h with ⟨rfl,_⟩ |⟨rfl,_⟩ |⟨rfl,_⟩ |⟨rfl,_⟩
 ·exact qK1
 ·exact qKj
 ·exact qIQ
 ·exact qJg
structure TbT (w:World) (t:SetTable) (es:Array (Int×Value)):Prop where
 g:TbG t es.size
 r:Rch t es.toList
 lv:Lv t.mask es.size
 led:t.led = !byT w
 pl:t.plain=true
structure SetT (prog:Program) (w:World) (h:Heap) (a:Addr) (es:Array (Int×Value)) (ep:Nat) (t:SetTable) (kss:List (List Int)):Prop where
 ex:∃ o,h.get? a=some o∧o.ExactSet∧o.data=Data.set es ep t
 el:EsT prog w h es.toList kss
 nd:kss.Nodup
 tb:TbT w t es
theorem JA {t:SetTable} {n:Nat} (T:TbG t n):t.fits n=true:=by
 unfold SetTable.fits;rw [Ab];refine ⟨by rw [T.sz];exact Aj _,Af ?_⟩
 unfold SetTable.fill;rw [T.dum,T.sz];exact T.room
theorem qFC {t:SetTable} {n:Nat} (h:Lv t.mask n):t.gaveWay=false:=by unfold SetTable.gaveWay;rcases h with ⟨h,_⟩ |⟨h,_⟩ |⟨h,_⟩ |⟨h,_⟩ <;> rw [h] <;> rfl
theorem qDm {a:Addr} {es:Array (Int×Value)} {ep:Nat} {t:SetTable} {kss:List (List Int)} {ks:List Int} {b:Addr} {adding:Bool} {Q:SetFound->Shared->Prop} (hu:A.units < cLine) (S:SetT prog w s.heap a es ep t kss) (k:TK prog w s.heap ks b) {k0:Nat}
  (hk:(sq t.mask (hsT prog w ks) k0).j ∉ t.place.toList) (hb:∀ m,m < k0->(sq t.mask (hsT prog w ks) m).j∈t.place.toList) (hk0:k0 < 10 * SetTable.turns t.mask)
  (h1:ks∈kss -> ∀ oi,(adding=false->oi.isSome=true)->Q (.there oi) s) (h2:ks ∉ kss->Q (.free (sq t.mask (hsT prog w ks) k0).j false) s) :
  ∀ (f m:Nat) (st:Option SetTable.Probe),m≤k0->k0 - m < f->st.getD (t.probeStart (hsT prog w ks))=sq t.mask (hsT prog w ks) m->(∀ y,y < m -> ∀ i,t.place.getD i 0=(sq t.mask (hsT prog w ks) y).j->i < t.place.size->kss[i]? ≠ some ks) ->
   wpAny (model prog w) A (setSearchFrom a (.ref b) (hsT prog w ks) adding f st) Q E s
 |0,m,st,_,hf,_,_=>absurd hf (BN _)
 |f + 1,m,st,hm,hf,hst,hn=>by
  obtain ⟨o,ho,hx,hd⟩:=S.ex;have hfit:=JA S.tb.g;have hsz:t.place.size=es.size:=S.tb.g.sz;have hkl:es.size=kss.length:=by rw [← S.el.len,AW]
  rw [setSearchFrom];refine AA (A5 ho hd hfit ?_);dsimp only;rw [qFC S.tb.lv];simp only [A6,Bm];rw [hst];have hp:=J4 S.tb.g (fun i=>(es[i]?.map (·.1)).getD 0) (hsT prog w ks) hk hb (10 * SetTable.turns t.mask) m hm (by omega)
  rcases hp with ⟨hall,e⟩ |⟨x,i,hx1,hx2,hi,hpl,hfi,hall,e⟩
  ·generalize hg:t.probe _ (hsT prog w ks) (sq t.mask (hsT prog w ks) m)=pr;have e2:=hg.symm.trans e;subst e2;dsimp only;refine AB (h2 fun hmem => ?_);obtain ⟨i,hi⟩:=BS hmem;have hil:i < es.size:=by rw [hkl];exact (AQ.mp hi).1
   obtain ⟨c,hc,_⟩:=S.el.get' hi;have hz:(t.place.getD i 0,(hsT prog w ks,Value.ref c))∈t.place.toList.zip es.toList:=by
    refine Ar (i:=i) ?_;rw [List.getElem?_zip_eq_some];refine ⟨?_,hc⟩;rw [A0,AS (by omega),AN,AS (by omega)]
    rfl
   obtain ⟨y,hy1,hy2⟩:=S.tb.r _ hz;have hyk:y < k0:=by
    rcases Nat.lt_trichotomy y k0 with q |q |q
    ·exact q
    ·subst q;exact absurd (by rw [hy1];exact mem_getD.mpr ⟨i,by omega,rfl⟩) hk
    ·exact absurd (hy2 k0 q) hk
   by_cases hym:y < m
   ·exact hn y hym i hy1.symm (by omega) hi
   ·refine hall y (by omega) hyk i hy1.symm (by omega) ?_
    show (es[i]?.map (·.1)).getD 0=_;rw [← A0,hc];rfl
  ·generalize hg:t.probe _ (hsT prog w ks) (sq t.mask (hsT prog w ks) m)=pr;have e2:=hg.symm.trans e;subst e2;dsimp only;have hie:i < es.size:=by omega
   obtain ⟨ks',c,hks',hc,kc⟩:=S.el.get (i:=i) (x:=es[i]) (by rw [A0,AS hie])
   have hsl:t.slot (sq t.mask (hsT prog w ks) x).j = .live i:=by rw [← hpl];exact jJ S.tb.g.ris hi
   cases hled:t.led
   case' true=>simp only [Bool.not_true,A6,Bm]
   case' false =>
    simp only [Bool.not_false,CY];refine AA (qK8 k _ (fun v hv=>(by
     obtain ⟨e',he',rfl⟩:=Ag.mp hv;have he':e'∈es.toList:=CQ.mpr (Array.mem_filter.mp (CQ.mp he')).1;obtain ⟨ks'',c',_,hh,kk⟩:=S.el.mem _ he';exact ⟨c',ks'',by rw [hh],kk⟩)) ?_)
    simp only [A6,Bm]
   all_goals
    rw [AS hie,hc];dsimp only;refine AA (Ae (wpAny_eqBool_tuple hu kc k ?_));refine AA (A5 ho hd hfit ?_);dsimp only;by_cases hq:ks'=ks
    ·subst hq;rw [Af rfl];have hmem:ks'∈kss:=Ar hks';cases adding with
     |true=>exact AB (h1 hmem none fun z=>by cases z)
     |false =>
      simp only [Ci,A6,Bm];rw [show t.sameMemory t.moves t.mask=some true by unfold SetTable.sameMemory;rw [AF (Aj _)]]
      dsimp only;rw [AF rfl,hsl];dsimp only;rw [AS hie,hc];dsimp only;refine AA (wpAny_isSame_ref_self (AA (AB ?_)));rw [AF rfl];dsimp only;exact AB (h1 hmem (some i) fun _=>rfl)
    ·rw [AX hq];rw [Bt];simp only [A6,Bm];rw [show t.sameMemory t.moves t.mask=some true by unfold SetTable.sameMemory;rw [AF (Aj _)]]
     dsimp only;rw [AF rfl,hsl];dsimp only;rw [AS hie,hc];dsimp only;refine AA (wpAny_isSame_ref_self (AA (AB ?_)));rw [AF rfl];dsimp only;refine qDm hu S k hk hb hk0 h1 h2 f (x + 1) _ (by omega) (by omega) rfl fun y hy j hj hjl => ?_
     by_cases hym:y < m
     ·exact hn y hym j hj hjl
     ·have uniq:t.place.getD j 0=t.place.getD i 0->j=i:=fun e'=>by
       rcases Nat.lt_trichotomy j i with q |q |q
       ·have:=S.tb.g.ris _ _ q hi;omega
       ·exact q
       ·have:=S.tb.g.ris _ _ q hjl;omega
      by_cases hyx:y=x
      ·subst hyx;rw [uniq (hj.trans hpl.symm),hks'];intro z;cases z;exact hq rfl
      ·intro z;refine hall y (by omega) (by omega) j hj hjl ?_
       obtain ⟨c',hc',_⟩:=S.el.get' z;show (es[j]?.map (·.1)).getD 0=_;rw [← A0,hc'];rfl
theorem SetT.first {h:Heap} {a:Addr} {es:Array (Int×Value)} {ep:Nat} {t:SetTable} {kss:List (List Int)} (S:SetT prog w h a es ep t kss) (hs:Int):∃ k,k < 10 * SetTable.turns t.mask∧(sq t.mask hs k).j ∉ t.place.toList ∧ ∀ m,m < k->(sq t.mask hs m).j∈t.place.toList:=S.tb.g.first S.tb.lv.cyc hs
theorem qAd {mask n:Nat} (h:Lv mask n):10 * SetTable.turns mask < 100000:=by unfold SetTable.turns;rcases h with ⟨h,_⟩ |⟨h,_⟩ |⟨h,_⟩ |⟨h,_⟩ <;> omega
theorem qGK {a:Addr} {es:Array (Int×Value)} {ep:Nat} {t:SetTable} {kss:List (List Int)} {ks:List Int} {b:Addr} {adding:Bool} {Q:SetFound->Shared->Prop} (hu:A.units < cLine) (S:SetT prog w s.heap a es ep t kss) (k:TK prog w s.heap ks b)
  (h1:ks∈kss -> ∀ oi,(adding=false->oi.isSome=true)->Q (.there oi) s)
  (h2:ks ∉ kss -> ∀ k0,(sq t.mask (hsT prog w ks) k0).j ∉ t.place.toList->(∀ m,m < k0->(sq t.mask (hsT prog w ks) m).j∈t.place.toList)->Q (.free (sq t.mask (hsT prog w ks) k0).j false) s) :
  wpAny (model prog w) A (setSearch a (.ref b) (hsT prog w ks) adding) Q E s:=by
 obtain ⟨k0,hk0,hk,hb⟩:=S.first (hsT prog w ks)
 have:=qAd S.tb.lv
 exact qDm hu S k hk hb hk0 h1 (fun q=>h2 q k0 hk hb) 100000 0 none (BV _) (by omega) rfl fun y hy=>absurd hy (BN _)
theorem qGT {mask n:Nat} (h:Lv mask n) (hn:n + 1≤300) (hf:¬ (n + 1) * 5 ≥ mask * 3):Lv mask (n + 1):=by
 rcases h with ⟨rfl,h⟩ |⟨rfl,h⟩ |⟨rfl,h⟩ |⟨rfl,h⟩
 ·exact .inl ⟨rfl,by omega⟩
 ·exact .inr (.inl ⟨rfl,by omega⟩)
 ·exact .inr (.inr (.inl ⟨rfl,by omega⟩))
 ·exact .inr (.inr (.inr ⟨rfl,by omega⟩))
theorem qGh {mask n:Nat} (h:Lv mask n) (hn:n + 1≤300) (hf:(n + 1) * 5 ≥ mask * 3):Lv (SetTable.sizeAbove (SetTable.grown (n + 1)) - 1) (n + 1)∧SetTable.sizeAbove (SetTable.grown (n + 1))≤512:=by
 rcases h with ⟨rfl,h⟩ |⟨rfl,h⟩ |⟨rfl,h⟩ |⟨rfl,h⟩
 ·have:n=4:=by omega
  subst this;exact ⟨.inr (.inl ⟨by decide,by omega⟩),by decide⟩
 ·have:n=18:=by omega
  subst this;exact ⟨.inr (.inr (.inl ⟨by decide,by omega⟩)),by decide⟩
 ·have:n=76:=by omega
  subst this;exact ⟨.inr (.inr (.inr ⟨by decide,by omega⟩)),by decide⟩
 ·omega
theorem qBu {mask n:Nat} (h:Lv mask n):n + 1≤mask:=by rcases h with ⟨rfl,h⟩ |⟨rfl,h⟩ |⟨rfl,h⟩ |⟨rfl,h⟩ <;> omega
theorem qKh {a:Addr} {es:Array (Int×Value)} {ep:Nat} {t:SetTable} {kss:List (List Int)} {ks:List Int} {b:Addr} {Q:Bool->Shared->Prop} (hu:A.units < cLine) (S:SetT prog w s.heap a es ep t kss) (k:TK prog w s.heap ks b) (hn:kss.length + 1≤300)
  (h:∀ (h':Heap) (es':Array (Int×Value)) (ep':Nat) (t':SetTable) (kss':List (List Int)),Heap.SameBut a s.heap h'->SetT prog w h' a es' ep' t' kss'->kss'.Perm (if ks∈kss then kss else kss++[ks])->(∀ e∈es'.toList,e∈es.toList∨e.2 = .ref b)->Q (decide (ks ∉ kss)) { s with heap:=h' }) :
  wpAny (model prog w) A (setAddHashed a (.ref b) (hsT prog w ks)) Q E s:=by
 obtain ⟨o,ho,hx,hd⟩:=S.ex;have hfit:=JA S.tb.g;have hlen:es.size=kss.length:=by rw [← S.el.len,AW]
 unfold setAddHashed;refine Ae ?_;rw [setAddHashedIn.eq_def];refine AA (A5 ho hd hfit ?_);dsimp only;rw [AJ (by unfold byScan;exact fun q=>Bool.noConfusion (show false=true from q))]
 refine AA (qGK (adding:=true) hu S k (fun q oi _ => ?_) fun q k0 hk hb => ?_)
 ·dsimp only;refine AB ?_
  have:=h s.heap es ep t kss ⟨rfl,fun _ _=>rfl⟩ S (by rw [AF q]) (fun e he => .inl he)
  rw [AX (not_not_intro q)] at this;exact this
 ·dsimp only;refine AA (A5 ho hd hfit ?_);dsimp only;have hne:∀ ks' c,TK prog w s.heap ks' c->c≠a:=fun ks' c kc z=>by subst z;obtain ⟨o',_,_,g1,g2,g3,_⟩:=kc;rw [ho] at g1;cases g1;rw [hd] at g3;cases g3
  obtain ⟨T1,R1,P1⟩:=qBD (x:=Value.ref b) S.tb.g (qBu S.tb.lv) S.tb.r (qHj k0) hk hb;generalize ht:t.put (sq t.mask (hsT prog w ks) k0).j=tp at T1 R1 P1 ⊢;obtain ⟨t1,p1⟩:=tp;dsimp only at T1 R1 P1 ⊢;have hm1:t1.mask=t.mask:=by have:=B5 (fun x=>x.1.mask) ht;exact this.symm
  have hl1:t1.led=t.led:=by have:=B5 (fun x=>x.1.led) ht;exact this.symm
  have hp1:t1.plain=t.plain:=by have:=B5 (fun x=>x.1.plain) ht;exact this.symm
  rw [AF (hp1.trans S.tb.pl)];refine AA (hbv k ?_);rw [AF rfl];have hsz1:(SetTable.insertAt es p1 (hsT prog w ks,Value.ref b)).size=es.size + 1:=by
   have:=P1.length_eq
   simpa using this
  refine AA (wpAny_storeSet_of ho hd ?_ (by rw [hsz1];exact Ac (show es.size + 1≤300 by omega) (by decide)))
  obtain ⟨oc,od,odt,osl⟩:=o;have hd:odt=Data.set es ep t:=hd;subst hd;have hu1:(s.heap.update a (Obj.putSet (SetTable.insertAt es p1 (hsT prog w ks,.ref b)) t1)).get? a=some ⟨oc,od,Data.set (SetTable.insertAt es p1 (hsT prog w ks,.ref b)) (ep + 1) t1,osl⟩:=by rw [As _ ho rfl];rfl
  have hsb:Heap.SameBut a s.heap (s.heap.update a (Obj.putSet (SetTable.insertAt es p1 (hsT prog w ks,.ref b)) t1)):=⟨Bv ..,fun c hc=>Heap.get?_update_ne _ _ _ _ hc⟩;generalize s.heap.update a (Obj.putSet (SetTable.insertAt es p1 (hsT prog w ks,.ref b)) t1)=h1 at hu1 hsb ⊢;have keep:∀ c ks',TK prog w s.heap ks' c->TK prog w h1 ks' c:=fun c ks' kc=>kc.keep fun o' ho'=>(hsb.2 c (hne ks' c kc)).trans ho';have E1:EsT prog w h1 ((hsT prog w ks,Value.ref b)::es.toList) (ks::kss) := .cons (keep _ _ k) (S.el.keep keep);obtain ⟨kss1,q1,E2⟩:=E1.perm P1.symm;have nd1:kss1.Nodup:=q1.nodup_iff.mp (BD.mpr ⟨q,S.nd⟩);have qp:kss1.Perm (if ks∈kss then kss else kss++[ks]):=by rw [AJ q];exact q1.symm.trans (List.perm_append_comm (l₁:=[ks]) (l₂:=kss))
  have hfull:t1.tooFull=decide ((es.size + 1) * 5 ≥ t.mask * 3):=by unfold SetTable.tooFull SetTable.fill;rw [T1.dum,T1.sz,hm1];rfl
  rw [hfull];have fresh1:∀ e∈(SetTable.insertAt es p1 (hsT prog w ks,Value.ref b)).toList,e∈es.toList∨e.2 = .ref b:=fun e he=>by
   rcases AD.mp (P1.mem_iff.mp he) with z |z
   ·exact .inr (by rw [z])
   ·exact .inl z
  have fin:∀ (h2:Heap),(∀ es' ep' t' kss',Heap.SameBut a s.heap h2->SetT prog w h2 a es' ep' t' kss'->kss'.Perm (if ks∈kss then kss else kss++[ks])->(∀ e∈es'.toList,e∈es.toList∨e.2 = .ref b)->Q true { s with heap:=h2 }):=fun h2 es' ep' t' kss' a1 a2 a3 a4=>by
   have:=h h2 es' ep' t' kss' a1 a2 a3 a4
   rw [Af q] at this;exact this
  by_cases hf:(es.size + 1) * 5 ≥ t.mask * 3
  ·rw [Af hf];simp only [Bool.not_false,Bool.and_self,CY];obtain ⟨L1,L2⟩:=qGh S.tb.lv (by omega) hf
   unfold setRelay;refine AA ?_;refine AA (A5 (s:={ s with heap:=h1 }) hu1 rfl (by rw [hsz1];exact JA T1) ?_)
   dsimp only;rw [AJ (by rw [Bi];omega)]
   obtain ⟨t2,order,e2,m2,l2,p2,P2,T2,R2⟩:=qGM (finger:=t1.finger) (moves:=t1.movedTo (SetTable.sizeAbove (SetTable.grown (es.size + 1)) - 1)) (led:=t1.led) (plain:=t1.plain) L1.cyc (es:=SetTable.insertAt es p1 (hsT prog w ks,Value.ref b)) (by rw [hsz1];have:=qBu L1;omega)
   have e2:t1.relaid ((SetTable.insertAt es p1 (hsT prog w ks,Value.ref b)).map (·.1)) (SetTable.grown (es.size + 1))=some (t2,order):=e2;rw [e2];have hsz2:(order.filterMap ((SetTable.insertAt es p1 (hsT prog w ks,Value.ref b))[·]?)).size=es.size + 1:=by
    have:=P2.length_eq
    rw [AW,AW,hsz1] at this;exact this
   refine AA (Ah (a:=(order.filterMap ((SetTable.insertAt es p1 (hsT prog w ks,Value.ref b))[·]?),t2)) ?_ ?_)
   ·show (if ((order.filterMap ((SetTable.insertAt es p1 (hsT prog w ks,Value.ref b))[·]?)).size != (SetTable.insertAt es p1 (hsT prog w ks,Value.ref b)).size)=true then _ else pure _)=pure _;rw [AJ (by rw [hsz2,hsz1];simp)]
   ·dsimp only;refine wpAny_storeSet_of (s:={ s with heap:=h1 }) hu1 rfl ?_ (by rw [hsz2];exact Ac (show es.size + 1≤300 by omega) (by decide))
    have hu2:(h1.update a (Obj.putSet (order.filterMap ((SetTable.insertAt es p1 (hsT prog w ks,Value.ref b))[·]?)) t2)).get? a=some ⟨oc,od,Data.set (order.filterMap ((SetTable.insertAt es p1 (hsT prog w ks,Value.ref b))[·]?)) (ep + 1 + 1) t2,osl⟩:=by rw [As _ hu1 rfl];rfl
    have hsb2:Heap.SameBut a h1 (h1.update a (Obj.putSet (order.filterMap ((SetTable.insertAt es p1 (hsT prog w ks,Value.ref b))[·]?)) t2)):=⟨Bv ..,fun c hc=>Heap.get?_update_ne _ _ _ _ hc⟩;refine AB ?_;generalize h1.update a (Obj.putSet (order.filterMap ((SetTable.insertAt es p1 (hsT prog w ks,Value.ref b))[·]?)) t2)=h2 at hu2 hsb2 ⊢;obtain ⟨kss2,q2,E3⟩:=E2.perm P2.symm;have E4:EsT prog w h2 (order.filterMap ((SetTable.insertAt es p1 (hsT prog w ks,Value.ref b))[·]?)).toList kss2:=E3.keep fun c ks' kc=>kc.keep fun o' ho'=>(hsb2.2 c (fun z=>by
     subst z;obtain ⟨o',_,_,g1,g2,g3,_⟩:=kc;rw [hu1] at g1;cases g1;cases g3)).trans ho'
    refine fin h2 _ _ _ kss2 ⟨hsb2.1.trans hsb.1,fun c hc=>(hsb2.2 c hc).trans (hsb.2 c hc)⟩ ⟨⟨_,hu2,hx,rfl⟩,E4,q2.nodup_iff.mp nd1,⟨?_,R2,?_,?_,?_⟩⟩ (q2.symm.trans qp) (fun e he=>fresh1 e (P2.mem_iff.mp he))
    ·rw [hsz2,← hsz1];exact T2
    ·rw [hsz2,m2];exact L1
    ·rw [l2,hl1];exact S.tb.led
    ·rw [p2,hp1];exact S.tb.pl
  ·rw [AX hf];simp only [Bool.not_false,Bt,A6,Bm];refine AB (fin h1 _ _ _ kss1 hsb ⟨⟨_,hu1,hx,rfl⟩,E2,nd1,⟨?_,R1,?_,?_,?_⟩⟩ qp fresh1)
   ·rw [hsz1];exact T1
   ·rw [hsz1,hm1];exact qGT S.tb.lv (by omega) hf
   ·rw [hl1];exact S.tb.led
   ·rw [hp1];exact S.tb.pl
end
end ET
end
section
namespace ET
open PySem PySem.Spec PyProof.Rows L2 EX PySem.W
section
variable {O:KeyOrd} {key:Nat->O.α} {n:Nat}
def kOk (key:Nat->O.α) (n:Nat) {α:Type}:KasT α->(α->Prop)->Prop
 | .ret a,P=>P a
 | .ask i j k,P=>i < n∧j < n∧kOk key n (k (O.blt (key i) (key j))) P
theorem zO {α β:Type} {f:α->KasT β} {P:β->Prop}:∀ {t:KasT α},kOk key n t (fun a=>kOk key n (f a) P)->kOk key n (t.bind f) P
 | .ret a,h=>h
 | .ask i j k,h=>⟨h.1,h.2.1,zO h.2.2⟩
theorem Jy {α:Type} {cmp:Nat->Nat->(Bool->Shared->Prop)->Shared->Prop} {s:Shared} (hc:∀ i j C,i < n->j < n->C (O.blt (key i) (key j)) s->cmp i j C s) {P:α->Prop} {Q:α->Shared->Prop} (hq:∀ a,P a->Q a s):∀ (t:KasT α),kOk key n t P->t.kasWp cmp Q s
 | .ret a,h=>hq a h
 | .ask i j k,h=>hc i j _ h.1 h.2.1 (Jy hc hq _ h.2.2)
structure PB (n:Nat) (p:Array Nat):Prop where
 perm:p.Perm (List.range n).toArray
theorem PB.size {p:Array Nat} (h:PB n p):p.size=n:=by
 have:=h.perm.size_eq;simpa using this
theorem PB.lt {p:Array Nat} (h:PB n p) {k:Nat} (hk:k < n):p.getD k 0 < n:=by
 have hs:=h.size;rw [AN,AS (by omega)]
 have:p[k]∈(List.range n).toArray.toList:=(Array.perm_iff_toList_perm.mp h.perm).mem_iff.mp (by simp)
 simpa using this
def kq (key:Nat->O.α) (p:Array Nat) (k:Nat):O.α:=key (p.getD k 0)
def Srt (key:Nat->O.α) (p:Array Nat) (k:Nat):Prop := ∀ i j,i≤j->j < k->O.kle (kq key p i) (kq key p j)
def Nin (key:Nat->O.α) (p:Array Nat) (k:Nat):Prop := ∀ i j,i≤j->j < k->O.kle (kq key p j) (kq key p i)
theorem yK {p:Array Nat} {i j:Nat} (hj:j≤p.size) (k:Nat):kq key (kas_rev p i j) k=if i≤k∧k < j then kq key p (i + j - 1 - k) else kq key p k:=by
 have e:=getElem?_mirror_all (i:=i) hj k;unfold kq kas_rev;rw [AN,e];split
 ·rw [AN]
 ·rw [AN]
theorem WB {p:Array Nat} {i j:Nat} (hj:j≤p.size) (heq:∀ k,i≤k->k < j->kq key p k=kq key p (j - 1)) (k:Nat):kq key (kas_rev p i j) k=kq key p k:=by
 rw [yK hj];split
 ·rw [heq _ (by omega) (by omega),heq k (by omega) (by omega)]
 ·rfl
theorem jD {p:Array Nat} {src d:Nat} (hs:src < p.size) (hd:d≤src) (k:Nat):kq key (bubble p src d) k=if k=src - d then kq key p src else if src - d < k∧k≤src then kq key p (k - 1) else kq key p k:=by
 have e:=getElem?_bubble hs d hd k;unfold kq;rw [AN,AN,AN,AN,e];split
 ·rfl
 ·split <;> rfl
theorem PB.rev {p:Array Nat} (h:PB n p) (i j:Nat):PB n (kas_rev p i j):=⟨(mirror_perm _ _ _ _).trans h.perm⟩
theorem qA6 {p:Array Nat} (B:PB n p) {nrem:Nat} (hn:nrem≤n) {P:Nat->Prop} (h:∀ m,1≤m->m≤nrem->Srt key p m->(m=nrem∨O.klt (kq key p m) (kq key p (m - 1)))->P m):∀ (f a:Nat),1≤a->a + f=nrem->Srt key p a->kOk key n (kas_asc p f a) P
 |0,a,h1,h2,hs=>h a h1 (by omega) hs (.inl (by omega))
 |f + 1,a,h1,h2,hs=>by
  refine ⟨B.lt (by omega),B.lt (by omega),?_⟩
  show kOk key n (if O.blt (kq key p a) (kq key p (a - 1))=true then .ret a else kas_asc p f (a + 1)) P;cases hl:O.blt (kq key p a) (kq key p (a - 1)) with
  |true=>rw [AF rfl];exact h a h1 (by omega) hs (.inr hl)
  |false =>
   rw [AJ (by simp)]
   refine qA6 B hn h f (a + 1) (by omega) (by omega) fun i j hij hj => ?_
   by_cases hja:j < a
   ·exact hs i j hij hja
   ·have:j=a:=by omega
    subst this;by_cases hi':i=j
    ·subst hi';exact Bf _
    ·exact CW (hs i (j - 1) (by omega) (by omega)) hl
theorem Jz {p:Array Nat} (B:PB n p) {nrem m:Nat} (hn:nrem≤n) (h1:1≤m) (hm:m≤nrem) (hs:Nin key p m) {P:Nat×Array Nat->Prop} (h:∀ m' p',PB n p'->1≤m'->m'≤nrem->Srt key p' m'->P (m',p')):kOk key n (kas_tail3 m nrem p) P:=by
 unfold kas_tail3;have hsz:m≤p.size:=by rw [B.size];omega
 refine zO (qA6 (B.rev 0 m) hn (fun m' a b c _=>h m' _ (B.rev 0 m) a b c) _ _ h1 (by omega) fun i j hij hj => ?_)
 rw [yK hsz,yK hsz,AF (by omega),AF (by omega)]
 exact hs _ _ (by omega) (by omega)
theorem yu {nrem:Nat} (hn:nrem≤n) {P:Array Nat×Nat×Nat->Prop}
  (h:∀ m neq p',PB n p'->1≤m->m≤nrem->Nin key p' m->neq + 1≤m->(∀ i,m - (neq + 1)≤i->i < m->kq key p' i=kq key p' (m - 1))->P (p',m,neq)) :
  ∀ (f:Nat) (p:Array Nat) (x neq:Nat),PB n p->1≤x->x + f=nrem->Nin key p x->neq + 1≤x->(∀ i,x - (neq + 1)≤i->i < x->kq key p i=kq key p (x - 1))->kOk key n (kas_desc f p x neq) P
 |0,p,x,neq,B,h1,h2,hs,hq,he=>h x neq p B h1 (by omega) hs hq he
 |f + 1,p,x,neq,B,h1,h2,hs,hq,he=>by
  have hsz:x≤p.size:=by rw [B.size];omega
  refine ⟨B.lt (by omega),B.lt (by omega),?_⟩
  show kOk key n (if O.blt (kq key p x) (kq key p (x - 1))=true then (if neq > 0 then kas_desc f (kas_rev p (x - (neq + 1)) x) (x + 1) 0 else kas_desc f p (x + 1) 0) else .ask (p.getD (x - 1) 0) (p.getD x 0) fun d=>if d=true then .ret (p,x,neq) else kas_desc f p (x + 1) (neq + 1)) P;cases hl:O.blt (kq key p x) (kq key p (x - 1)) with
  |true =>
   rw [AF rfl];have step1:∀ p':Array Nat,(∀ k,kq key p' k=kq key p k)->Nin key p' (x + 1):=by
    intro p' hk i j hij hj;rw [hk,hk];by_cases hjx:j < x
    ·exact hs i j hij hjx
    ·have hj':j=x:=by omega
     subst hj';by_cases hi':i=j
     ·subst hi';exact Bf _
     ·exact CW (CL hl) (hs i (j - 1) (by omega) (by omega))
   by_cases hneq:neq > 0
   ·rw [AF hneq];exact yu hn h f _ _ _ (B.rev _ _) (by omega) (by omega) (step1 _ (WB hsz he)) (by omega) fun i h1 h2=>by congr 1;omega
   ·rw [AJ hneq];exact yu hn h f _ _ _ B (by omega) (by omega) (step1 _ fun _=>rfl) (by omega) fun i h1 h2=>by congr 1;omega
  |false =>
   rw [AJ (by simp)]
   refine ⟨B.lt (by omega),B.lt (by omega),?_⟩
   show kOk key n (if O.blt (kq key p (x - 1)) (kq key p x)=true then .ret (p,x,neq) else kas_desc f p (x + 1) (neq + 1)) P;cases hg:O.blt (kq key p (x - 1)) (kq key p x) with
   |true=>rw [AF rfl];exact h x neq p B h1 (by omega) hs hq he
   |false =>
    rw [AJ (by simp)]
    have heqx:kq key p x=kq key p (x - 1):=KeyOrd.kle_antisymm hg hl;refine yu hn h f _ _ _ B (by omega) (by omega) (fun i j hij hj => ?_) (by omega) fun i h1 h2 => ?_
    ·by_cases hjx:j < x
     ·exact hs i j hij hjx
     ·have hj':j=x:=by omega
      subst hj';by_cases hi':i=j
      ·subst hi';exact Bf _
      ·rw [heqx];exact hs i (j - 1) (by omega) (by omega)
    ·rw [show x + 1 - 1=x by omega]
     by_cases hix:i=x
     ·subst hix;rfl
     ·rw [heqx];exact he i (by omega) (by omega)
theorem ya {p:Array Nat} (B:PB n p) {nrem m:Nat} (hn:nrem≤n) (hm:m + 1≤nrem) (hs:Nin key p (m + 1)) {P:Nat×Array Nat->Prop} (h:∀ m' p',PB n p'->1≤m'->m'≤nrem->Srt key p' m'->P (m',p')):kOk key n (kas_descPart m nrem p) P:=by
 unfold kas_descPart;refine zO (yu hn (fun m' neq p' B' a1 a2 hs' hq he => ?_) _ _ _ _ B (by omega) (by omega) hs (by omega) fun i h1 h2=>by congr 1;omega)
 dsimp only;have hsz:m'≤p'.size:=by rw [B'.size];omega
 by_cases hneq:neq > 0
 ·rw [AF hneq];refine Jz (B'.rev _ _) hn a1 a2 (fun i j hij hj => ?_) h;rw [WB hsz he,WB hsz he];exact hs' i j hij hj
 ·rw [AJ hneq];exact Jz B' hn a1 a2 hs' h
theorem qDw {p:Array Nat} (B:PB n p) (h1:1≤n) {P:Nat×Array Nat->Prop} (h:∀ m' p',PB n p'->1≤m'->m'≤n->Srt key p' m'->P (m',p')):kOk key n (kas_count n p) P:=by
 unfold kas_count;refine zO (qA6 B (AM n) (fun m hm1 hm2 hsn hor => ?_) _ _ (AM 1) (by omega) fun i j hij hj=>by have:i=j:=(by omega);subst this;exact Bf _)
 by_cases hnn:m=n
 ·rw [AF (by simpa using hnn)]
  exact h m p B hm1 hm2 hsn
 ·rw [AJ (by simpa using hnn)]
  have hlt:O.klt (kq key p m) (kq key p (m - 1)):=hor.resolve_left hnn;have hsz:m≤p.size:=by rw [B.size];omega
  by_cases hgt:m > 1
  ·rw [AF hgt];refine ⟨B.lt (by omega),B.lt (by omega),?_⟩
   show kOk key n (if O.blt (kq key p 0) (kq key p (m - 1))=true then .ret (m,p) else kas_descPart m n (kas_rev p 0 m)) P;cases hrose:O.blt (kq key p 0) (kq key p (m - 1)) with
   |true=>rw [AF rfl];exact h m p B hm1 hm2 hsn
   |false =>
    rw [AJ (by simp)]
    have hall:∀ k,0≤k->k < m->kq key p k=kq key p (m - 1):=by
     intro k _ hk;have a1:=hsn 0 k (by omega) hk
     have a2:=hsn k (m - 1) (by omega) (by omega)
     exact KeyOrd.kle_antisymm a2 (CW hrose a1)
    refine ya (B.rev _ _) (AM n) (by omega) (fun i j hij hj => ?_) h
    rw [WB hsz hall,WB hsz hall];by_cases hjn:j < m
    ·rw [hall i (by omega) (by omega),hall j (by omega) hjn];exact Bf _
    ·have hj':j=m:=by omega
     subst hj';by_cases hi':i=j
     ·subst hi';exact Bf _
     ·rw [hall i (by omega) (by omega)];exact CL hlt
  ·rw [AJ hgt];have hn1':m=1:=by omega
   subst hn1';refine ya B (AM n) (by omega) (fun i j hij hj => ?_) h
   by_cases hi':i=j
   ·subst hi';exact Bf _
   ·have hi0:i=0:=by omega
    have hj1:j=1:=by omega
    subst hi0;subst hj1;exact CL hlt
theorem Yh {p:Array Nat} (B:PB n p) {k:Nat} (hk:k < n) (hs:Srt key p k) {P:Nat->Prop} (h:∀ l,l≤k->(∀ i,i < l->O.kle (kq key p i) (kq key p k))->(∀ i,l≤i->i < k->O.klt (kq key p k) (kq key p i))->P l) :
  ∀ (f l r:Nat),l≤r->r≤k->r - l≤f->(∀ i,i < l->O.kle (kq key p i) (kq key p k))->(∀ i,r≤i->i < k->O.klt (kq key p k) (kq key p i))->kOk key n (kas_place p k f l r) P
 |0,l,r,h1,h2,h3,h4,h5=>by
  have:l=r:=by omega
  subst this;exact h l h2 h4 h5
 |f + 1,l,r,h1,h2,h3,h4,h5=>by
  unfold kas_place;by_cases hge:l ≥ r
  ·rw [AF hge]
   have:l=r:=by omega
   subst this;exact h l h2 h4 h5
  ·rw [AJ hge];refine ⟨B.lt hk,B.lt (by omega),?_⟩
   show kOk key n (if O.blt (kq key p k) (kq key p ((l + r) / 2))=true then kas_place p k f l ((l + r) / 2) else kas_place p k f ((l + r) / 2 + 1) r) P;cases hless:O.blt (kq key p k) (kq key p ((l + r) / 2)) with
   |true =>rw [AF rfl];exact Yh B hk hs h f _ _ (by omega) (by omega) (by omega) h4 fun i a b=>KeyOrd.klt_of_klt_of_kle hless (hs _ _ a b)
   |false =>
    rw [AJ (by simp)]
    exact Yh B hk hs h f _ _ (by omega) (by omega) (by omega) (fun i a=>CW (hs i ((l + r) / 2) (by omega) (by omega)) (show O.kle _ _ from hless)) h5
theorem QS {P:Array Nat->Prop} (h:∀ p,PB n p->Srt key p n->P p):∀ (f:Nat) (p:Array Nat) (k:Nat),PB n p->k + f=n->Srt key p k->kOk key n (kas_bin f p k) P
 |0,p,k,B,h1,hs=>h p B (by
  have:k=n:=by omega
  subst this;exact hs)
 |f + 1,p,k,B,h1,hs=>by
  unfold kas_bin;refine zO (Yh B (by omega) hs (fun l hlk hlo hhi => ?_) k 0 k (by omega) (AM _) (by omega) (fun i hi=>absurd hi (BN _)) fun i a b=>absurd b (by omega))
  refine QS h f _ (k + 1) ⟨(bubble_perm _ _ _).trans B.perm⟩ (by omega) fun i j hij hj => ?_
  have hks:k < p.size:=by rw [B.size];omega
  rw [jD hks (by omega),jD hks (by omega),show k - (k - l)=l by omega]
  repeat' split
  all_goals first
   |(exfalso;omega)
   |exact Bf _
   |exact hlo _ (by omega)
   |exact CL (hhi _ (by omega) (by omega))
   |exact hs _ _ (by omega) (by omega)
theorem qGm (h1:1≤n):kOk key n (kas_sort n) fun p=>PB n p∧Srt key p n:=by
 unfold kas_sort;refine zO (qDw ⟨Array.Perm.refl _⟩ h1 fun m p B a b hs => ?_);dsimp only;by_cases hlt:m < n
 ·rw [AF hlt,show max m 1=m by omega]
  exact QS (fun p B hs=>⟨B,hs⟩) _ _ _ B (by omega) hs
 ·rw [AJ hlt]
  have:m=n:=by omega
  subst this;exact ⟨B,hs⟩
end
section
variable {prog:Program} {w:World} {A:Around} {E:Value->Shared->Prop} {s:Shared} {O:KeyOrd}
theorem qDR {vs:List Value} (hsz:vs.toArray.size=vs.length) (h2:vs.toArray.size < 2):List.toArray ((List.range vs.length).toArray.toList.map fun i=>vs.getD i Value.none)=(vs.toArray.zip vs.toArray).map (·.2):=by
 match vs,hsz,h2 with
 |[],_,_=>simp
 |[v],_,_=>simp
 |v₁::v₂::rest,hsz,h2=>rw [hsz,AU,AU] at h2;omega
theorem qCE {a:Addr} {vs:List Value} {n:Nat} {P:PySem.Fin->Shared->Prop} {key:Nat->O.α} {κ:SortKind} (ho:s.heap.get? a=some (seqObj "list" vs.toArray n)) (h64:vs.length < 64)
  (hk:2≤vs.length -> ∀ (h6:Heap) (Q:SortKind->Shared->Prop),(∀ b o,b≠a->s.heap.get? b=some o->h6.get? b=some o)->Q κ { s with heap:=h6 }->wpAny (model prog w) A (keyKind' vs.toArray) Q E { s with heap:=h6 })
  (hc:∀ (h6:Heap) (i j:Nat) (C:Bool->Shared->Prop),(∀ b o,b≠a->s.heap.get? b=some o->h6.get? b=some o)->i < vs.length->j < vs.length->C (O.blt (key i) (key j)) { s with heap:=h6 }->wpAny (model prog w) A (keyLt' κ (vs.getD i Value.none) (vs.getD j Value.none)) C (fun _ _=>False) { s with heap:=h6 })
  (h:∀ p:Array Nat,PB vs.length p->Srt key p vs.length->P (.done (.ret .none)) { s with heap:=sortedHeap s.heap a vs (List.toArray (p.toList.map fun i=>vs.getD i Value.none)) }) :
  wpAny (model prog w) A (Builtin.«list.sort» ⟨[.ref a],[]⟩) P E s:=by
 rw [list_sort_plain];have ha:a < s.heap.objs.size:=AK ho;refine AA (listItems_at ho rfl ?_);refine AA (listUpdate_at ho rfl ?_);obtain ⟨e1,ho1⟩:∃ e1,(s.heap.update a (Obj.mapSeq fun _ => #[])).get? a=some (seqObj "list" #[] e1):=⟨_,get?_update_seq ho (fun _ => #[])⟩;refine AA (seqEpoch_at ho1 rfl ?_);refine AA (wpAny_newTuple ?_);refine AA (Cj ?_);refine Ae ?_;have ho6:(((s.heap.update a (Obj.mapSeq fun _ => #[])).push (seqObj "tuple" vs.toArray 0)).push (seqObj "list" #[] 0)).get? a=some (seqObj "list" #[] e1):=by
  rw [Heap.get?_push_ne _ _ _ (by rw [size_push',Bv];exact AV (BB ha)),Heap.get?_push_ne _ _ _ (by rw [Bv];exact AV ha)]
  exact ho1
 have keep:∀ b o,b≠a->s.heap.get? b=some o->(((s.heap.update a (Obj.mapSeq fun _ => #[])).push (seqObj "tuple" vs.toArray 0)).push (seqObj "list" #[] 0)).get? b=some o:=fun b o hb q =>
  AC _ (AC _ ((Aa _ _ (Ne.symm hb)).trans q))
 show wpAny (model prog w) A _ P E { s with heap:=((s.heap.update a (Obj.mapSeq fun _ => #[])).push (seqObj "tuple" vs.toArray 0)).push (seqObj "list" #[] 0) };dsimp only;have hsz:vs.toArray.size=vs.length:=by simp
 by_cases h2:vs.toArray.size < 2
 ·rw [AF h2,AF h2];refine AA (AB ?_);rw [StateT.run_pure];refine AA (AB ?_);dsimp only;refine AA (seqEpoch_at ho6 rfl ?_);refine AA (listUpdate_at ho6 rfl ?_ (hsz2:=by rw [Array.size_map];show (pairsOf vs).size≤_;rw [pairsOf_size,Bi];omega))
  simp only [bne_self_eq_false,A6,Bm];refine AB ?_
  have:=h (List.range vs.length).toArray ⟨Array.Perm.refl _⟩ fun i j hij hj=>by
   have:i=j:=by omega
   subst this;exact Bf _
  have e:List.toArray ((List.range vs.length).toArray.toList.map fun i=>vs.getD i Value.none)=(arrOf (SortSt.mk' general' (vs.toArray.zip vs.toArray) #[] 7 none)).map (·.2):=qDR hsz h2;rw [e] at this;exact this
 ·rw [AJ h2,AJ h2];have h2':2≤vs.length:=by omega
  refine AA (hk h2' _ _ keep ?_);have hw:(kas_sort vs.length).kasWp (kas_ask prog w A κ vs) (fun p s'=>s'={ s with heap:=((s.heap.update a (Obj.mapSeq fun _ => #[])).push (seqObj "tuple" vs.toArray 0)).push (seqObj "list" #[] 0) }∧PB vs.length p∧Srt key p vs.length) { s with heap:=((s.heap.update a (Obj.mapSeq fun _ => #[])).push (seqObj "tuple" vs.toArray 0)).push (seqObj "list" #[] 0) } :=
   Jy (O:=O) (key:=key) (n:=vs.length) (fun i j C hi hj hC=>hc _ i j C keep hi hj hC) (P:=fun p=>PB vs.length p∧Srt key p vs.length) (fun p hp=>⟨rfl,hp⟩) _ (qGm (by omega))
  refine AA (Bb (kat_run (Q:=fun st' s' => ∃ p:Array Nat,p.size=vs.length∧arrOf st'=p.map (kas_item (vs.toArray.zip vs.toArray))∧failedOf st'=none∧s'={ s with heap:=((s.heap.update a (Obj.mapSeq fun _ => #[])).push (seqObj "tuple" vs.toArray 0)).push (seqObj "list" #[] 0) }∧PB vs.length p∧Srt key p vs.length)
   rfl h2' h64 (fun p' st' s' a1 a2 a3 a4=>⟨p',a1,a2,a3,a4⟩) hw) ?_ fun _ _ e=>e)
  rintro ⟨⟨⟩,st'⟩ s' ⟨p,hp,har,hf,rfl,B,S⟩
  dsimp only;have hout:=kat_snds rfl har;refine AA (seqEpoch_at ho6 rfl ?_);refine AA (listUpdate_at ho6 rfl ?_ (hsz2:=by rw [hout,AO,AI,AW,hp,Bi];omega))
  rw [hf];simp only [bne_self_eq_false,A6,Bm];rw [hout];exact AB (h p B S)
theorem qDU {l:Addr} {vs:List Value} {Q:Value->Shared->Prop} {key:Nat->O.α} {κ:SortKind} (hl:s.heap.IsList l vs.toArray) (h64:vs.length < 64)
  (hk:2≤vs.length -> ∀ (A':Around) (E':Value->Shared->Prop) (h6:Heap) (Q:SortKind->Shared->Prop),(∀ b o,s.heap.get? b=some o->h6.get? b=some o)->Q κ { s with heap:=h6 }->wpAny (model prog w) A' (keyKind' vs.toArray) Q E' { s with heap:=h6 })
  (hc:∀ (h6:Heap) (i j:Nat) (C:Bool->Shared->Prop),(∀ b o,s.heap.get? b=some o->h6.get? b=some o)->i < vs.length->j < vs.length->C (O.blt (key i) (key j)) { s with heap:=h6 }->wpAny (model prog w) A.in1.in1 (keyLt' κ (vs.getD i Value.none) (vs.getD j Value.none)) C (fun _ _=>False) { s with heap:=h6 })
  (h:∀ p:Array Nat,PB vs.length p->Srt key p vs.length->Q (.ref (s.heap.objs.size + 1)) { s with heap:=sortedAll s.heap vs (List.toArray (p.toList.map fun i=>vs.getD i Value.none)) }) :
  wpAny (model prog w) A (call (.builtin "sorted") [.ref l]) Q E s:=by
 refine Calls.call_function_entry kind_sorted plain_sorted entry_sorted (args_sorted1 _) ?_;unfold Builtin.«sorted»;refine AA (m:=checkCount "sorted" 1 1 _) (AB ?_);refine AA (collect_list hl ?_ (by rw [Bi];omega))
 refine AA (Cj ?_ (by rw [Bi];omega))
 have hsz:((s.heap.push (seqObj "list" #[] 0)).update s.heap.objs.size (Obj.mapSeq (· ++ vs.toArray))).objs.size=s.heap.objs.size + 1:=by rw [Bv,size_push']
 have hoL:(((s.heap.push (seqObj "list" #[] 0)).update s.heap.objs.size (Obj.mapSeq (· ++ vs.toArray))).push (seqObj "list" vs.toArray 0)).get? (s.heap.objs.size + 1)=some (seqObj "list" vs.toArray 0):=by rw [← hsz];exact AT _ rfl
 have keep:∀ b o,s.heap.get? b=some o->(((s.heap.push (seqObj "list" #[] 0)).update s.heap.objs.size (Obj.mapSeq (· ++ vs.toArray))).push (seqObj "list" vs.toArray 0)).get? b=some o:=fun b o q=>by
  have hlt:b < s.heap.objs.size:=AK q;rw [Heap.get?_push_ne _ _ _ (by rw [hsz];exact AV (BB hlt)),Heap.get?_update_ne _ _ _ _ (AV hlt),Heap.get?_push_ne _ _ _ (AV hlt)]
  exact q
 show wpAny _ _ _ _ _ { s with heap:=((s.heap.push (seqObj "list" #[] 0)).update s.heap.objs.size (Obj.mapSeq (· ++ vs.toArray))).push (seqObj "list" vs.toArray 0) };rw [hsz];have hne:∀ b o,s.heap.get? b=some o->b≠s.heap.objs.size + 1:=fun b o q=>AV (BB (AK q));refine AA (Ae (A2 slot_list_sort ⟨_,hoL,rfl⟩ entry_list_sort (qCE (O:=O) (key:=key) (κ:=κ) hoL h64 (fun h2 h6 Q' k q=>hk h2 _ _ h6 Q' (fun b o hb=>k b o (hne b o hb) (keep b o hb)) q) (fun h6 i j C k hi hj q=>hc h6 i j C (fun b o hb=>k b o (hne b o hb) (keep b o hb)) hi hj q) fun p a1 a2=>⟨_,rfl,?_⟩) (args_list_sort _)));exact AB ⟨_,rfl,h p a1 a2⟩
end
def lxb:List Int->List Int->Bool
 |_,[]=>false
 |[],_::_=>true
 |a::l,b::m=>if a < b then true else if b < a then false else lxb l m
theorem yx:∀ l,lxb l l=false
 |[]=>rfl
 |a::l=>by rw [lxb,AJ (Int.lt_irrefl a),AJ (Int.lt_irrefl a)];exact yx l
theorem qBg:∀ a b c,lxb a b=true->lxb b c=true->lxb a c=true
 |_,_,[],_,h=>by cases ‹List Int› <;> simp [lxb] at h
 |_,[],_::_,h,_=>by simp [lxb] at h
 |[],_::_,_::_,_,_=>rfl
 |x::l,y::m,z::n,h1,h2=>by
  unfold lxb at h1 h2 ⊢;by_cases hxy:x < y
  ·by_cases hyz:y < z
   ·rw [AF (by omega)]
   ·rw [AJ hyz] at h2;by_cases hzy:z < y
    ·rw [AF hzy] at h2;cases h2
    ·rw [AF (by omega)]
  ·rw [AJ hxy] at h1;by_cases hyx:y < x
   ·rw [AF hyx] at h1;cases h1
   ·rw [AJ hyx] at h1;by_cases hyz:y < z
    ·rw [AF (by omega)]
    ·rw [AJ hyz] at h2;by_cases hzy:z < y
     ·rw [AF hzy] at h2;cases h2
     ·rw [AJ hzy] at h2;rw [AJ (by omega),AJ (by omega)]
      exact qBg l m n h1 h2
theorem yq:∀ a b,lxb a b=false->lxb b a=false->a=b
 |[],[],_,_=>rfl
 |[],_::_,h,_=>by cases h
 |_::_,[],_,h=>by cases h
 |x::l,y::m,h1,h2=>by
  unfold lxb at h1 h2;by_cases hxy:x < y
  ·rw [AF hxy] at h1;cases h1
  ·by_cases hyx:y < x
   ·rw [AF hyx] at h2;cases h2
   ·rw [AJ hxy,AJ hyx] at h1;rw [AJ hyx,AJ hxy] at h2
    have:x=y:=by omega
    rw [this,yq l m h1 h2]
def lxO:KeyOrd where
 α:=List Int
 blt:=lxb
 irrefl:=yx
 trans:=qBg
 total:=yq
 negTrans:=fun a b c h=>by
  cases h1:lxb a b with
  |true=>exact .inl rfl
  |false =>
   right;cases h2:lxb b a with
   |true=>exact qBg b a c h2 h
   |false=>rw [← yq a b h1 h2];exact h
section
variable {prog:Program} {w:World} {A:Around} {E:Value->Shared->Prop} {s:Shared}
theorem qGg (b:Bool) {x y:Int} {t u:Tok} {Q:Bool->Shared->Prop} (h:Q (decide (x < y)) s):wpAny (model prog w) A (oneLt' b (.int x t) (.int y u)) Q E s:=by
 cases b with
 |true=>exact oneLt_int h
 |false=>exact kat_one _ _ (wpAny_lt_int h)
theorem qIY {b fin:Bool} {Q:Bool->Shared->Prop} {ks:List Int} {vs:List Value} (hx:ItemsAre (intKind prog w) ks vs):∀ {ks':List Int} {us:List Value} (i:Nat),ItemsAre (intKind prog w) ks' us->decide (vs.length < us.length)=fin->Q (lxb ks ks') s->KatLex prog w A b fin Q (vs.zip us) i s:=by
 induction hx with
 |nil =>
  intro ks' us i hy hf h;refine kat_nil ?_;cases hy with
  |nil=>rw [← hf];exact h
  |cons _ _=>rw [← hf,B3,AU,Af (Nat.succ_pos _)];exact h
 | @cons k v ks vs h1 h2 ih =>
  intro ks' us i hy hf h;cases hy with
  |nil=>refine kat_nil ?_;rw [← hf];exact h
  | @cons k' u ks' us g1 g2 =>
   rw [BP];refine kat_cons ((intKind prog w).eqBool h1 g1 ?_);obtain ⟨n1,t1,rfl⟩:=zl (.cons h1 h2) v AH;obtain ⟨n2,t2,rfl⟩:=zl (.cons g1 g2) u AH;have e1:n1=k:=(intKind prog w).inj _ _ _ (intKind_is prog w n1 t1) h1;have e2:n2=k':=(intKind prog w).inj _ _ _ (intKind_is prog w n2 t2) g1;subst e1;subst e2;unfold lxb at h;by_cases hq:n1=n2
   ·rw [Af hq];rw [AJ (by omega),AJ (by omega)] at h
    exact kat_yes (ih (i + 1) g2 (by simpa using hf) h)
   ·rw [AX hq];refine kat_no (qGg _ ?_);by_cases hl:n1 < n2
    ·rw [AF hl] at h;rw [Af hl];exact h
    ·rw [AJ hl,AF (by omega)] at h;rw [AX hl];exact h
theorem qHb {b:Bool} {ks ks':List Int} {x y:Addr} {Q:Bool->Shared->Prop} (hx:TK prog w s.heap ks x) (hy:TK prog w s.heap ks' y) (h:Q (lxb ks ks') s):wpAny (model prog w) A (keyLt' (tuples' b) (.ref x) (.ref y)) Q E s:=by obtain ⟨ox,xs,n,h1,_,h3,h4⟩:=hx;obtain ⟨oy,ys,m,g1,_,g3,g4⟩:=hy;exact kat_lt h1 h3 g1 g3 (qIY h4 0 g4 (by simp) h)
inductive TsV (prog:Program) (w:World) (h:Heap):List Value->List (List Int)->Prop
 |nil:TsV prog w h [] []
 |cons {ks:List Int} {b:Addr} {vs:List Value} {kss:List (List Int)}:TK prog w h ks b->ks≠[]->TsV prog w h vs kss->TsV prog w h (.ref b::vs) (ks::kss)
theorem TsV.len {h:Heap} {vs:List Value} {kss:List (List Int)} (e:TsV prog w h vs kss):vs.length=kss.length:=by
 induction e with
 |nil=>rfl
 |cons _ _ _ ih=>rw [AU,AU,ih]
theorem TsV.keep {h h':Heap} {vs:List Value} {kss:List (List Int)} (e:TsV prog w h vs kss) (k:∀ b o,(∃ ks,TK prog w h ks b)->h.get? b=some o->h'.get? b=some o):TsV prog w h' vs kss:=by
 induction e with
 |nil=>exact .nil
 |cons a ne _ ih=>exact .cons (a.keep fun o=>k _ o ⟨_,a⟩) ne ih
theorem TsV.get {h:Heap} {vs:List Value} {kss:List (List Int)} (e:TsV prog w h vs kss):∀ {i:Nat},i < vs.length -> ∃ b,vs.getD i Value.none = .ref b∧TK prog w h (kss.getD i []) b:=by
 induction e with
 |nil=>intro i hi;exact absurd hi (BN _)
 | @cons ks b vs kss a _ _ ih =>
  intro i hi;cases i with
  |zero=>exact ⟨b,rfl,a⟩
  |succ i=>simpa using ih (i:=i) (by simpa using hi)
theorem TsV.kat {h:Heap} {vs:List Value} {kss:List (List Int)} (e:TsV prog w h vs kss):∃ fs:List Value,KatTups h vs fs∧fs.length=vs.length ∧ ∀ v∈fs,∃ n t,v=Value.int n t:=by
 induction e with
 |nil=>exact ⟨[],KatTups.nil,rfl,fun v hv=>(AR hv).elim⟩
 | @cons ks b vs kss a ne _ ih =>
  obtain ⟨fs,h1,h2,h3⟩:=ih;obtain ⟨o,its,n,g1,g2,g3,g4⟩:=a;have hv:=zl g4;cases hq:its.toList with
  |nil =>rw [hq] at g4;cases g4;exact absurd rfl ne
  |cons f r =>
   have hf:its[0]? = some f:=by rw [← A0,hq];rfl
   refine ⟨f::fs,KatTups.cons g1 g2 g3 hf h1,by rw [AU,AU,h2],fun v hv' => ?_⟩
   rcases AD.mp hv' with q |q
   ·rw [q];exact hv f (by rw [hq];exact AH)
   ·exact h3 v q
theorem qEH {vs:List Value} {kss:List (List Int)} {Q:SortKind->Shared->Prop} (e:TsV prog w s.heap vs kss) (h2:2≤vs.length) (h:Q (tuples' true) s):wpAny (model prog w) A (keyKind' vs.toArray) Q E s:=by
 obtain ⟨fs,h1,h3,h4⟩:=e.kat;refine kat_kind (T := .type "int") h1 (by omega) (fun v hv => ?_) (by decide) ?_
 ·obtain ⟨n,t,rfl⟩:=h4 v hv;exact .now
 ·rw [show (Value.type "int" != Value.type "tuple")=true by decide];exact h
def srt (kss:List (List Int)):List (List Int):=kss.mergeSort fun a b => !lxb b a
theorem Qu (kss:List (List Int)):(srt kss).Perm kss:=List.mergeSort_perm _ _
theorem yF (kss:List (List Int)):(srt kss).Pairwise fun a b=>lxb b a=false:=by
 have:=List.pairwise_mergeSort (le:=fun a b:List Int => !lxb b a) (fun a b c h1 h2=>by
  simp only [Bool.not_eq_eq_eq_not,Bool.not_true] at h1 h2 ⊢;exact CW (O:=lxO) h1 h2) (fun a b=>by
  cases h:lxb b a with
  |false=>simp
  |true =>
   have:lxb a b=false:=CL (O:=lxO) (a:=b) (b:=a) h
   simp [this]) kss
 exact this.imp fun h=>by simpa using h
theorem qCV:∀ {l m:List (List Int)},l.Pairwise (fun a b=>lxb b a=false)->m.Pairwise (fun a b=>lxb b a=false)->l.Perm m->l=m
 |[],m,_,_,p=>(List.Perm.eq_nil p.symm).symm
 |x::l,[],_,_,p=>by have:=p.length_eq;simp at this
 |x::l,y::m,hl,hm,p=>by
  have hx:x∈y::m:=p.mem_iff.mp AH;have hy:y∈x::l:=p.mem_iff.mpr AH;have e:x=y:=by
   have h1:lxb y x=false:=by
    rcases AD.mp hy with q |q
    ·rw [q];exact yx _
    ·exact (BQ.mp hl).1 y q
   have h2:lxb x y=false:=by
    rcases AD.mp hx with q |q
    ·rw [q];exact yx _
    ·exact (BQ.mp hm).1 x q
   exact yq _ _ h2 h1
  subst e;rw [qCV (BQ.mp hl).2 (BQ.mp hm).2 (List.Perm.cons_inv p)]
theorem qH0 {h:Heap} {vs:List Value} {kss:List (List Int)} (e:TsV prog w h vs kss) {p:Array Nat} (B:PB vs.length p) (S:Srt (O:=lxO) (fun i=>kss.getD i []) p vs.length):p.toList.map (fun i=>kss.getD i [])=srt kss:=by
 have hsz:=B.size;refine qCV ?_ (yF kss) ?_
 ·rw [Br,List.pairwise_iff_getElem];intro i j hi hj hij
  have:=S i j (by omega) (by rw [AW] at hj;omega)
  unfold kq at this;rw [AN,AN,AS (by simpa using hi),AS (by simpa using hj)] at this
  exact this
 ·refine ((Array.perm_iff_toList_perm.mp B.perm).map _).trans (.trans ?_ (Qu kss).symm)
  have:(List.range vs.length).map (fun i=>kss.getD i [])=kss:=by
   rw [e.len];refine List.ext_getElem (by simp) fun i h1 h2 => ?_
   simp [Al,AL h2]
  show ((List.range vs.length).map fun i=>kss.getD i []).Perm kss;rw [this]
end
end ET
end
section
namespace ET
open PySem PySem.Spec PyProof.Rows L2
open EX
structure SetW (w:World) (h:Heap) (a:Addr) (es:Array (Int×Value)) (ep:Nat) (t:SetTable):Prop where
 ex:∃ o,h.get? a=some o∧o.ExactSet∧o.data=Data.set es ep t
 T:TbT w t es
 n:es.size≤300
def ItW (w:World) (h:Heap) (it a:Addr) (es:Array (Int×Value)) (ep:Nat) (t:SetTable) (i:Nat):Prop := ∃ (o:Obj) (slot:Nat),h.get? it=some o∧o.cls = .type "set_iterator" ∧ o.data = .fields #[.int slot 0,.int i 0,.ref a,.int es.size 0,.int ep 0]∧(byT w=false->SetTable.below t.place slot=i)
section
variable {prog:Program} {w:World} {A:Around} {E:Value->Shared->Prop} {s:Shared} {a it:Addr} {es:Array (Int×Value)} {ep i:Nat} {t:SetTable}
theorem SetW.fits (L:SetW w s.heap a es ep t):t.fits es.size=true:=JA L.T.g
theorem SetW.typeIs (L:SetW w s.heap a es ep t):s.TypeIs (.ref a) "set" := let ⟨o,h,c,_⟩:=L.ex;⟨o,h,c.1⟩
theorem ItW.typeIs (I:ItW w s.heap it a es ep t i):s.TypeIs (.ref it) "set_iterator" := let ⟨o,_,h,c,_⟩:=I;⟨o,h,c⟩
theorem qDM {Q:Value->Shared->Prop} (L:SetW w s.heap a es ep t)
  (hQ:Q (.ref s.heap.objs.size) { s with heap:=s.heap.push { cls := .type "set_iterator",data := .fields #[.int 0 0,.int 0 0,.ref a,.int es.size 0,.int ep 0] } }):wpAny (model prog w) A (pyIter (.ref a)) Q E s:=by
 obtain ⟨o,ho,hx,hd⟩:=L.ex;refine wpAny_pyIter_slot L.typeIs F.slot_set_iter (A2 F.slot_set_iter L.typeIs j0 ?_ (F.args_set_iter_1 _));unfold Builtin.«frozenset.__iter__» Builtin.Frozenset.slot0 Builtin.Frozenset.sizeOf setEntries;refine AA (Ah (a:=a) rfl ?_);refine AA (AA (AA (A5 ho hd L.fits (AB (AB ?_)))));unfold setDrawn setsByText;refine AA (AA (A5 ho hd L.fits ?_));dsimp only;refine AA (AA (CA (AB (AB ?_))));rw [AJ (by
  rw [Ab];intro q;have q2:(!t.plain&&decide (es.size > 1))=true:=q.2;rw [L.T.pl] at q2;cases q2)]
 refine AA (AB ?_);unfold setEpoch newFields;refine AA (AA (A5 ho hd L.fits (AB ?_)));exact AA (Az (AB ⟨_,rfl,"set_iterator",_,⟨_,AT _ rfl,rfl⟩,slot_setit.lookup,by simpa [rawInt] using hQ⟩))
theorem Y8 {R:Option (Value×Nat)->Shared->Prop} {slot:Nat} (L:SetW w s.heap a es ep t) (hb:byT w=false->SetTable.below t.place slot=i)
  (h1:∀ e nx,(wc w a ep es)[i]? = some e->(byT w=false->SetTable.below t.place nx=i + 1)->R (some (e.2,nx)) s) (h2:(wc w a ep es)[i]? = none->R none s):wpAny (model prog w) A (setNext a ((slot:Int)).toNat ((i:Int)).toNat ((ep:Int)).toNat) R E s:=by
 obtain ⟨o,ho,hxs,hd⟩:=L.ex;have hf:=L.fits;unfold setNext;refine AA (A5 ho hd hf ?_);unfold setsByText;dsimp only;refine AA (AA (CA (AB ?_)));rw [BW,BW,BW];by_cases hby:byT w=true
 ·rw [AF (by exact hby),AJ (by simp)]
  unfold setWalk setsByText;refine AA (AA (A5 ho hd hf ?_));dsimp only;refine AA (AA (CA (AB ?_)));rw [AF (by exact hby)]
  refine AA (CA (AB (AB ?_)));have eo:wc w a ep es=pickOrder (w.params.setOrder a ep) es:=by unfold wc;rw [AF hby]
  rw [eo] at h1 h2;show R (((pickOrder (w.params.setOrder a ep) es)[i]?).map fun e=>(e.2,slot)) s;cases hx:(pickOrder (w.params.setOrder a ep) es)[i]? with
  |none=>exact h2 hx
  |some e=>exact h1 e slot hx fun q=>by rw [q] at hby;cases hby
 ·have hby':byT w=false:=by cases h:byT w with |true=>exact absurd h hby |false=>rfl
  rw [AJ (by exact hby),AJ (by
   intro q;have q2:(!t.plain&&decide (es.size > 1))=true:=q;rw [L.T.pl] at q2;cases q2)]
  have eo:wc w a ep es=es:=by unfold wc;rw [AJ hby]
  rw [eo] at h1 h2;have hled:t.led=true:=by rw [L.T.led,hby'];rfl
  refine AA (Ah (a:=()) ?_ (AB ?_))
  ·show (if (!t.led && !es.isEmpty)=true then unsupported "set:maker-not-led" else pure ())=pure ();rw [hled];rfl
  ·rw [hb hby'];have hps:t.place.size=es.size:=L.T.g.sz;cases hx:es[i]? with
   |none=>exact h2 hx
   |some e =>
    have hi:i < es.size:=(BU.mp hx).1;have hp:t.place[i]? = some (t.place.getD i 0):=by rw [AN,AS (by omega)];rfl
    rw [hp];exact h1 e _ hx fun _=>qBh L.T.g.ris (by omega)
theorem qCx {Q:Option Value->Shared->Prop} (L:SetW w s.heap a es ep t) (I:ItW w s.heap it a es ep t i) {e:Int×Value} (hx:(wc w a ep es)[i]? = some e)
  (hQ:∀ h',ItW w h' it a es ep t (i + 1)->Heap.SameBut it s.heap h'->Q (some e.2) { s with heap:=h' }):wpAny (model prog w) A (pyNext (.ref it)) Q E s:=by
 obtain ⟨o,ho,hxs,hd⟩:=L.ex;obtain ⟨oi,slot,hoi,hci,hdi,hb⟩:=id I;unfold pyNext;refine AA (Bj (Ay (name:=Str.ofString "__next__") I.typeIs slot_setit (A2 slot_setit I.typeIs Zk ?_ (YG _))));unfold Builtin.«set_iterator.__next__»;refine AA (Ah (a:=(.ref it,[])) rfl ?_);dsimp only;refine AA (wpAny_fieldsOf hoi hdi ?_);dsimp only;unfold setEntries;refine AA (AA (A5 ho hd L.fits (AB ?_)));rw [AJ (by simp)]
 refine AA (Y8 L hb (fun e' nx he hn => ?_) fun he => ?_)
 ·rw [hx] at he;cases he;dsimp only;refine AA (BL hoi hdi (by simp) ?_)
  have ho1:=As (Obj.mapFields fun x=>x.setIfInBounds 0 (rawInt (nx:Int))) hoi (Bn (A9 hdi _));refine AA (BL ho1 (A9 hdi _) (by simp) ?_)
  have ho2:=As (Obj.mapFields fun x=>x.setIfInBounds 1 (rawInt ((i:Int) + 1))) ho1 (Bn (A9 (A9 hdi _) _));refine AB ⟨_,rfl,AB (hQ _ ⟨_,nx,ho2,?_,?_,hn⟩ ⟨?_,fun b hb' => ?_⟩)⟩
  ·rw [CI,CI];exact hci
  ·rw [A9 (A9 hdi _)];simp [rawInt]
  ·rw [Bv,Bv]
  ·exact (Aa _ _ (Ne.symm hb')).trans (Aa _ _ (Ne.symm hb'))
 ·rw [hx] at he;cases he
theorem qFm {Q:Option Value->Shared->Prop} (hh:A.handled=none) (L:SetW w s.heap a es ep t) (I:ItW w s.heap it a es ep t i) (hx:(wc w a ep es)[i]? = none)
  (hQ:∀ h',(∀ b o,b≠it->s.heap.get? b=some o->h'.get? b=some o)->Q none { s with heap:=h' }):wpAny (model prog w) A (pyNext (.ref it)) Q E s:=by
 obtain ⟨o,ho,hxs,hd⟩:=L.ex;obtain ⟨oi,slot,hoi,hci,hdi,hb⟩:=id I;unfold pyNext;refine AA (Bj (Ay (name:=Str.ofString "__next__") I.typeIs slot_setit (A2 slot_setit I.typeIs Zk ?_ (YG _))));unfold Builtin.«set_iterator.__next__»;refine AA (Ah (a:=(.ref it,[])) rfl ?_);dsimp only;refine AA (wpAny_fieldsOf hoi hdi ?_);dsimp only;unfold setEntries;refine AA (AA (A5 ho hd L.fits (AB ?_)));rw [AJ (by simp)]
 refine AA (Y8 L hb (fun e' nx he hn=>by rw [hx] at he;cases he) fun he => ?_)
 dsimp only;refine AA (BL hoi hdi (by simp) ?_)
 refine zT (A:=A.in1) (fun v hv=>by rw [show A.in1.handled=A.handled from rfl,hh] at hv;cases hv) fun h' e k ht => ?_
 refine AA (BE (T := "StopIteration") (b:=true) ht Ch ?_);exact AB (hQ _ fun b o' hb' q=>k b o' ((Aa _ _ (Ne.symm hb')).trans q))
end
section
variable {prog:Program} {w:World} {A:Around} {E:Value->Shared->Prop} {R:Result->Shared->Prop} {a it:Addr} {es:Array (Int×Value)} {ep:Nat} {t:SetTable}
theorem SetW.same {h h':Heap} (L:SetW w h a es ep t) (e:∀ o,h.get? a=some o->h'.get? a=some o):SetW w h' a es ep t:=by obtain ⟨⟨o,h1,h2⟩,T,n⟩:=L;exact ⟨⟨o,e o h1,h2⟩,T,n⟩
theorem ItW.same {h h':Heap} {i:Nat} (L:ItW w h it a es ep t i) (e:∀ o,h.get? it=some o->h'.get? it=some o):ItW w h' it a es ep t i:=by obtain ⟨o,sl,h1,h2⟩:=L;exact ⟨o,sl,e o h1,h2⟩
theorem qGl {D:Addr} (hh:A.handled=none) (hDa:a≠D) (hDi:it≠D) (hai:a≠it):∀ (k i:Nat) (s:Shared) (n:Nat),es.size - i=k->i≤es.size->SetW w s.heap a es ep t->ItW w s.heap it a es ep t i->s.heap.get? D=some (seqObj "list" (((wc w a ep es).toList.take i).map (·.2)).toArray n) ->
  (∀ (h':Heap) (n':Nat),(∀ b o,b≠D->b≠it->s.heap.get? b=some o->h'.get? b=some o)->h'.get? D=some (seqObj "list" ((wc w a ep es).toList.map (·.2)).toArray n')->R (.ok (.ret (.ref D))) { s with heap:=h' }) ->
  codeAny (model prog w) A (.builtin "list.extend.loop" ⟨[.ref D,.ref it,.ref D],[]⟩) R s:=by
 intro k;induction k with
 |zero =>
  intro i s n hk hi L I hD h;have hi':i=es.size:=by omega
  refine Bd jH ?_;rw [Bp W8];unfold Builtin.«list.extend.loop»;refine AA (qFm hh L I (by rw [Array.getElem?_eq_none];rw [zI];omega) fun h' hk' => ?_)
  dsimp only;refine AB (h h' n (fun b o h1 h2=>hk' b o h2) ?_);rw [hk' D _ (Ne.symm hDi) hD,CH (by rw [AW,zI];omega)]
 |succ k ih =>
  intro i s n hk hi L I hD h;have hi':i < (wc w a ep es).size:=by rw [zI];omega
  refine Bd jH ?_;rw [Bp W8];unfold Builtin.«list.extend.loop»;refine AA (qCx L I (AS hi') fun h' I' sb => ?_);dsimp only;unfold Builtin.List.listUpdate;dsimp only;have hD':h'.get? D=some (seqObj "list" (((wc w a ep es).toList.take i).map (·.2)).toArray n):=(sb.2 D (Ne.symm hDi)).trans hD;have hlen:(((wc w a ep es).toList.take i).map (·.2)).length≤300:=by
   rw [AI,Bl,AW,zI]
   have:=L.n
   omega
  have hsz:(((wc w a ep es).toList.take i).map (·.2)).toArray.size≤300:=by rw [AO];exact hlen
  refine AA (wpAny_updateSeq hD' rfl ?_ (Ac hsz (by decide)) (by rw [Array.size_push];exact Ac (Nat.succ_le_succ hsz) (by decide)))
  have e1:((((wc w a ep es).toList.take i).map (·.2)).toArray.push (wc w a ep es)[i].2)=((((wc w a ep es).toList.take (i + 1)).map (·.2)).toArray):=by
   have hl:i < (wc w a ep es).toList.length:=by rw [AW];exact hi'
   rw [B9 hl,CF,List.push_toArray];rfl
  have hu:∃ n2,(h'.update D (Obj.mapSeq fun x=>x.push (wc w a ep es)[i].2)).get? D=some (seqObj "list" (((wc w a ep es).toList.take (i + 1)).map (·.2)).toArray n2):=by rw [As _ hD' rfl,← e1];exact ⟨_,rfl⟩
  obtain ⟨n2,hu⟩:=hu;refine AB ⟨plainId_quiet W8 _,?_⟩;refine ih (i + 1) _ n2 (by omega) (by rw [zI] at hi';omega) (L.same fun o ho => ?_) (I'.same fun o ho => ?_) hu fun h2 n3 hb2 hD2=>h h2 n3 (fun b o h3 h4 ho=>hb2 b o h3 h4 ?_) hD2
  ·exact (Aa _ _ (Ne.symm hDa)).trans ((sb.2 a hai).trans ho)
  ·exact (Aa _ _ (Ne.symm hDi)).trans ho
  ·exact (Aa _ _ (Ne.symm h3)).trans ((sb.2 b h4).trans ho)
theorem qD7 {s:Shared} {Q:List Value->Shared->Prop} (hh:A.handled=none) (L:SetW w s.heap a es ep t)
  (hQ:∀ h',(∀ b o,s.heap.get? b=some o->h'.get? b=some o)->s.heap.objs.size≤h'.objs.size->Q ((wc w a ep es).toList.map (·.2)) { s with heap:=h' }):wpAny (model prog w) A (collect (.ref a)) Q E s:=by
 have hlt:a < s.heap.objs.size:=by obtain ⟨o,ho,_⟩:=L.ex;exact AK ho
 unfold collect;refine AA (wpAny_runValue (Bd F.entry_proto_collect ?_));rw [Bp F.plain_proto_collect];unfold Builtin.«proto.collect»;dsimp only;refine AA (Cj ?_);refine AB ⟨plainId_quiet F.plain_list_iadd _,Bd F.entry_list_iadd ?_⟩;rw [Bp F.plain_list_iadd];unfold Builtin.«list.__iadd__»;refine AA (Ah (a:=(.ref s.heap.objs.size,[.ref a])) rfl ?_);dsimp only;unfold Builtin.List.listExtendWith;have L1:SetW w (s.heap.push { cls := .type "list",data := .seq ([]:List Value).toArray }) a es ep t:=L.same fun o ho=>AC _ ho;refine AA (BZ (T := "set") L1.typeIs ?_);have hne:(s.heap.objs.size==a)=false:=AG.mpr (CM hlt);rw [AJ (by
  show ¬ ((s.heap.objs.size==a || _ || _)=true);rw [hne]
  decide)]
 refine AA (qDM L1 ?_);have L2:SetW w ((s.heap.push { cls := .type "list",data := .seq ([]:List Value).toArray }).push { cls := .type "set_iterator",data := .fields #[.int 0 0,.int 0 0,.ref a,.int es.size 0,.int ep 0] }) a es ep t:=L1.same fun o ho=>AC _ ho;refine AA (Ae (EX.hint_set L2.typeIs ?_));dsimp only;rw [AF (by decide +kernel)]
 have hz:(s.heap.push { cls := .type "list",data := .seq ([]:List Value).toArray }).objs.size=s.heap.objs.size + 1:=A3 ..;have hD0:((s.heap.push { cls := .type "list",data := .seq ([]:List Value).toArray }).push { cls := .type "set_iterator",data := .fields #[.int 0 0,.int 0 0,.ref a,.int es.size 0,.int ep 0] }).get? s.heap.objs.size=some (seqObj "list" #[] 0):=AC _ (AT _ rfl);refine AA (B7 (AA ?_));unfold Builtin.List.listTouch Builtin.List.listUpdate;dsimp only;refine AA (wpAny_updateSeq hD0 rfl ?_ (by decide) (by decide))
 have hD1:=As (Obj.mapSeq fun x=>x.push Value.none) hD0 rfl;refine wpAny_updateSeq hD1 rfl ?_ (by decide) (by decide)
 have hD2:∃ n,((((s.heap.push { cls := .type "list",data := .seq ([]:List Value).toArray }).push { cls := .type "set_iterator",data := .fields #[.int 0 0,.int 0 0,.ref a,.int es.size 0,.int ep 0] }).update s.heap.objs.size (Obj.mapSeq fun x=>x.push Value.none)).update s.heap.objs.size (Obj.mapSeq fun x=>x.pop)).get? s.heap.objs.size=some (seqObj "list" #[] n):=by rw [As _ hD1 rfl];exact ⟨_,rfl⟩
 obtain ⟨n2,hD2⟩:=hD2;have hkeep:∀ b o,b≠s.heap.objs.size->((s.heap.push { cls := .type "list",data := .seq ([]:List Value).toArray }).push { cls := .type "set_iterator",data := .fields #[.int 0 0,.int 0 0,.ref a,.int es.size 0,.int ep 0] }).get? b=some o->((((s.heap.push { cls := .type "list",data := .seq ([]:List Value).toArray }).push { cls := .type "set_iterator",data := .fields #[.int 0 0,.int 0 0,.ref a,.int es.size 0,.int ep 0] }).update s.heap.objs.size (Obj.mapSeq fun x=>x.push Value.none)).update s.heap.objs.size (Obj.mapSeq fun x=>x.pop)).get? b=some o:=fun b o hb ho=>(Aa _ _ (Ne.symm hb)).trans ((Aa _ _ (Ne.symm hb)).trans ho);have hi1:(s.heap.push { cls := .type "list",data := .seq ([]:List Value).toArray }).objs.size≠s.heap.objs.size:=by rw [hz];exact CM (Nat.lt_succ_self _)
 refine AB ⟨plainId_quiet W8 _,?_⟩;refine qGl (w:=w) (t:=t) (ep:=ep) (es:=es) (a:=a) hh (AV hlt) hi1 (by rw [hz];exact AV (BB hlt)) _ 0 _ n2 rfl (BV _) (L2.same fun o ho=>hkeep a o (AV hlt) ho) ⟨_,0,hkeep _ _ hi1 (AT _ rfl),rfl,rfl,fun _=>qBq L.T.g.ris⟩ hD2 fun h' n' hk hD => ?_
 dsimp only;refine AA (wpAny_load' hD ?_);refine AB ?_
 have:=hQ h' (fun b o ho=>hk b o (AV (AK ho)) (by rw [hz];exact AV (BB (AK ho))) (hkeep b o (AV (AK ho)) (AC _ (AC _ ho)))) (Ce (AK hD))
 simpa using this
end
open EX
def Zz (acc:List (List Int)) (k:List Int):List (List Int):=if k∈acc then acc else acc++[k]
def ddT (kss:List (List Int)):List (List Int):=kss.foldl Zz []
theorem qEo {kss:List (List Int)} {i:Nat} (h:i < kss.length):ddT (kss.take (i + 1))=Zz (ddT (kss.take i)) (kss.getD i []):=by unfold ddT;rw [B9 h,List.foldl_append,Al,AL h];rfl
theorem qC6 {a b:List (List Int)} {k:List Int} (h:a.Perm b):(if k∈a then a else a++[k]).Perm (Zz b k):=by
 unfold Zz;by_cases q:k∈a
 ·rw [AF q,AF (h.mem_iff.mp q)];exact h
 ·rw [AJ q,AJ (fun z=>q (h.mem_iff.mpr z))];exact h.append_right _
theorem JJ:∀ (kss acc:List (List Int)),(kss.foldl Zz acc).length≤acc.length + kss.length
 |[],acc=>AM _
 |k::vs,acc=>by
  rw [Cd,AU];have h:=JJ vs (Zz acc k)
  have:(Zz acc k).length≤acc.length + 1:=by
   unfold Zz;split
   ·omega
   ·rw [AZ];exact AM _
  omega
section
variable {prog:Program} {w:World} {A:Around} {E:Value->Shared->Prop} {R:Result->Shared->Prop}
theorem SetT.same {h h':Heap} {a:Addr} {es:Array (Int×Value)} {ep:Nat} {t:SetTable} {kss:List (List Int)} (S:SetT prog w h a es ep t kss) (e:∀ b o,(b=a ∨ ∃ ks,TK prog w h ks b)->h.get? b=some o->h'.get? b=some o):SetT prog w h' a es ep t kss:=by obtain ⟨⟨o,h1,h2⟩,el,nd,tb⟩:=S;exact ⟨⟨o,e a o (.inl rfl) h1,h2⟩,el.keep fun b ks k=>k.keep fun o' ho'=>e b o' (.inr ⟨ks,k⟩) ho',nd,tb⟩
theorem yA {h:Heap} {b:Addr} {o:Obj} (ho:h.get? b=some o) (hc:o.cls ≠ .type "tuple"):∀ ks,¬ TK prog w h ks b:=fun ks ⟨o',_,_,h1,h2,_⟩=>by rw [ho] at h1;cases h1;exact hc h2
theorem SetT.not {h:Heap} {a:Addr} {es:Array (Int×Value)} {ep:Nat} {t:SetTable} {kss:List (List Int)} (S:SetT prog w h a es ep t kss) (ks:List Int):¬ TK prog w h ks a:=by obtain ⟨o,ho,hx,_⟩:=S.ex;exact yA ho (by rw [hx.1];decide) ks
theorem qAm {I:Addr} {fp wr:List Addr} {n:Nat} {P:Nat->Value->Prop} {St:Nat->Heap->Prop} (W:Walks prog w A.in1 I fp wr n P St) (hwr:∀ i h,St i h -> ∀ b∈wr,∀ ks,¬ TK prog w h ks b) (hu:A.in1.units < cLine) {Sa:Addr} (hS:Sa ∉ fp) {its:List Value} {kss:List (List Int)} (hn:its.length=n) (h3:n≤299) (hv:∀ i v,P i v->its[i]? = some v) :
  ∀ (k i:Nat) (s:Shared) (es:Array (Int×Value)) (ep:Nat) (t:SetTable) (ks1:List (List Int)),n - i=k->i≤n->St i s.heap->TsV prog w s.heap its kss->SetT prog w s.heap Sa es ep t ks1->(∀ e∈es.toList,e.2∈its)->ks1.Perm (ddT (kss.take i)) ->
   (∀ (h':Heap) (tk:Nat) (es':Array (Int×Value)) (ep':Nat) (t':SetTable) (ks':List (List Int)),(∀ b o,b ∉ Sa::wr->s.heap.get? b=some o->h'.get? b=some o)->SetT prog w h' Sa es' ep' t' ks'->ks'.Perm (ddT kss)->(∀ e∈es'.toList,e.2∈its)->R (.ok (.ret .none)) { s with heap:=h',toks:=tk }) ->
   codeAny (model prog w) A (.builtin "set.update.loop" ⟨[.ref Sa,.ref I],[]⟩) R s:=by
 intro k;induction k with
 |zero =>
  intro i s es ep t ks1 hk hi hSt V S hE hp h
  have:i=n:=by omega
  subst this;refine Bd F.entry_set_update_loop ?_;rw [Bp F.plain_set_update_loop];unfold Builtin.«set.update.loop»;refine AA (W.done _ _ _ hSt fun h' tk hk' => ?_);dsimp only;refine AB ?_;refine h h' tk es ep t ks1 (fun b o hb'=>hk' b o fun q=>hb' (AE _ q)) (S.same fun b o hb=>hk' b o fun q=>hb.elim (fun z=>hS (W.sub _ (by rw [← z];exact q))) fun ⟨ks,z⟩=>hwr _ _ hSt b q ks z) ?_ ?_
  ·rw [← hn,V.len,List.take_length] at hp;exact hp
  ·exact hE
 |succ k ih =>
  intro i s es ep t ks1 hk hi hSt V S hE hp h;have hi':i < n:=by omega
  refine Bd F.entry_set_update_loop ?_;rw [Bp F.plain_set_update_loop];unfold Builtin.«set.update.loop»;refine AA (W.item i _ _ _ hi' hSt fun v h' tk hP hSt' hk' => ?_);obtain ⟨b,hb,kb⟩:=V.get (i:=i) (by omega)
  have hvi:=hv i v hP;have evb:v = .ref b:=by rw [Al,hvi] at hb;exact hb
  subst evb;have low:∀ c o,(∃ ks,TK prog w s.heap ks c)->s.heap.get? c=some o->h'.get? c=some o:=fun c o ⟨ks,z⟩=>hk' c o fun q=>hwr _ _ hSt c q ks z;have kb':TK prog w h' (kss.getD i []) b:=kb.keep fun o=>low b o ⟨_,kb⟩;have S':SetT prog w h' Sa es ep t ks1:=S.same fun c o hc=>hc.elim (fun z=>hk' c o fun q=>hS (W.sub _ (by rw [← z];exact q))) fun z=>low c o z
  have V':TsV prog w h' its kss:=V.keep low;dsimp only;refine AA (Ae ?_);unfold setAdd;refine Ae (AA (wpAny_pyHash_tuple (s:={ s with heap:=h',toks:=tk }) hu kb' ?_));have hl:ks1.length + 1≤300:=by
   have:=JJ (kss.take i) []
   have e:(ddT (kss.take i)).length≤i:=by have q:=List.length_take_le i kss;unfold ddT;have z:([]:List (List Int)).length=0:=rfl;omega
   rw [hp.length_eq];omega
  refine qKh (s:={ s with heap:=h',toks:=tk + ((kss.getD i []).length + 1) }) hu S' kb' hl fun h2 es2 ep2 t2 ks2 hs2 S2 hp2 he2 => ?_;refine AB ⟨plainId_quiet F.plain_set_update_loop _,?_⟩;refine ih (i + 1) _ es2 ep2 t2 ks2 (by omega) (by omega) (W.frame _ _ _ hSt' fun b hbf o ho=>by
   rw [hs2.2 b (fun z=>hS (by rw [← z];exact hbf))];exact ho) ?_ S2 (fun e he=>(he2 e he).elim (hE e) fun z=>by rw [z];exact Ar hvi) ?_ fun h3 tk3 es3 ep3 t3 ks3 hh S3 hp3 hE3 => ?_
  ·exact V'.keep fun c o ⟨ks,z⟩ ho=>(hs2.2 c (fun e=>S'.not ks (by rw [← e];exact z))).trans ho
  ·rw [qEo (by rw [← V.len];omega)]
   exact hp2.trans (qC6 hp)
  ·exact h h3 tk3 es3 ep3 t3 ks3 (fun b o hbn ho=>hh b o hbn (by
    have:b≠Sa:=fun z=>hbn (by rw [z];exact AH)
    rw [hs2.2 b this];exact hk' b o (fun q=>hbn (AE _ q)) ho)) S3 hp3 hE3
theorem qCd {h:Heap} {led:Bool} (hl:led = !byT w):SetT prog w (h.push { cls := .type "set",data := .set #[] 0 (SetTable.fresh 0 0 led) }) h.objs.size #[] 0 (SetTable.fresh 0 0 led) [] :=
 ⟨⟨_,AT _ rfl,⟨rfl,rfl,rfl⟩,rfl⟩,.nil,List.nodup_nil,⟨⟨rfl,rfl,fun i k _ hk=>absurd hk (BN _),fun j hj=>(AR hj).elim,BV _⟩,fun q hq=>(AR hq).elim,.inl ⟨rfl,BV _⟩,hl,rfl⟩⟩
theorem qA7 {s:Shared} {l:Addr} {items:Array Value} {kss:List (List Int)} {Q:Value->Shared->Prop} (hh:A.handled=none) (hu:A.units + 8 < cLine) (hl:s.heap.IsList l items) (V:TsV prog w s.heap items.toList kss) (h3:kss.length≤299)
  (h:∀ (h':Heap) (tk:Nat) (es':Array (Int×Value)) (ep':Nat) (t':SetTable) (ks':List (List Int)),SetT prog w h' s.heap.objs.size es' ep' t' ks'->ks'.Perm (ddT kss)->(∀ e∈es'.toList,e.2∈items.toList)->(∀ b o,b < s.heap.objs.size->s.heap.get? b=some o->h'.get? b=some o)->Q (.ref s.heap.objs.size) { s with heap:=h',toks:=tk }) :
  wpAny (model prog w) A (call (.type "set") [.ref l]) Q E s:=by
 refine Bk (codeAny_of_tree (Ah (a:=Fin.again (.builtin "type.__call__" ⟨[.type "set",.ref l],[]⟩)) rfl ⟨Cg _ (by decide +kernel),?_⟩))
 refine Bd F.entry_type_call ?_;rw [Around.under_plain (weight_type_call_type _ _ _) rfl];unfold Builtin.«type.__call__»;dsimp only;rw [AJ (by rw [F.called_set.notType];decide),AJ (by rw [F.called_set.canCreate];decide)]
 refine AA (Ah (F.typeCall_set_1 _) ?_);obtain ⟨c,tl,hm⟩:=F.called_set.mro;refine AA (Ah hm ?_);rw [AJ (by simp)]
 refine AA (Ah F.called_set.made ?_);dsimp only;refine AA (AB (AA (Ae (Bk (qCb ?_)))));have hT:({ s with heap:=s.heap.push { cls := .type "set",data := .set #[] 0 (SetTable.fresh 0 0 (!byT w)) } }:Shared).TypeIs (.ref s.heap.objs.size) "set" := ⟨_,AT _ rfl,rfl⟩;refine AA (BE hT sub_set_self ?_);rw [AJ (by decide)]
 refine AA (Ae ?_);unfold callSpecial?;refine AA (Cc hT F.called_set.init.lookup ?_);dsimp only;refine Ae (AA (Ah (F.called_set.init.bind _) ?_));dsimp only;refine AA (Bk (Bc F.called_set.init.plain F.entry_set_init (check_set_init_1 hT ?_)));unfold Builtin.«set.__init__»;refine AA (Ah (a:=()) rfl ?_);show wpAny _ _ (do
  let n ← typeNameOfCut 200 (.ref s.heap.objs.size)
  checkCount n 0 1 1
  let a ← Builtin.Frozenset.addrOf (.ref s.heap.objs.size);let u ← setUsed a
  if u=true then do
   Builtin.Frozenset.clearAll a
   Builtin.Frozenset.updateFrom "set.__init__" a (.ref l)
   ret Value.none
  else do
   Builtin.Frozenset.updateFrom "set.__init__" a (.ref l)
   ret Value.none) _ _ _
 unfold typeNameOfCut shownTypeOf;refine AA (AA (AA (BZ hT ?_)));rw [AJ (by decide)]
 refine AB (Ah (a := "set") (by rfl) ?_)
 refine AA (Ah (a:=()) rfl ?_);refine AA (Ah (a:=s.heap.objs.size) rfl ?_);unfold setUsed;have hg:(s.heap.push { cls := .type "set",data := .set #[] 0 (SetTable.fresh 0 0 (!byT w)) }).get? s.heap.objs.size=some { cls := .type "set",data := .set #[] 0 (SetTable.fresh 0 0 (!byT w)) }:=AT _ rfl;refine AA (AA (A5 hg rfl rfl (AB ?_)));rw [AJ (by intro q;exact Bool.noConfusion (show false=true from q))]
 refine AA ?_;unfold Builtin.Frozenset.updateFrom Builtin.Frozenset.isAnySet;have hl':(s.heap.push { cls := .type "set",data := .set #[] 0 (SetTable.fresh 0 0 (!byT w)) }).IsList l items:=hl.push _;refine AA (AA (BE (T := "list") hl'.typeIs F.sub_list_set ?_));show wpAny _ _ (isInstance (.ref l) (.type "frozenset")) _ _ _;refine BE (T := "list") hl'.typeIs F.sub_list_frozenset ?_;rw [AJ (by decide)]
 refine AA (BZ (T := "list") hl'.typeIs ?_);rw [AJ (by decide)]
 refine AA (CJ hl' (AA (wpAny_runValue ?_)));have hlt:l < s.heap.objs.size:=by obtain ⟨o,ho,_⟩:=hl;exact AK ho
 have hS:=qCd (prog:=prog) (w:=w) (h:=s.heap) (led := !byT w) rfl;have hsz:(s.heap.push { cls := .type "set",data := .set #[] 0 (SetTable.fresh 0 0 (!byT w)) }).objs.size=s.heap.objs.size + 1:=A3 ..;have hlen:items.size=kss.length:=by rw [← V.len,AW]
 refine qAm (A:=A.in1.in1) (Walks.list (A:=A.in1.in1.in1) hh (s.heap.push { cls := .type "set",data := .set #[] 0 (SetTable.fresh 0 0 (!byT w)) }).objs.size l (by rw [hsz];exact AV (BB hlt)) items) (fun i h' hst b hb ks=>by
  rw [At.mp hb];obtain ⟨o,ho,hc,_⟩:=hst.1;exact yA ho (by rw [hc];decide) ks) (by show A.units + 3 < cLine;omega) (Sa:=s.heap.objs.size) (by
  rw [hsz];intro q;rcases AD.mp q with q |q
  ·exact absurd q (by show ¬ s.heap.objs.size=s.heap.objs.size + 1;omega)
  ·have:=At.mp q;exact absurd hlt (by rw [← this];exact Ba _)) (its:=items.toList) (kss:=kss) (by rw [AW]) (by omega) (fun i v hi=>by rw [A0];exact hi) _ 0 _ #[] 0 _ [] rfl (BV _) ⟨⟨_,AT _ rfl,rfl,rfl⟩,hl'.push _⟩ (V.keep fun b o _ ho=>AC _ (AC _ ho)) (hS.same fun b o _ ho=>AC _ ho) (fun e he=>(AR he).elim) (by rw [List.take_zero];exact .refl _) fun h' tk es' ep' t' ks' hk S' hp hE' => ?_
 refine AB (AB ?_);refine AB ?_;dsimp only;rw [AJ (by decide)]
 refine AB ?_;refine h h' tk es' ep' t' ks' S' hp hE' fun b o hb' ho=>hk b o (fun q => ?_) (AC _ (AC _ ho));rw [hsz] at q;rcases AD.mp q with q |q
 ·exact absurd hb' (by rw [q];exact Ba _)
 ·have:=At.mp q;exact absurd hb' (by rw [this];exact Nat.not_lt_of_le (CG _))
theorem qBf {s:Shared} {l:Addr} {items:Array Value} {kss:List (List Int)} {Q:Value->Shared->Prop} (hh:A.handled=none) (hu:A.units + 8 < cLine) (hl:s.heap.IsTuple l items) (V:TsV prog w s.heap items.toList kss) (h3:kss.length≤299)
  (h:∀ (h':Heap) (tk:Nat) (es':Array (Int×Value)) (ep':Nat) (t':SetTable) (ks':List (List Int)),SetT prog w h' s.heap.objs.size es' ep' t' ks'->ks'.Perm (ddT kss)->(∀ e∈es'.toList,e.2∈items.toList)->(∀ b o,b < s.heap.objs.size->s.heap.get? b=some o->h'.get? b=some o)->Q (.ref s.heap.objs.size) { s with heap:=h',toks:=tk }) :
  wpAny (model prog w) A (call (.type "set") [.ref l]) Q E s:=by
 refine Bk (codeAny_of_tree (Ah (a:=Fin.again (.builtin "type.__call__" ⟨[.type "set",.ref l],[]⟩)) rfl ⟨Cg _ (by decide +kernel),?_⟩))
 refine Bd F.entry_type_call ?_;rw [Around.under_plain (weight_type_call_type _ _ _) rfl];unfold Builtin.«type.__call__»;dsimp only;rw [AJ (by rw [F.called_set.notType];decide),AJ (by rw [F.called_set.canCreate];decide)]
 refine AA (Ah (F.typeCall_set_1 _) ?_);obtain ⟨c,tl,hm⟩:=F.called_set.mro;refine AA (Ah hm ?_);rw [AJ (by simp)]
 refine AA (Ah F.called_set.made ?_);dsimp only;refine AA (AB (AA (Ae (Bk (qCb ?_)))));have hT:({ s with heap:=s.heap.push { cls := .type "set",data := .set #[] 0 (SetTable.fresh 0 0 (!byT w)) } }:Shared).TypeIs (.ref s.heap.objs.size) "set" := ⟨_,AT _ rfl,rfl⟩;refine AA (BE hT sub_set_self ?_);rw [AJ (by decide)]
 refine AA (Ae ?_);unfold callSpecial?;refine AA (Cc hT F.called_set.init.lookup ?_);dsimp only;refine Ae (AA (Ah (F.called_set.init.bind _) ?_));dsimp only;refine AA (Bk (Bc F.called_set.init.plain F.entry_set_init (check_set_init_1 hT ?_)));unfold Builtin.«set.__init__»;refine AA (Ah (a:=()) rfl ?_);show wpAny _ _ (do
  let n ← typeNameOfCut 200 (.ref s.heap.objs.size)
  checkCount n 0 1 1
  let a ← Builtin.Frozenset.addrOf (.ref s.heap.objs.size);let u ← setUsed a
  if u=true then do
   Builtin.Frozenset.clearAll a
   Builtin.Frozenset.updateFrom "set.__init__" a (.ref l)
   ret Value.none
  else do
   Builtin.Frozenset.updateFrom "set.__init__" a (.ref l)
   ret Value.none) _ _ _
 unfold typeNameOfCut shownTypeOf;refine AA (AA (AA (BZ hT ?_)));rw [AJ (by decide)]
 refine AB (Ah (a := "set") (by rfl) ?_)
 refine AA (Ah (a:=()) rfl ?_);refine AA (Ah (a:=s.heap.objs.size) rfl ?_);unfold setUsed;have hg:(s.heap.push { cls := .type "set",data := .set #[] 0 (SetTable.fresh 0 0 (!byT w)) }).get? s.heap.objs.size=some { cls := .type "set",data := .set #[] 0 (SetTable.fresh 0 0 (!byT w)) }:=AT _ rfl;refine AA (AA (A5 hg rfl rfl (AB ?_)));rw [AJ (by intro q;exact Bool.noConfusion (show false=true from q))]
 refine AA ?_;unfold Builtin.Frozenset.updateFrom Builtin.Frozenset.isAnySet;have hl':(s.heap.push { cls := .type "set",data := .set #[] 0 (SetTable.fresh 0 0 (!byT w)) }).IsTuple l items:=hl.push _;refine AA (AA (BE (T := "tuple") hl'.typeIs F.sub_tuple_set ?_));show wpAny _ _ (isInstance (.ref l) (.type "frozenset")) _ _ _;refine BE (T := "tuple") hl'.typeIs F.sub_tuple_frozenset ?_;rw [AJ (by decide)]
 refine AA (BZ (T := "tuple") hl'.typeIs ?_);rw [AJ (by decide)]
 refine AA (wpAny_pyIter_tuple hl' (AA (wpAny_runValue ?_)));have hlt:l < s.heap.objs.size:=by obtain ⟨o,ho,_⟩:=hl;exact AK ho
 have hS:=qCd (prog:=prog) (w:=w) (h:=s.heap) (led := !byT w) rfl;have hsz:(s.heap.push { cls := .type "set",data := .set #[] 0 (SetTable.fresh 0 0 (!byT w)) }).objs.size=s.heap.objs.size + 1:=A3 ..;have hlen:items.size=kss.length:=by rw [← V.len,AW]
 refine qAm (A:=A.in1.in1) (Walks.tuple (A:=A.in1.in1.in1) hh (s.heap.push { cls := .type "set",data := .set #[] 0 (SetTable.fresh 0 0 (!byT w)) }).objs.size l (by rw [hsz];exact AV (BB hlt)) items) (fun i h' hst b hb ks=>by
  rw [At.mp hb];obtain ⟨o,ho,hc,_⟩:=hst.1;exact yA ho (by rw [hc];decide) ks) (by show A.units + 3 < cLine;omega) (Sa:=s.heap.objs.size) (by
  rw [hsz];intro q;rcases AD.mp q with q |q
  ·exact absurd q (by show ¬ s.heap.objs.size=s.heap.objs.size + 1;omega)
  ·have:=At.mp q;exact absurd hlt (by rw [← this];exact Ba _)) (its:=items.toList) (kss:=kss) (by rw [AW]) (by omega) (fun i v hi=>by rw [A0];exact hi) _ 0 _ #[] 0 _ [] rfl (BV _) ⟨⟨_,AT _ rfl,rfl,rfl⟩,hl'.push _⟩ (V.keep fun b o _ ho=>AC _ (AC _ ho)) (hS.same fun b o _ ho=>AC _ ho) (fun e he=>(AR he).elim) (by rw [List.take_zero];exact .refl _) fun h' tk es' ep' t' ks' hk S' hp hE' => ?_
 refine AB (AB ?_);refine AB ?_;dsimp only;rw [AJ (by decide)]
 refine AB ?_;refine h h' tk es' ep' t' ks' S' hp hE' fun b o hb' ho=>hk b o (fun q => ?_) (AC _ (AC _ ho));rw [hsz] at q;rcases AD.mp q with q |q
 ·exact absurd hb' (by rw [q];exact Ba _)
 ·have:=At.mp q;exact absurd hb' (by rw [this];exact Nat.not_lt_of_le (CG _))
end
end ET
end
section
namespace ET
open PySem PySem.Spec PyProof.Rows L2 PySem.W
open EX
section
variable {prog:Program} {w:World} {A:Around} {E:Value->Shared->Prop} {s:Shared}
theorem TsV.pick {h:Heap} {vs:List Value} {kss:List (List Int)} (e:TsV prog w h vs kss) (hne:∀ ks∈kss,ks≠[]):∀ (l:List Nat),(∀ i∈l,i < vs.length)->TsV prog w h (l.map fun i=>vs.getD i Value.none) (l.map fun i=>kss.getD i [])
 |[],_ => .nil
 |i::l,hl=>by
  have hi:=hl i AH;obtain ⟨b,h1,h2⟩:=e.get hi;rw [An,An,h1];refine .cons h2 ?_ (e.pick hne l fun j hj=>hl j (AE _ hj));have hk:i < kss.length:=by rw [← e.len];exact hi
  refine hne _ ?_;rw [Al,AL hk];exact CB hk
theorem TsV.ne {h:Heap} {vs:List Value} {kss:List (List Int)} (e:TsV prog w h vs kss):∀ ks∈kss,ks≠[]:=by
 induction e with
 |nil=>intro ks hk;cases hk
 |cons _ ne _ ih =>
  intro ks hk;rcases AD.mp hk with q |q
  ·rw [q];exact ne
  ·exact ih ks q
theorem PB.mem {n:Nat} {p:Array Nat} (B:PB n p):∀ i∈p.toList,i < n:=fun i hi=>by
 have:=(Array.perm_iff_toList_perm.mp B.perm).mem_iff.mp hi
 simpa using this
theorem qIf {a:Addr} {vs:List Value} {kss:List (List Int)} {n:Nat} {P:PySem.Fin->Shared->Prop} (hu:A.units < cLine) (ho:s.heap.get? a=some (seqObj "list" vs.toArray n)) (V:TsV prog w s.heap vs kss) (h64:vs.length < 64)
  (h:∀ out:List Value,(∀ v∈out,v∈vs)->out.length=vs.length->TsV prog w s.heap out (srt kss)->P (.done (.ret .none)) { s with heap:=sortedHeap s.heap a vs out.toArray }) :
  wpAny (model prog w) A (Builtin.«list.sort» ⟨[.ref a],[]⟩) P E s:=by
 have hna:∀ b,(∃ ks,TK prog w s.heap ks b)->b≠a:=fun b ⟨ks,k⟩ z=>yA ho (show Value.type "list" ≠ Value.type "tuple" by decide) ks (by rw [← z];exact k)
 refine qCE (O:=lxO) (key:=fun i=>kss.getD i []) (κ:=tuples' true) ho h64 (fun h2 h6 Q k q => ?_) (fun h6 i j C k hi hj q => ?_) fun p B S => ?_
 ·exact qEH (s:={ s with heap:=h6 }) (V.keep fun b o z ho=>k b o (hna b z) ho) h2 q
 ·obtain ⟨b,e1,k1⟩:=V.get hi;obtain ⟨c,e2,k2⟩:=V.get hj;rw [e1,e2];exact qHb (s:={ s with heap:=h6 }) (k1.keep fun o=>k b o (hna b ⟨_,k1⟩)) (k2.keep fun o=>k c o (hna c ⟨_,k2⟩)) q
 ·have:=V.pick V.ne p.toList B.mem
  rw [qH0 V B S] at this;refine h _ (fun v hv => ?_) (by rw [AI,AW,B.size]) this
  obtain ⟨i,hi,rfl⟩:=Ag.mp hv;have hi:=B.mem i hi;rw [Al,AL hi];exact CB hi
theorem Jl {a:Addr} {es:Array (Int×Value)} {ep:Nat} {t:SetTable} {kss:List (List Int)} {its:List Value} {Q:Value->Shared->Prop} (hh:A.handled=none) (hu:A.units + 8 < cLine) (S:SetT prog w s.heap a es ep t kss) (hn:kss.length < 64) (hne:∀ ks∈kss,ks≠[]) (hE:∀ e∈es.toList,e.2∈its)
  (h:∀ (h':Heap) (D:Addr) (out:List Value) (e:Nat),s.heap.objs.size≤D->h'.get? D=some (seqObj "list" out.toArray e)->TsV prog w h' out (srt kss)->out.length=kss.length->(∀ v∈out,v∈its)->(∀ b o,s.heap.get? b=some o->h'.get? b=some o)->Q (.ref D) { s with heap:=h' }) :
  wpAny (model prog w) A (call (.builtin "sorted") [.ref a]) Q E s:=by
 have hsz:es.size=kss.length:=by rw [← S.el.len,AW]
 have L:SetW w s.heap a es ep t:=⟨S.ex,S.tb,by omega⟩
 refine Calls.call_function_entry kind_sorted plain_sorted entry_sorted (args_sorted1 _) ?_;unfold Builtin.sorted;refine AA (Ah (a:=()) rfl ?_);refine AA (qD7 (A:=A.in1) hh L fun h1 hk1 hs1 => ?_);have hperm:=qAl (w:=w) (a:=a) (ep:=ep) (es:=es);have hlen:((wc w a ep es).toList.map (·.2)).length=kss.length:=by rw [AI,AW,zI,hsz]
 obtain ⟨kss2,q2,E2⟩:=S.el.perm hperm.symm;have V1:TsV prog w h1 ((wc w a ep es).toList.map (·.2)) kss2:=by
  have hne2:∀ ks∈kss2,ks≠[]:=fun ks hk=>hne ks (q2.mem_iff.mpr hk)
  have:∀ {l:List (Int×Value)} {k:List (List Int)},EsT prog w s.heap l k->(∀ ks∈k,ks≠[])->TsV prog w h1 (l.map (·.2)) k:=by
   intro l k e;induction e with
   |nil=>intro _;exact .nil
   |cons a _ ih =>intro hn;exact .cons (a.keep fun o=>hk1 _ o) (hn _ AH) (ih fun ks hk=>hn ks (AE _ hk))
  exact this E2 hne2
 refine AA (Cj ?_ (Ac (Nat.le_of_eq hlen) (by rw [Bi];omega)))
 have hD:(h1.push { cls := .type "list",data := .seq ((wc w a ep es).toList.map (·.2)).toArray }).get? h1.objs.size=some (seqObj "list" ((wc w a ep es).toList.map (·.2)).toArray 0):=AT _ rfl;refine AA (Ae (A2 slot_list_sort ⟨_,hD,rfl⟩ entry_list_sort ?_ (args_list_sort _)));refine qIf (s:={ s with heap:=h1.push { cls := .type "list",data := .seq ((wc w a ep es).toList.map (·.2)).toArray } }) (by show A.units + 2 < cLine;omega) hD (V1.keep fun b o _ ho=>AC _ ho) (by omega) fun out hin hol V2=>⟨_,rfl,?_⟩
 refine AB ⟨_,rfl,?_⟩;obtain ⟨e,he⟩:=sortedHeap_at (vs:=(wc w a ep es).toList.map (·.2)) (out:=out.toArray) hD;have hkeep:∀ b o,b≠h1.objs.size->(h1.push { cls := .type "list",data := .seq ((wc w a ep es).toList.map (·.2)).toArray }).get? b=some o->b < h1.objs.size->(sortedHeap (h1.push { cls := .type "list",data := .seq ((wc w a ep es).toList.map (·.2)).toArray }) h1.objs.size ((wc w a ep es).toList.map (·.2)) out.toArray).get? b=some o:=fun b o hb ho hlt=>by
  rw [sortedHeap_old hb (by rw [A3];exact BB hlt)]
  exact ho
 have es':srt kss2=srt kss:=qCV (yF _) (yF _) (((Qu kss2).trans q2.symm).trans (Qu kss).symm);refine h _ _ out e hs1 he ?_ (by omega) (fun v hv => ?_) fun b o' hb => ?_
 ·rw [← es'];refine V2.keep fun b o ⟨ks,k⟩ ho=>hkeep b o (fun z=>yA hD (show Value.type "list" ≠ Value.type "tuple" by decide) ks (by rw [← z];exact k)) ho ?_
  have hlt:=AK ho;have hnb:b≠h1.objs.size:=fun z=>yA hD (show Value.type "list" ≠ Value.type "tuple" by decide) ks (by rw [← z];exact k)
  rw [A3] at hlt;have hlt:b < h1.objs.size + 1:=hlt;exact Nat.lt_of_le_of_ne (CK hlt) hnb
 ·obtain ⟨e',he',rfl⟩:=Ag.mp (hin v hv);exact hE e' (hperm.mem_iff.mp he')
 ·have hb1:=hk1 b o' hb;exact hkeep b o' (AV (AK hb1)) (AC _ hb1) (AK hb1)
end
inductive TsL (K:W.Frag) (H:Hp):List V->List (List Int)->Prop
 |nil:TsL K H [] []
 |cons {a:Addr} {ks:List Int} {xs:List V} {kss:List (List Int)}:SqT K H a (ks.map V.int)->ks≠[]->TsL K H xs kss->TsL K H (.ref a::xs) (ks::kss)
section
variable {X:Cx} {pins:List (Addr×Obj)} {σ:L2.St} {H:Hp} {s:Shared}
theorem Ju {prog:Program} {w:World}:∀ {ks:List Int} {its:List Value},Vals (ks.map V.int) its->ItemsAre (intKind prog w) ks its
 |[],its,h=>by
  cases its with
  |nil=>exact .nil
  |cons u us=>cases h
 |k::ks,its,h=>by
  rw [An] at h;cases h with
  |cons r t =>obtain ⟨tk,rfl⟩:=(show ∃ t,_=Value.int k t from r);exact .cons (intKind_is prog w k tk) (Ju t)
theorem qH2 (I:L2.Inv X pins σ H s) {a:Addr} {ks:List Int} (h:SqT X.K H a (ks.map V.int)):TK X.prog X.w s.heap ks a:=by obtain ⟨its,rv,⟨o,h1,h2,n,h3⟩,hz⟩:=I.tuple h;exact ⟨o,its.toArray,n,h1,h2,h3,Ju rv⟩
theorem JG (I:L2.Inv X pins σ H s) {xs:List V} {kss:List (List Int)} (h:TsL X.K H xs kss):∀ {its:List Value},Vals xs its->TsV X.prog X.w s.heap its kss:=by
 induction h with
 |nil=>intro its hv;cases hv;exact .nil
 | @cons a ks xs kss h1 ne _ ih =>
  intro its hv;cases hv with
  |cons r t =>obtain rfl:=(show _=Value.ref a from r);exact .cons (qH2 I h1) ne (ih t)
theorem TsL.mem {xs:List V} {kss:List (List Int)} (h:TsL X.K H xs kss):∀ x∈xs,∃ a ks,x = .ref a∧SqT X.K H a (ks.map V.int)∧ks≠[]:=by
 induction h with
 |nil=>intro x hx;cases hx
 |cons h1 ne _ ih =>
  intro x hx;rcases AD.mp hx with q |q
  ·exact ⟨_,_,q,h1,ne⟩
  ·exact ih x q
theorem qDX {xs:List V} {its:List Value} (h:Vals xs its):∀ b,Value.ref b∈its->(∀ x∈xs,∃ a,x=V.ref a)->V.ref b∈xs:=by
 induction h with
 |nil=>intro b hb;cases hb
 | @cons x u xs us r t ih =>
  intro b hb hx;obtain ⟨a,rfl⟩:=hx _ AH;obtain rfl:=(show u=Value.ref a from r);rcases AD.mp hb with q |q
  ·cases q;exact AH
  ·exact AE _ (ih b q fun y hy=>hx y (AE _ hy))
theorem TsL.zip {xs:List V} {kss:List (List Int)} (h:TsL X.K H xs kss):∀ a,V.ref a∈xs -> ∃ ks,(V.ref a,ks)∈xs.zip kss∧SqT X.K H a (ks.map V.int):=by
 induction h with
 |nil=>intro a hx;cases hx
 | @cons b ks xs kss h1 ne _ ih =>
  intro a hx;rw [BP];rcases AD.mp hx with q |q
  ·cases q;exact ⟨ks,AH,h1⟩
  ·obtain ⟨ks,i1,i2⟩:=ih a q;exact ⟨ks,AE _ i1,i2⟩
theorem qEQ (I:L2.Inv X pins σ H s) {xs:List V} {kss0:List (List Int)} (T:TsL X.K H xs kss0) {its:List Value} (rv:Vals xs its) {h':Heap} (hk:∀ b o,s.heap.get? b=some o->h'.get? b=some o) :
  ∀ {out:List Value} {kss:List (List Int)},TsV X.prog X.w h' out kss->(∀ v∈out,v∈its) -> ∃ L:List (V×List Int),L.map (·.2)=kss∧Vals (L.map (·.1)) out ∧ ∀ q∈L,q∈xs.zip kss0:=by
 intro out kss V;induction V with
 |nil=>intro _;exact ⟨[],rfl,.nil,fun y hy=>(AR hy).elim⟩
 | @cons ks b vs kss k ne _ ih =>
  intro hin;obtain ⟨L,h1,h2,h3⟩:=ih fun v hv=>hin v (AE _ hv);have hm:=qDX rv b (hin _ AH) fun x hx=>by obtain ⟨a,_,e,_⟩:=T.mem x hx;exact ⟨a,e⟩
  obtain ⟨ks2,hz,hs⟩:=T.zip b hm;have k2:TK X.prog X.w h' ks2 b:=(qH2 I hs).keep fun o=>hk b o
  have:=k.inj k2
  subst this;exact ⟨(.ref b,ks)::L,by rw [An,h1],.cons rfl h2,fun y hy=>(AD.mp hy).elim (fun z=>by rw [z];exact hz) (h3 y)⟩
end
section
variable {X:Cx} {e:Expr} {te:TE} {p p2 pos pos2:Pos}
theorem qCN:∀ {kss acc:List (List Int)},∀ x∈kss.foldl Zz acc,x∈acc∨x∈kss
 |[],acc,x,h => .inl h
 |k::kss,acc,x,h=>by
  rw [Cd] at h;rcases qCN x h with q |q
  ·unfold Zz at q;split at q
   ·exact .inl q
   ·rcases Ax.mp q with q |q
    ·exact .inl q
    ·exact .inr (by rw [At.mp q];exact AH)
  ·exact .inr (AE _ q)
def qIn (K:W.Frag) (te:TE):TE:=fun σ H Q=>te σ H fun x H1 => ∃ a xs kss,x = .ref a∧(SqL K H1 a xs∨SqT K H1 a xs)∧TsL K H1 xs kss∧kss.length≤299∧(ddT kss).length < 64 ∧ ∀ p (L:List (V×List Int)),H1 p=none->(∀ q∈L,q∈xs.zip kss)->L.map (·.2)=srt (ddT kss)->Q (.ref p) (upd H1 p (.lst (L.map (·.1))))
theorem qEf {A:Around} {E:Value->Shared->Prop} {pins:List (Addr×Obj)} {σ:L2.St} {H:Hp} {s:Shared} {Q:Value->Shared->Prop} {a:Addr} {xs:List V} {kss:List (List Int)} (I:L2.Inv X pins σ H s) (hh:A.handled=none) (hu:A.units + 8 < cLine) (hq:SqL X.K H a xs∨SqT X.K H a xs) (T:TsL X.K H xs kss) (h3:kss.length≤299)
  (h:∀ (its:List Value) (h':Heap) (tk:Nat) (es':Array (Int×Value)) (ep':Nat) (t':SetTable) (ks':List (List Int)),Vals xs its->SetT X.prog X.w h' s.heap.objs.size es' ep' t' ks'->ks'.Perm (ddT kss)->(∀ e∈es'.toList,e.2∈its)->(∀ b o,b < s.heap.objs.size->s.heap.get? b=some o->h'.get? b=some o)->Q (.ref s.heap.objs.size) { s with heap:=h',toks:=tk }) :
  wpAny (model X.prog X.w) A (call (.type "set") [.ref a]) Q E s:=by
 rcases hq with hq |hq
 ·obtain ⟨its,rv,ht,hz⟩:=I.list hq;exact qA7 hh hu ht.isList (by simpa using JG I T rv) h3 fun h' tk es' ep' t' ks' S hp hE hk=>h its h' tk es' ep' t' ks' rv S hp (by simpa using hE) hk
 ·obtain ⟨its,rv,ht,hz⟩:=I.tuple hq;exact qBf hh hu ht (by simpa using JG I T rv) h3 fun h' tk es' ep' t' ks' S hp hE hk=>h its h' tk es' ep' t' ks' rv S hp (by simpa using hE) hk
theorem qFS (hc:X.calm=true) (hu:X.A.units + 64 < cLine) (hg:Gl X "sorted") (hm:X.mg "sorted" = none) (hg2:Gl X "set") (hm2:X.mg "set" = none) (he:PE X e te)
  (h1:starEach [.Call (.Name "set" p2) [e] [] pos2] X.env=(false,eval (.Call (.Name "set" p2) [e] [] pos2) X.env)::starEach [] X.env:=by rfl) (h2:starEach [e] X.env=(false,eval e X.env)::starEach [] X.env:=by rfl) :
  PE X (.Call (.Name "sorted" p) [.Call (.Name "set" p2) [e] [] pos2] [] pos) (qIn X.K te):=by
 intro pins s σ H Q I h;refine BY (zX I hg hm PyProof.Rows.boot_sorted ?_ (by decide) (by decide))
 refine PyProof.Rows.callWith_builtin1 ?_ h1 rfl;rw [h1];show wpAny _ _ (spliced ((false,eval (.Call (.Name "set" p2) [e] [] pos2) X.env)::[])) _ _ s;refine Cf ?_;refine BY (zX I hg2 hm2 PyProof.Rows.Boot.«set» ?_ (by decide) (by decide))
 refine Be ?_ h2 rfl;rw [h2];show wpAny _ _ (spliced ((false,eval e X.env)::[])) _ _ s;refine Cf (thn (he pins s σ H _ I h) fun u s1 ⟨x,H1,I1,r1,q1⟩=>Calls.spliced_nil ?_);obtain ⟨a,xs,kss,rfl,hq,T,h3,h64,q⟩:=q1;cases r1;have hh:X.A.handled=none:=I.ok.hd hc;refine qEf I1 hh (by omega) hq T h3 fun its h' tk es' ep' t' ks' rv S hp hE hk=>Calls.spliced_nil ?_
 have hne:∀ ks∈ks',ks≠[]:=fun ks hks=>by
  rcases qCN ks (hp.mem_iff.mp hks) with z |z
  ·cases z
  ·exact (JG I1 T rv).ne ks z
 refine Jl (s:={ s1 with heap:=h',toks:=tk }) hh (by omega) S (by rw [hp.length_eq];exact h64) hne hE fun h3 D out e' hD hg3 V hol hin hk3 => ?_
 have es:srt ks'=srt (ddT kss):=qCV (yF _) (yF _) (((Qu ks').trans hp).trans (Qu _).symm);rw [es] at V;have hSz:s1.heap.objs.size≤h'.objs.size:=by obtain ⟨o,ho,_⟩:=S.ex;exact Ce (AK ho)
 have hDz:s1.heap.objs.size≤D:=Ac hSz hD;obtain ⟨L,lk,rv2,hin2⟩:=qEQ I1 T rv (h':=h3) (fun b ob hb=>hk3 b ob (hk b ob (AK hb) hb)) V hin;have hlen:(L.map (·.1)).length≤sizeLine:=by rw [rv2.length,hol,hp.length_eq,Bi];omega
 refine ⟨.ref D,_,I1.laid (t':=tk) (h':=h3) (o := .lst (L.map (·.1))) (fun b ob hb=>hk3 b ob (hk b ob (AK hb) hb)) hDz ⟨hlen,out,e',rv2,by simpa using hg3⟩,rfl,q _ L (I1.hok.fresh hDz) hin2 lk⟩
def qJm (K:W.Frag) (te:TE):TE:=fun σ H Q=>te σ H fun x H1 => ∃ a xs kss,x = .ref a∧SqL K H1 a xs∧TsL K H1 xs kss∧kss.length < 64 ∧ ∀ p (L:List (V×List Int)),H1 p=none->(∀ q∈L,q∈xs.zip kss)->L.map (·.2)=srt kss->Q (.ref p) (upd H1 p (.lst (L.map (·.1))))
theorem qF1 (hu:X.A.units + 64 < cLine) (hg:Gl X "sorted") (hm:X.mg "sorted" = none) (he:PE X e te) (h1:starEach [e] X.env=(false,eval e X.env)::starEach [] X.env:=by rfl) :
  PE X (.Call (.Name "sorted" p) [e] [] pos) (qJm X.K te):=by
 intro pins s σ H Q I h;refine BY (zX I hg hm PyProof.Rows.boot_sorted ?_ (by decide) (by decide))
 refine PyProof.Rows.callWith_builtin1 ?_ h1 rfl;rw [h1];show wpAny _ _ (spliced ((false,eval e X.env)::[])) _ _ s;refine Cf (thn (he pins s σ H _ I h) fun u s1 ⟨x,H1,I1,r1,q1⟩=>Calls.spliced_nil ?_);obtain ⟨a,xs,kss,rfl,hq,T,h64,q⟩:=q1;cases r1;obtain ⟨its,rv,ht,hz⟩:=I1.list hq;have V:=JG I1 T rv;have hl:=V.len;refine qDU (O:=lxO) (key:=fun i=>kss.getD i []) (κ:=tuples' true) (s:=s1) (vs:=its) ht.isList (by omega) (fun h2 A' E' h6 Q' k q'=>qEH (s:={ s1 with heap:=h6 }) (V.keep fun b o _ ho=>k b o ho) h2 q') (fun h6 i j C k hi hj q' => ?_) fun pp B S => ?_
 ·obtain ⟨b,e1,k1⟩:=V.get hi;obtain ⟨c,e2,k2⟩:=V.get hj;rw [e1,e2];exact qHb (s:={ s1 with heap:=h6 }) (k1.keep fun o=>k b o) (k2.keep fun o=>k c o) q'
 ·have V2:=V.pick V.ne pp.toList B.mem;rw [qH0 V B S] at V2;have keep:∀ b o,s1.heap.get? b=some o->(sortedAll s1.heap its (List.toArray (pp.toList.map fun i=>its.getD i Value.none))).get? b=some o:=fun b o hb=>sortedAll_old hb;obtain ⟨L,lk,rv2,hin2⟩:=qEQ I1 T rv keep (V2.keep fun b o _ ho=>keep b o ho) fun v hv=>by obtain ⟨i,hi,rfl⟩:=Ag.mp hv;have hi:=B.mem i hi;rw [Al,AL hi];exact CB hi
  obtain ⟨e',he'⟩:=sortedAll_at s1.heap its (List.toArray (pp.toList.map fun i=>its.getD i Value.none));have hlen:(L.map (·.1)).length≤sizeLine:=by rw [rv2.length,AI,AW,B.size,Bi];omega
  refine ⟨.ref (s1.heap.objs.size + 1),_,I1.laid (t':=s1.toks) (o := .lst (L.map (·.1))) keep (CG _) ⟨hlen,_,e',rv2,he'⟩,rfl,q _ L (I1.hok.fresh (CG _)) hin2 lk⟩
end
open EX
end ET
namespace EV
open PySem PySem.Spec PyProof.Rows L2 EX ET
def JI:PV->Option (List Int)
 | .tup (p::l)=>wm qDd (p::l)
 |_=>none
def yk (ks:List Int):PV := .tup (ks.map PV.int)
section
variable {K:W.Frag} {H:Hp} {b:Bz}
theorem qGC {p:PV} {v:V} {ks:List Int} (r:RV K H b p v) (h:JI p=some ks):∃ a,v = .ref a∧SqT K H a (ks.map V.int)∧ks≠[]∧RV K H b (yk ks) v:=by
 unfold JI at h;split at h
 ·rename_i p l;have r':=r;unfold RV at r;obtain ⟨a,xs,rfl,h2,h3⟩:=r;have e:=yw h3 h;subst e;refine ⟨a,rfl,h2.sq,?_,?_⟩
  ·intro z;subst z
   have:=h3.length
   simp at this
  ·unfold yk RV;exact ⟨a,ks.map V.int,rfl,h2,zq ks⟩
 ·cases h
theorem qBb:∀ {l:List PV} {xs:List V} {kss:List (List Int)},RVs K H b l xs->wm JI l=some kss->TsL K H xs kss ∧ ∀ q∈xs.zip kss,RV K H b (yk q.2) q.1
 |[],xs,kss,r,h=>by unfold RVs at r;subst r;cases h;exact ⟨.nil,fun q hq=>(AR hq).elim⟩
 |p::l,xs,kss,r,h=>by
  unfold RVs at r;obtain ⟨x,t,rfl,h2,h3⟩:=r;unfold wm at h;cases e1:JI p with
  |none=>rw [e1] at h;cases h
  |some ks =>
   rw [e1] at h;dsimp only at h;cases e2:wm JI l with
   |none=>rw [e2] at h;cases h
   |some kss' =>
    rw [e2] at h;cases h;obtain ⟨a,rfl,h4,h5,h6⟩:=qGC h2 e1;obtain ⟨i1,i2⟩:=qBb h3 e2;refine ⟨.cons h4 h5 i1,fun q hq => ?_⟩;rw [BP] at hq;rcases AD.mp hq with z |z
    ·rw [z];exact h6
    ·exact i2 q z
theorem yM {xs:List V} {kss:List (List Int)} (hr:∀ q∈xs.zip kss,RV K H b (yk q.2) q.1):∀ {L:List (V×List Int)},(∀ q∈L,q∈xs.zip kss)->RVs K H b ((L.map (·.2)).map yk) (L.map (·.1))
 |[],_=>RVs.nil
 |q::L,h=>by rw [An,An,An];exact RVs.cons (hr q (h q AH)) (yM hr fun y hy=>h y (AE _ hy))
end
section
variable {X:Cx} {E:XK} {e:Expr} {f:FE} {p p2 pos pos2:Pos}
def YQ:PV->qB->Rs PV:=fun q st=>match WG st q with
 |some l=>match wm JI l with
  |some kss=>if kss.length≤299∧(ddT kss).length < 64 then .ok (.lst ((srt (ddT kss)).map yk)) st else .no
  |none => .no
 |none => .no
def YB (f:FE):FE:=fun r st=>(f r st).bind YQ
theorem Jq (hc:X.calm=true) (hu:X.A.units + 64 < cLine) (hm:X.mg "sorted" = none) (hm2:X.mg "set" = none) (h:VE X E e f) (hg:Gl X "sorted" := by rfl) (hg2:Gl X "set" := by rfl)
  (h1:starEach [.Call (.Name "set" p2) [e] [] pos2] X.env=(false,eval (.Call (.Name "set" p2) [e] [] pos2) X.env)::starEach [] X.env:=by rfl) (h2:starEach [e] X.env=(false,eval e X.env)::starEach [] X.env:=by rfl) :
  VE X E (.Call (.Name "sorted" p) [.Call (.Name "set" p2) [e] [] pos2] [] pos) (YB f) :=
 PE.imp (qFS hc hu hg hm hg2 hm2 h h1 h2) fun s H Q ⟨b,r,st,S,R,P⟩=>⟨b,r,st,S,R,PostE.bind P fun q s1 u H1 b1 e1 S1 r1 P1=>by
  unfold YQ at P1;split at P1
  ·rename_i l el;split at P1
   ·rename_i kss ek;split at P1
    ·rename_i hn;obtain ⟨x,xs,rfl,h2,h3⟩:=Zx S1 r1 el;obtain ⟨T,hr⟩:=qBb h3 ek;exact ⟨x,xs,kss,rfl,h2,T,hn.1,hn.2,fun p L hp hin hL=>PostN.lay (PostN.of (r := .ok ((srt (ddT kss)).map yk) s1) P1) S1 (by rw [← hL];exact yM hr hin) hp⟩
    ·exact P1.elim
   ·exact P1.elim
  ·exact P1.elim⟩
def Ym:PV->qB->Rs PV:=fun q st=>match asL st q with
 |some l=>match wm JI l with
  |some kss=>if kss.length < 64 then .ok (.lst ((srt kss).map yk)) st else .no
  |none => .no
 |none => .no
def Z6 (f:FE):FE:=fun r st=>(f r st).bind Ym
theorem qAX (hu:X.A.units + 64 < cLine) (hm:X.mg "sorted" = none) (h:VE X E e f) (hg:Gl X "sorted" := by rfl) (h1:starEach [e] X.env=(false,eval e X.env)::starEach [] X.env:=by rfl) :
  VE X E (.Call (.Name "sorted" p) [e] [] pos) (Z6 f) :=
 PE.imp (qF1 hu hg hm h h1) fun s H Q ⟨b,r,st,S,R,P⟩=>⟨b,r,st,S,R,PostE.bind P fun q s1 u H1 b1 e1 S1 r1 P1=>by
  unfold Ym at P1;split at P1
  ·rename_i l el;split at P1
   ·rename_i kss ek;split at P1
    ·rename_i hn;obtain ⟨x,xs,rfl,h2,h3⟩:=wA S1 r1 el;obtain ⟨T,hr⟩:=qBb h3 ek;exact ⟨x,xs,kss,rfl,h2,T,hn,fun p L hp hin hL=>PostN.lay (PostN.of (r := .ok ((srt kss).map yk) s1) P1) S1 (by rw [← hL];exact yM hr hin) hp⟩
    ·exact P1.elim
   ·exact P1.elim
  ·exact P1.elim⟩
end
end EV
end
section
namespace EV
open PySem PySem.Spec PyProof.Rows L2 EX ET
section
variable {X:Cx} {E:XK} {e a c d o i:Expr} {es:List Expr} {f fa fb fc fo fi:FE} {fl:FL} {pos:Pos} {F G:FS}
def qLQ (st:qB) (o i:PV):Option Int:=match o,i with
 | .ref n,.int k=>match st[n]? with
  |some (.l xs)=>if 0≤k then match xs[k.toNat]? with
    |some (.int x)=>some x
    |_=>none
   else none
  |_=>none
 |_,_=>none
def YZ (fo f:FE):FE:=fun r st=>(fo r st).bind fun o s=>match o with
 | .ref n=>if lk s (.ref n)=true then (f r s).bind fun p s2=>match p,s2[n]? with
   | .int k,some (.l xs)=>if 0≤k∧k < 1048576 then match xs[k.toNat]? with
     |some y => .ok y (s2.set n (.l (xs.eraseIdx k.toNat)))
     |none => .no
    else .no
   |_,_ => .no
  else .no
 |_ => .no
theorem qDs {apos cpos:Pos} (ho:VE X E o fo) (h:VE X E e f)
  (hbase:attributeBase o "pop" X.env (eval o X.env)=eval o X.env:=by rfl)
  (hfew:((backTo cpos (starEach [e] X.env)).all (fun x => !x.1)&&(backToKw cpos (keywordEach [] X.env)).all (fun x=>x.1.isSome)&&decide ([e].length + ([]:List Keyword).length + (if ([]:List Keyword).isEmpty then 0 else 1) < 30))=true:=by rfl)
  (hline:(apos.endLine==cpos.line)=true:=by rfl) (h1:starEach [e] X.env=(false,eval e X.env)::starEach [] X.env:=by rfl) (hplain:(backTo cpos (starEach [] X.env)).any (·.1)=false:=by rfl) :
  VE X E (.Call (.Attribute o "pop" apos) [e] [] cpos) (YZ fo f) :=
 PE.imp (qFr PySem.F.plainAttrs_list PySem.F.slot_list_pop PySem.F.type_list_pop qD4 ho (zY h Z9 h1) hbase hfew hline h1 hplain) fun s H Q ⟨b,r,st,S,R,P⟩=>⟨b,r,st,S,R,PostE.bind P fun o s1 u H1 b1 e1 S1 r1 P1=>by
  cases o with
  |ref n =>
   have P1:PostE X.K E H1 b1 (if lk s1 (.ref n)=true then ((f r s1).bind fun p s2=>match p,s2[n]? with
    | .int k,some (.l xs)=>if 0≤k∧k < 1048576 then match xs[k.toNat]? with
      |some y => .ok y (s2.set n (.l (xs.eraseIdx k.toNat)))
      |none => .no
     else .no
    |_,_ => .no) else .no) Q:=P1
   by_cases hlk:lk s1 (.ref n)=true
   rotate_left
   ·rw [AJ hlk] at P1;exact P1.elim
   rw [AF hlk] at P1;have r1':=r1;unfold RV at r1;obtain ⟨x,rfl,hx⟩:=r1;refine ⟨?_,b1,r,s1,S1,R.ext e1,PostE.bind P1 fun p s2 pu H2 b2 e2 S2 r2 P2 => ?_⟩
   ·have hl:n < s1.length:=by rw [← S1.len];exact (AQ.mp hx).1
    obtain ⟨a',o',h3,h4,h5⟩:=S1.at_ n _ (AL hl);rw [hx] at h3;cases h3;cases hq:s1[n] with
    |l xs=>rw [hq] at h5;obtain ⟨vs,e,_⟩:=h5;subst e;exact .inl ⟨rfl,vs,SqL.of h4⟩
    |z xs=>unfold lk at hlk;dsimp only at hlk;rw [AL hl,hq] at hlk;cases hlk
    |d xs=>unfold lk at hlk;dsimp only at hlk;rw [AL hl,hq] at hlk;cases hlk
   ·split at P2
    ·rename_i k xs ex;split at P2
     ·rename_i h0;split at P2
      ·rename_i y ey;unfold RV at r2;subst r2;have hx2:=e2.ix hx;obtain ⟨x',o',h3,h2,vs,rfl,h4⟩:=S2.at_ n _ ex;rw [hx2] at h3;cases h3;obtain ⟨z,hz,rz⟩:=h4.get ey;have hm:x∈b2.b:=Ar hx2;have ew:Ext H2 b2 (upd H2 x (.lst (vs.eraseIdx k.toNat))) b2:=Ext.wr hm S2.zb (qHB h2);have hlt:=(AQ.mp hz).1;exact ⟨x,vs,k,k.toNat,z,rfl,rfl,h2,by omega,by omega,by rw [seqIndex_of h0.1 (by omega)],hz,P2 z _ b2 ew (S2.wr (x := .l (xs.eraseIdx k.toNat)) hx2 ⟨_,rfl,(RVs.ext ew xs h4).erase _⟩) (RV.ext ew y rz)⟩
      ·exact P2.elim
     ·exact P2.elim
    ·exact P2.elim
  |_=>exact P1.elim⟩
end
end EV
end
section
namespace EJ
open PySem PySem.Spec PyProof.Rows L2 PySem.W EX ET
end EJ
namespace EV
open PySem PySem.Spec PyProof.Rows L2 EX ET EJ
end EV
end
section
namespace EX
open PySem PySem.Spec PyProof.Rows L2 PySem.W
section
variable {X:Cx} {a b:Expr} {rest:List Expr} {ta tb:TE} {pos:Pos}
def qK6 (K:W.Frag) (ta tb:TE):TE:=fun σ H Q=>ta σ H fun x H1 => ∃ k,qE7 K x H1 k∧if k=true then Q x H1 else tb σ H1 Q
theorem qIh (ha:PE X a ta) (hb:PE X (.BoolOp .Or (b::rest) pos) tb):PE X (.BoolOp .Or (a::b::rest) pos) (qK6 X.K ta tb):=by
 intro pins s σ H Q I h;refine BoolOp_or (thn (ha pins s σ H _ I h) fun v s1 ⟨x,H1,I1,r1,q1⟩ => ?_);obtain ⟨k,ht,q1⟩:=q1;refine thn (qEF pins s1 σ H1 x v (fun k H'=>if k=true then Q x H' else tb σ H' Q) I1 r1 ⟨k,ht,q1⟩) fun k s2 ⟨H2,I2,q2⟩ => ?_;cases k with
 |false=>exact hb pins s2 σ H2 Q I2 q2
 |true=>exact ⟨x,H2,I2,r1,q2⟩
end
end EX
namespace EX
open PySem PySem.Spec PyProof.Rows L2 PySem.W
section
variable {prog:Program} {w:World} {A:Around} {E:Value->Shared->Prop} {s:Shared}
theorem Yb {it t:Addr} {items:Array Value} (hne:t≠it):∀ (n i:Nat) (s:Shared) (Q:List Value->Shared->Prop),s.heap.IsListIter it t i->s.heap.IsList t items->i + n≤items.size ->
  (∀ h':Heap,h'.IsListIter it t (i + n)->Heap.SameBut it s.heap h'->Q ((items.toList.drop i).take n) { s with heap:=h' })->wpAny (model prog w) A (draw (.ref it) n) Q E s
 |0,i,s,Q,hit,_,_,hQ=>by show wpAny _ _ (pure []) Q E s;exact AB (by simpa using hQ s.heap hit (Heap.SameBut.refl ..))
 |n + 1,i,s,Q,hit,ht,hle,hQ=>by
  have hlt:i < items.size:=by omega
  show wpAny _ _ (pyNext (.ref it) >>= _) Q E s;refine AA (wpAny_pyNext_list_item hit ht (x:=items[i]) (by simp [hlt]) fun h1 hit1 hs1 => ?_)
  refine AA (Ae (Yb hne n (i + 1) _ _ hit1 (ht.extBut hs1.extBut hne) (by omega) fun h2 hit2 hs2=>AB ?_))
  have hd:items.toList.drop i=items[i]::items.toList.drop (i + 1):=by simp [List.drop_eq_getElem_cons,hlt]
  have:=hQ h2 (by rw [show i + (n + 1)=i + 1 + n by omega];exact hit2) (hs1.trans hs2)
  rw [hd,List.take_succ_cons] at this;exact this
theorem ZV {env:Env} {elts:List Expr} {x1} {pos:Pos} {t:Addr} {items:Array Value} {Q:Unit->Shared->Prop} (hh:A.handled=none) (ht:s.heap.IsList t items)
  (hn:(assignEach elts env).length=items.size) (hstar:(assignEach elts env).findIdx? (·.1)=none)
  (h:∀ h',Heap.ExtBut s.heap.objs.size s.heap h'->wpAny (model prog w) A (assignInOrder ((assignEach elts env).map (·.2)) items.toList) Q E { s with heap:=h' }) :
  wpAny (model prog w) A (assign (.Tuple elts x1 pos) env (.ref t)) Q E s:=by
 have hlt:t≠s.heap.objs.size:=by obtain ⟨o,ho,_⟩:=ht;exact AV (AK ho)
 rw [assign_Tuple];refine AA (B6 ?_);unfold unpack;rw [hn,hstar];refine AA (Ae ?_);unfold unpackItems;refine AA ?_;unfold notIterableAtAll;refine AA (Cc ht.typeIs slot_list_iter.lookup ?_);refine AB ?_;simp only [A6,Bm];refine AA (Ae (CJ ht ?_));refine AA (Ae (Yb hlt items.size 0 _ _ ⟨_,AT _ rfl,rfl,rfl⟩ (ht.push _) (by omega) fun h1 hit1 hs1 => ?_))
 have hall:List.take items.size (List.drop 0 items.toList)=items.toList:=by rw [List.drop_zero];exact CH (by simp)
 rw [hall];rw [AJ (by simp)]
 have ht1:h1.IsList t items:=(ht.push _).extBut hs1.extBut hlt;refine AA (Ae (wpAny_pyNext_list_end hh hit1 ht1 (by simp) fun h2 he2 => ?_))
 simp only [Option.isSome_none,A6,Bm];exact AB (h h2 fun b o hb e=>he2 b o hb (hs1.extBut b o hb (AC _ e)))
end
section
variable {X:Cx} {pos:Pos}
def qKk (K:W.Frag) (n:Nat) (t:TGs):TG:=fun v σ H Q => ∃ a xs,v = .ref a∧SqL K H a xs∧xs.length=n∧t xs σ H Q
theorem qG8 {es:List Expr} {k:Nat} {t:TGs} {n:Nat} (hc:X.calm=true) (h:PGs X es t)
  (hn:(assignEach es X.env).length=n:=by rfl) (hst:(assignEach es X.env).findIdx? (·.1)=none:=by rfl):PG X (.Tuple es k pos) (qKk X.K n t):=by
 intro pins s σ H v u Q I r hw;obtain ⟨a,xs,e1,hq,hl,hw⟩:=hw;subst e1;cases r;obtain ⟨its,rv,ht,hz⟩:=I.list hq;refine ZV (I.ok.hd hc) ht.isList (by simp [hn,← hl,rv.length]) hst fun h' hx => ?_
 have I1:Inv X pins σ H { s with heap:=h' }:=I.kept (t':=s.toks) fun b o e=>hx b o (AV (AK e)) e;exact h pins _ σ H xs _ Q I1 (by simpa using rv) hw
end
theorem qIq {ns:List Int} {m:Int} {i:Nat} (hm:ns.min? = some m) (hi:i≤ns.length - 1) (h:∀ j,j≤ns.length - 1->ns.getD i 0≤ns.getD j 0):ns.getD i 0=m:=by
 have hne:ns≠[]:=by intro z;subst z;cases hm
 have hl:0 < ns.length:=List.length_pos_iff.mpr hne;obtain ⟨h1,h2⟩:=List.min?_eq_some_iff.mp hm;have hil:i < ns.length:=by omega
 have e1:ns.getD i 0=ns[i]:=by simp [Al,hil]
 have a1:m≤ns.getD i 0:=by rw [e1];exact h2 _ (CB hil)
 obtain ⟨j,hj,rfl⟩:=List.mem_iff_getElem.mp h1
 have:=h j (by omega)
 have e2:ns.getD j 0=ns[j]:=by simp [Al,hj]
 omega
section
variable {X:Cx}
theorem qC4:Wu X (.builtin "min") (fun xs H Q => ∃ (p:Addr) (ns:List Int) (m:Int),xs=[.ref p]∧SqL X.K H p (ns.map V.int)∧ns.min? = some m∧Q (.int m) H):=by
 intro pins s σ H xs us Q I r h;obtain ⟨p,ns,m,rfl,hq,hm,q⟩:=h;obtain ⟨u,rfl,rx⟩:=Zl r;cases rx;obtain ⟨its,r',pl,hz⟩:=I.list hq;have hl:=r'.length;rw [AI] at hl;have hne:ns≠[]:=by intro z;subst z;cases hm
 have hpos:0 < ns.length:=List.length_pos_iff.mpr hne;have hsz:its.toArray.size=ns.length:=by rw [AO,← hl]
 refine call_min_walk (yR I pl fun W st fp k=>⟨_,_,_,_,_,_,_,rfl,W,st,fp,by rw [hsz];exact hpos,CmpOf.ints_lt (fun i=>ns.getD i 0) fun i v hv=>Zt r' (by simpa using hv),fun v h' tk hv hk => ?_⟩)
 rw [hsz] at hv;rw [List.getElem?_toArray] at hv;obtain ⟨t,rfl⟩:=Zt r' hv;obtain ⟨g1,g2⟩:=argBest_lt (fun i=>ns.getD i 0) (ns.length - 1);rw [qIq hm g1 g2];exact ⟨.int m,H,I.kept (t':=tk) (k h' hk),⟨t,rfl⟩,q⟩
end
end EX
namespace EV
open PySem PySem.Spec PyProof.Rows L2 EX
section
variable {X:Cx} {E:XK} {a c:Expr} {rest:List Expr} {fa fb:FE} {pos:Pos}
def qDb (f g:FE):FE:=fun r st=>(f r st).bind fun p s=>match qCP s p with
 |some true => .ok p s
 |some false=>g r s
 |none => .no
theorem qIp (h:VE X E a fa) (h2:VE X E (.BoolOp .Or (c::rest) pos) fb):VE X E (.BoolOp .Or (a::c::rest) pos) (qDb fa fb):=PE.imp (qIh h h2) fun s H Q ⟨b,r,st,S,R,P⟩ =>
 ⟨b,r,st,S,R,PostE.bind P fun p s1 u H1 b1 e1 S1 r1 P1=>by
  split at P1
  ·rename_i e;exact ⟨true,YO S1 r1 e,qAj (PostE.here P1 S1 r1)⟩
  ·rename_i e;exact ⟨false,YO S1 r1 e,Jr ⟨b1,r,s1,S1,R.ext e1,P1⟩⟩
  ·exact P1.elim⟩
def qFG (n:Nat) (gs:FGs):FG:=fun p r=>match p with
 | .lst l=>if l.length=n then gs l r else none
 |_=>none
theorem qF8 {es:List Expr} {k:Nat} {n:Nat} {gs:FGs} (hc:X.calm=true) (h:VGs X es gs) (hn:(assignEach es X.env).length=n:=by rfl) (hst:(assignEach es X.env).findIdx? (·.1)=none:=by rfl):VG X (.Tuple es k pos) (qFG n gs) :=
 PG.imp (qG8 hc h hn hst) fun v s H Q ⟨b,r,p,st,S,R,rv,r',e,q⟩=>by
  unfold qFG at e;split at e
  ·rename_i l;split at e
   ·rename_i hl;obtain ⟨a,xs,rfl,h2,h3⟩:=wA S rv rfl;exact ⟨a,xs,rfl,h2,by rw [← h3.length];exact hl,b,r,l,st,S,R,h3,r',e,q⟩
   ·cases e
  ·cases e
end
section
variable {X:Cx} {E:XK} {e:Expr} {es:List Expr} {pos:Pos}
def Zj:List PV->qB->Rs PV:=fun ps st=>match ps with
 |[p]=>match asL st p with
  |some l=>match wm qDd l with
   |some ns=>match ns.min? with
    |some m => .ok (.int m) st
    |none => .no
   |none => .no
  |none => .no
 |_ => .no
theorem JN {ta:FA} {p:Pos} (ha:VA X E (e::es) ta) (hm:X.mg "min" = none) (hg:Gl X "min" := by rfl) (he:starEach (e::es) X.env=(false,eval e X.env)::starEach es X.env:=by rfl) (hpl:(backTo pos (starEach es X.env)).any (·.1)=false:=by rfl):VE X E (.Call (.Name "min" p) (e::es) [] pos) (qI Zj ta) :=
 WZ qC4 (fun H b st ps vs Q S r P=>by
  unfold Zj at P;split at P
  ·rename_i p';split at P
   ·rename_i l el;split at P
    ·rename_i ns en;split at P
     ·rename_i m em;obtain ⟨v,rfl,r1⟩:=RVs.one r;obtain ⟨x,xs,rfl,h2,h3⟩:=wA S r1 el;rw [yw h3 en] at h2;exact ⟨x,ns,m,rfl,h2,em,PostE.here P S Qx⟩
     ·exact P.elim
    ·exact P.elim
   ·exact P.elim
  ·exact P.elim) hg hm Boot.«min» ha (he:=he) (hpl:=hpl)
end
end EV
end
noncomputable section
namespace K01
open PySem PySem.Spec PyProof.Rows L2 EX EV
structure Ad where
 (Z0 Z1 Z2 Z3 Z4 Z5 Z6 Z7 Z8 Z9 Z10 Z11 TooMany_init:Addr)
 (is_whole is_whole_within is_rising need_number is_cell is_floor box_floor mirrored moved is_bar law_cell law_box law_take law_whole law_odd law_kind law_same law_cover law_put law_floor law_is_floor law_is_bar law_others law_bars law_asked law_boxed law:Addr)
def kitTab:List ((String×String)×Bool):=[(("NoneType","int"),false),(("NoneType","bool"),false),(("NoneType","tuple"),false),(("NoneType","list"),false),(("int","int"),true),(("int","bool"),false),(("int","tuple"),false),(("int","list"),false),(("bool","int"),true),(("bool","bool"),true),(("bool","tuple"),false),(("bool","list"),false),(("str","int"),false),(("str","bool"),false),(("str","tuple"),false),(("str","list"),false),(("tuple","int"),false),(("tuple","bool"),false),(("tuple","tuple"),true),(("tuple","list"),false),(("list","int"),false),(("list","bool"),false),(("list","tuple"),false),(("list","list"),true),(("dict","int"),false),(("dict","bool"),false),(("dict","tuple"),false),(("dict","list"),false)]
def qKF (s T:String):Option Bool:=kitTab.lookup (s,T)
def Ad.kinds (a:Ad):List Addr:=[a.Z1,a.Z2,a.Z3,a.Z4,a.Z5,a.Z6,a.Z7,a.Z8,a.Z9,a.Z10,a.Z11]
def Dist (a:Ad):Prop:=a.kinds.Nodup
instance (a:Ad):Decidable (Dist a):=by unfold Dist;infer_instance
theorem Dist.nd {a:Ad} (h:Dist a):a.kinds.Nodup:=h
def wg (a:Ad):List Addr:=[a.Z2,a.Z11]
def kit (a:Ad):Value->Value->Option Bool
 | .type s,.type T=>qKF s T
 | .ref x,.ref d=>if x∈wg a∧d∈a.kinds then some (x==d) else none
 | .ref x,.type T=>if x∈wg a∧T = "ValueError" then some true else none
 |_,_=>none
def ZJ (a:Ad):List Addr:=[a.Z2]
def top (i:Nat):Stmt:=PySem.Challenge.pw_barfloors_k01_floors_and_bars.main.body.getD i (.Pass ⟨0,0,0,0⟩)
abbrev WL:Stmt:=top 14
abbrev Qc:Stmt:=top 15
abbrev w6:Stmt:=top 16
abbrev wI:Stmt:=top 17
abbrev Wj:Stmt:=top 21
abbrev WJ:Stmt:=top 22
abbrev wQ:Stmt:=top 23
abbrev WM:Stmt:=top 24
abbrev ZG:Stmt:=top 25
abbrev Wm:Stmt:=top 30
abbrev WF:Stmt:=top 32
abbrev Wi:Stmt:=top 33
abbrev WT:Stmt:=top 34
abbrev ww:Stmt:=top 35
abbrev Wh:Stmt:=top 36
abbrev WQ:Stmt:=top 37
abbrev WH:Stmt:=top 38
abbrev wx:Stmt:=top 39
abbrev Wg:Stmt:=top 40
abbrev wz:Stmt:=top 41
abbrev Q0:Stmt:=top 42
abbrev wX:Stmt:=top 43
abbrev wZ:Stmt:=top 44
abbrev WO:Stmt:=top 45
abbrev wS:Stmt:=top 46
abbrev wu:Stmt:=top 47
abbrev zi:Stmt:=top 48
abbrev Q1:Stmt:=qIa (top 12)
def qBB (a:Ad):FS:=(qm (zy (qI (QN (kit a)) (qA (qD 0) (qA (vC (.ty "int")) qC))) (qIA (qI (QN (kit a)) (qA (qD 0) (qA (vC (.ty "bool")) qC))))))
def ZT (a:Ad):List PV->qB->Rs PV:=QM 1 1 (qBB a)
def W2 (a:Ad):FS:=(qm (zy (qI (ZT a) (qA (qD 0) qC)) (zQ gLe gLe (qD 1) (qD 0) (qD 2))))
def QH (a:Ad):List PV->qB->Rs PV:=QM 3 3 (W2 a)
def qAY (a:Ad):FS:=(qm (qI Ze (qA (vFz (qt [0] 1 (qAL (qA (vC (.int 1)) (qA (qI w8 (qA (qD 0) qC)) qC))) (qq 1) [] [] (qN qCn (qN gIx (qD 0) (qN zM (qD 1) (vC (.int 1)))) (qN gIx (qD 0) (qD 1))))) qC)))
def ZF (a:Ad):List PV->qB->Rs PV:=QM 1 1 (qAY a)
def ZS (a:Ad):FS:=(Q9 (wF (Qd (qI (QH a) (qA (qD 0) (qA (qD 1) (qA (qD 2) qC)))))) (j8 a.Z2 (qA (vJ [(vC (.str "a whole number from ")),(qIF (qD 1)),(vC (.str " to ")),(qIF (qD 2)),(vC (.str " is wanted"))] Str.empty) qC)) Qo)
def Qw (a:Ad):List PV->qB->Rs PV:=QM 3 3 (ZS a)
def jN (a:Ad):FS:=(qU (Q9 (zD (wF (Qd (qI (QN (kit a)) (qA (qD 0) (qA (vC (.ty "tuple")) qC))))) (vTB (qN gNe (qI w8 (qA (qD 0) qC)) (vC (.int 2))))) (qm (vC (.bl false))) Qo) (qm (qI Ze (qA (vFz (qt [] 1 (QA (qD 0)) (qq 0) [] [] (qI (QH a) (qA (qD 0) (qA (vC (.int 0)) (qA (vC (.int 7)) qC)))))) qC))))
def zL (a:Ad):List PV->qB->Rs PV:=QM 1 1 (jN a)
def YS (a:Ad):FS:=(qU (Q9 (zD (wF (Qd (qI (QN (kit a)) (qA (qD 0) (qA (vC (.ty "tuple")) qC))))) (vTB (qN gGt (qI w8 (qA (qD 0) qC)) (vC (.int 40))))) (qm (vC (.bl false))) Qo) (qm (zy (qI Ze (qA (vFz (qt [] 1 (QA (qD 0)) (qq 0) [] [] (qI (zL a) (qA (qD 0) qC)))) qC)) (qI (ZF a) (qA (qD 0) qC)))))
def Za (a:Ad):List PV->qB->Rs PV:=QM 1 1 (YS a)
def W1 (a:Ad):FS:=(qU (zC (qI (Qw a) (qA (qD 0) (qA (vC (.int 1)) (qA (qN Q3 (vC (.int 7)) (vC (.int 1))) qC))))) (qU (zC (qI (Qw a) (qA (qD 1) (qA (vC (.int 1)) (qA (qN Q3 (vC (.int 7)) (vC (.int 1))) qC))))) (qU (Q9 (vTB (qN gGt (qN Wd (qD 0) (qD 1)) (vC (.int 40)))) (Z0 a.Z11 "many" "most" (okI " are more than ") (qA (qN Wd (qD 0) (qD 1)) (qA (vC (.int 40)) qC))) Qo) (qm (qI wL (qA (vFz (qt [1] 2 (Qn (qA (qD 0) qC)) (qq 1) [] [⟨(Qn (qA (qD 0) qC)),(qq 2),[]⟩] (QT (qA (qD 1) (qA (qD 2) qC))))) qC))))))
def Qj (a:Ad):List PV->qB->Rs PV:=QM 2 2 (W1 a)
def qAz (a:Ad):FS:=(qm (qI wL (qA (Z6 (vFz (qt [] 2 (QA (qD 0)) (zE 2 (QL (qq 0) (QL (qq 1) zA))) [] [] (QT (qA (qD 1) (qA (qD 0) qC)))))) qC)))
def ZW (a:Ad):List PV->qB->Rs PV:=QM 1 1 (qAz a)
def qGt (a:Ad):FS:=(qU (Q9 (wF (Qd (qD 0))) (qm (QT qC)) Qo) (qU (QJ 1 (qI Zj (qA (vFz (qt [] 2 (QA (qD 0)) (zE 2 (QL (qq 0) (QL (qq 1) zA))) [] [] (qD 0))) qC))) (qU (QJ 2 (qI Zj (qA (vFz (qt [] 2 (QA (qD 0)) (zE 2 (QL (qq 0) (QL (qq 1) zA))) [] [] (qD 1))) qC))) (qm (qI wL (qA (vFz (qt [1,2] 2 (QA (qD 0)) (zE 2 (QL (qq 2) (QL (qq 3) zA))) [] [] (QT (qA (qN zM (qD 2) (qD 0)) (qA (qN zM (qD 3) (qD 1)) qC))))) qC))))))
def jq (a:Ad):List PV->qB->Rs PV:=QM 1 3 (qGt a)
def qAG (a:Ad):FS:=(qU (Q9 (zD (wF (Qd (qI (QN (kit a)) (qA (qD 0) (qA (vC (.ty "tuple")) qC))))) (vTB (qN gNe (qI w8 (qA (qD 0) qC)) (vC (.int 3))))) (qm (vC (.bl false))) Qo) (qU (jQ (qD 0) (zE 3 (QL (wP 1) (QL (wP 2) (QL (wP 3) zA))))) (qU (Q9 (zD (wF (Qd (qI (QH a) (qA (qD 1) (qA (yH (vC (.int 40))) (qA (vC (.int 40)) qC)))))) (wF (Qd (qI (QH a) (qA (qD 2) (qA (yH (vC (.int 40))) (qA (vC (.int 40)) qC))))))) (qm (vC (.bl false))) Qo) (qm (qI (QH a) (qA (qD 3) (qA (vC (.int 0)) (qA (vC (.int 1)) qC))))))))
def YR (a:Ad):List PV->qB->Rs PV:=QM 1 4 (qAG a)
def Zf (a:Ad):FS:=(qU (Q9 (vTB (qN gLt (qD 1) (qI w8 (qA (qD 0) qC)))) (qm (qN gIx (qD 0) (qD 1))) Qo) (qm (qN Q3 (qN Wd (vC (.int 6151)) (qD 1)) (vC (.int 29)))))
def zc (a:Ad):List PV->qB->Rs PV:=QM 2 2 (Zf a)
def yv:FS:=(qU (QJ 4 (qN ZM (qN Q3 (qN Q3 (qN Q3 (qN Wd (qD 4) (vC (.int 48271))) (qN Wd (qN Wd (vC (.int 7)) (qD 5)) (qD 5))) (qN Wd (vC (.int 11)) (qD 1))) (vC (.int 1))) (vC (.int 2147483647)))) (QJ 3 (qN Q3 (qN Wd (qD 3) (vC (.int 2147483647))) (qD 4))))
def yT (a:Ad):FS:=(qU (QJ 2 (qI (zc a) (qA (qD 0) (qA (qD 1) qC)))) (qU (Q9 (vTB (qN gEq (qN ZM (qD 2) (vC (.int 2))) (vC (.int 0)))) (Yf (Q6 (qA (qN yo (qD 2) (vC (.int 2))) qC))) Qo) (qU (QJ 3 (vC (.int 0))) (qU (QJ 4 (qN ZM (qD 2) (vC (.int 2147483647)))) (qU (z9 (Qn (qA (vC (.int 24)) qC)) (wP 5) yv) (Yf (Q6 (qA (qD 3) qC))))))))
def Z7 (a:Ad):List PV->qB->Rs PV:=QM 2 6 (yT a)
def Yj (a:Ad):FS:=(qU (QJ 2 (qN ZM (qN gIx (qD 0) (vC (.int 0))) (qD 1))) (qU (qEm (qD 0) (vC (.int 0)) (qN qCQ (qN gIx (qD 0) (vC (.int 0))) (qD 1))) (qm (qD 2))))
def qQ (a:Ad):List PV->qB->Rs PV:=QM 2 3 (Yj a)
def Jm (a:Ad):FS:=(qm (zy (qI (QN (kit a)) (qA (qD 0) (qA (vC (.ty "int")) qC))) (qIA (qI (QN (kit a)) (qA (qD 0) (qA (vC (.ty "bool")) qC))))))
def w5 (a:Ad):List PV->qB->Rs PV:=QM 1 1 (Jm a)
def qDe (a:Ad):FS:=(qU (QJ 1 (vFz (Q6 (qA (vC .non) (qA (vC (.bl true)) (qA (vC (.int 7)) (qA (vC (.str "")) (qA (vC (.str "0")) (qA (QT qC) (qA (vFz (Q6 qC)) (qA (vC .dct) (qA (QT (qA (vC (.int 1)) (qA (vC (.int 2)) qC))) (qA (QT (qA (vC (.int 0)) qC)) (qA (QT (qA (vC (.int 1)) (qA (vC (.int 0)) (qA (vC (.int 0)) qC)))) (qA (yH (vC (.int 1))) (qA (QT (qA (vC (.int 0)) (qA (vC (.int 0)) qC))) (qA (vFz (Q6 (qA (QT (qA (vC (.int 0)) (qA (vC (.int 0)) qC))) qC))) (qA (vC (.bl false)) (qA (QT (qA (QT (qA (vC (.int 0)) (qA (vC (.int 0)) qC))) (qA (QT (qA (vC (.int 0)) (qA (vC (.int 1)) qC))) qC))) qC))))))))))))))))))) (qm (qN gIx (qD 1) (qI (qQ a) (qA (qD 0) (qA (vC (.int 16)) qC))))))
def ZI (a:Ad):List PV->qB->Rs PV:=QM 1 2 (qDe a)
def ZY (a:Ad):FS:=(qU (QJ 1 (vFz (Q6 (qA (qI (QN (kit a)) (qA (qD 0) (qA (vC (.fn a.Z1)) qC))) (qA (qI (QN (kit a)) (qA (qD 0) (qA (vC (.fn a.Z2)) qC))) (qA (qI (QN (kit a)) (qA (qD 0) (qA (vC (.fn a.Z3)) qC))) (qA (qI (QN (kit a)) (qA (qD 0) (qA (vC (.fn a.Z4)) qC))) qC))))))) (qU (QJ 1 (vFz (z8 (qD 1) (vFz (Q6 (qA (qI (QN (kit a)) (qA (qD 0) (qA (vC (.fn a.Z5)) qC))) (qA (qI (QN (kit a)) (qA (qD 0) (qA (vC (.fn a.Z6)) qC))) (qA (qI (QN (kit a)) (qA (qD 0) (qA (vC (.fn a.Z7)) qC))) (qA (qI (QN (kit a)) (qA (qD 0) (qA (vC (.fn a.Z8)) qC))) qC))))))))) (qU (QJ 1 (vFz (z8 (qD 1) (vFz (Q6 (qA (qI (QN (kit a)) (qA (qD 0) (qA (vC (.fn a.Z9)) qC))) (qA (qI (QN (kit a)) (qA (qD 0) (qA (vC (.fn a.Z10)) qC))) (qA (qI (QN (kit a)) (qA (qD 0) (qA (vC (.fn a.Z11)) qC))) qC)))))))) (qU (Q9 (zD (wF (Qd (qI (QN (kit a)) (qA (qD 0) (qA (vC (.ty "ValueError")) qC))))) (vTB (qN gNe (qI qGF (qA (vFz (qt [] 1 (QA (qD 1)) (qq 0) [] [] (qI qFI (qA (qD 0) qC)))) qC)) (vC (.int 1))))) (qm (vC (.str "! none of the classes"))) Qo) (qU (QJ 2 (vFz (Q6 (qA (vC (.str "length")) (qA (vC (.str "number")) (qA (vC (.str "bars")) (qA (vC (.str "box")) (qA (vC (.str "weights")) (qA (vC (.str "sorts")) (qA (vC (.str "turn")) (qA (vC (.str "place")) (qA (vC (.str "text")) (qA (vC (.str "row")) (qA (vC (.str "many")) qC)))))))))))))) (qm (qN qIo (vC (.str "! ")) (qN gIx (qD 2) (qKN (qD 1) (vC (.bl true)))))))))))
def wq (a:Ad):List PV->qB->Rs PV:=QM 1 3 (ZY a)
def Ql (a:Ad) (rec:List PV->qB->Rs PV):FS:=(qU (Q9 (Qd (qI (QN (kit a)) (qA (qD 1) (qA (QT (qA (vC (.ty "tuple")) (qA (vC (.ty "list")) qC))) qC)))) (qU (Q9 (zD (vTB (qN gNe (qI (QN (kit a)) (qA (qD 0) (qA (vC (.ty "tuple")) qC))) (qI (QN (kit a)) (qA (qD 1) (qA (vC (.ty "tuple")) qC))))) (vTB (qN gNe (qI (QN (kit a)) (qA (qD 0) (qA (vC (.ty "list")) qC))) (qI (QN (kit a)) (qA (qD 1) (qA (vC (.ty "list")) qC)))))) (qm (vC (.bl false))) Qo) (qm (zy (qN gEq (qI w8 (qA (qD 0) qC)) (qI w8 (qA (qD 1) qC))) (qI Ze (qA (vFz (qt [] 2 (qCM (qA (qD 0) (qA (qD 1) qC))) (zE 2 (QL (qq 0) (QL (qq 1) zA))) [] [] (qI rec (qA (qD 0) (qA (qD 1) qC))))) qC))))) Qo) (qm (zy (qN gEq (qD 0) (qD 1)) (qN gEq (qI (QN (kit a)) (qA (qD 0) (qA (vC (.ty "bool")) qC))) (qI (QN (kit a)) (qA (qD 1) (qA (vC (.ty "bool")) qC)))))))
def qf:Nat->Ad->List PV->qB->Rs PV
 |0,_=>fun _ _ => .no
 |n + 1,a=>QM 2 2 (Ql a (qf n a))
def yX (a:Ad):FS:=(qU (jQ (qD 0) (zE 3 (QL (wP 2) (QL (wP 3) (QL (wP 4) zA))))) (qU (Q9 (vTB (qN gEq (qD 4) (vC (.int 0)))) (qm (vFz (qt [2,3] 1 (Qn (qA (qD 1) qC)) (qq 2) [] [] (QT (qA (qD 0) (qA (qN Q3 (qD 1) (qD 2)) qC)))))) Qo) (qm (vFz (qt [3,2] 1 (Qn (qA (qD 1) qC)) (qq 2) [] [] (QT (qA (qN Q3 (qD 1) (qD 2)) (qA (qD 0) qC))))))))
def ZD (a:Ad):List PV->qB->Rs PV:=QM 2 5 (yX a)
def Zs (a:Ad):FS:=(qU (QJ 4 (qI (qQ a) (qA (qD 0) (qA (vC (.int 2)) qC)))) (qU (jI 5 6 (qA (qI (qQ a) (qA (qD 0) (qA (qN zM (vC (.int 9)) (qN gIx (vFz (Q6 (qA (vC (.int 1)) (qA (qD 1) qC)))) (qD 4))) qC))) (qA (qI (qQ a) (qA (qD 0) (qA (qN zM (vC (.int 9)) (qN gIx (vFz (Q6 (qA (qD 1) (qA (vC (.int 1)) qC)))) (qD 4))) qC))) qC))) (qU (QJ 7 (qI (ZD a) (qA (QT (qA (qD 5) (qA (qD 6) (qA (qD 4) qC)))) (qA (qD 1) qC)))) (Q9 (Yn (vTB (qN gEq (vFz (qt [2] 1 (QA (qD 7)) (qq 1) [(vTB (qN (gIn false) (qD 1) (qD 0)))] [] (qD 1))) (vFz (Q6 qC)))) (vTB (qN gLe (qN Q3 (qI w8 (qA (qD 2) qC)) (qD 1)) (vC (.int 40))))) (W9 2 (z8 (qD 2) (qD 7))) Qo))))
def jc (a:Ad):FS:=(qU (W9 2 (Q6 qC)) (qU (z9 (Qn (qA (qN Q3 (vC (.int 1)) (qI (qQ a) (qA (qD 0) (qA (vC (.int 8)) qC)))) qC)) (wP 3) (Zs a)) (qm (qD 2))))
def yE (a:Ad):List PV->qB->Rs PV:=QM 2 8 (jc a)
def qGW (a:Ad):FT:=(zD (vTB (qN gEq (qD 1) (vC (.int 1)))) (vTB (qN gNe (qI (qQ a) (qA (qD 2) (qA (qN gIx (vFz (Q6 (qA (vC (.int 4)) (qA (vC (.int 1)) (qA (vC (.int 9)) qC))))) (qD 1)) qC))) (vC (.int 1)))))
def W5 (a:Ad):FS:=(qU (QJ 2 (qI (qQ a) (qA (qD 0) (qA (vC (.int 6)) qC)))) (qU (jI 3 4 (qA (qN Q3 (vC (.int 1)) (qI (qQ a) (qA (qD 0) (qA (vC (.int 8)) qC)))) (qA (qN Q3 (vC (.int 1)) (qI (qQ a) (qA (qD 0) (qA (vC (.int 8)) qC)))) qC))) (qU (Q9 (vTB (qN gGt (qD 2) (vC (.int 2)))) (qU (QJ 5 (qI (yE a) (qA (qD 0) (qA (qD 1) qC)))) (qU (Q9 (vTB (qN gEq (qD 2) (vC (.int 5)))) (qU (zC (YZ (qD 5) (qI (qQ a) (qA (qD 0) (qA (qI w8 (qA (qD 5) qC)) qC))))) (QJ 5 (vFz (z8 (qD 5) (vFz (qt [0] 1 (Qn (qA (qI (qQ a) (qA (qD 0) (qA (vC (.int 2)) qC))) qC)) (qq 1) [] [] (QT (qA (qI (qQ a) (qA (qD 0) (qA (vC (.int 8)) qC))) (qA (qI (qQ a) (qA (qD 0) (qA (vC (.int 8)) qC))) qC))))))))) Qo) (qm (qI wL (qA (YB (qD 5)) qC))))) Qo) (qU (QJ 5 (vFz (Q6 qC))) (qU (z9 (Qn (qA (qD 3) qC)) (wP 6) (QJ 5 (vFz (z8 (qD 5) (vFz (qt [6,2,0] 1 (Qn (qA (qD 4) qC)) (qq 3) [(qGW a)] [] (QT (qA (qD 0) (qA (qD 3) qC))))))))) (qm (qI wL (qA (vIf (vTB (qN gLt (qD 2) (vC (.int 2)))) (qBn (qD 5) Qv (Qg (vC (.int 40)))) (qBn (qD 5) Qv (Qg (qI (qQ a) (qA (qD 0) (qA (vC (.int 8)) qC)))))) qC))))))))
def W7 (a:Ad):List PV->qB->Rs PV:=QM 2 7 (W5 a)
def YY (a:Ad):FS:=(qU (Q9 (zD (wF (Qd (qI (QN (kit a)) (qA (qD 1) (qA (vC (.ty "tuple")) qC))))) (zD (vTB (qN gNe (qI w8 (qA (qD 1) qC)) (vC (.int 2)))) (wF (Qd (qI Ze (qA (vFz (qt [] 1 (QA (qD 1)) (qq 0) [] [] (qI (w5 a) (qA (qD 0) qC)))) qC)))))) (qm (vC (.bl false))) Qo) (Q9 (zD (wF (vTB (zQ gLe gLe (vC (.int 0)) (qN gIx (qD 1) (vC (.int 0))) (vC (.int 7))))) (wF (vTB (zQ gLe gLe (vC (.int 0)) (qN gIx (qD 1) (vC (.int 1))) (vC (.int 7)))))) (qm (vC (.bl false))) Qo))
def YX (a:Ad):FS:=(qU (Q9 (zD (wF (Qd (qI (QN (kit a)) (qA (qD 0) (qA (vC (.ty "tuple")) qC))))) (vTB (qN gGt (qI w8 (qA (qD 0) qC)) (vC (.int 40))))) (qm (vC (.bl false))) Qo) (qU (z9 (QA (qD 0)) (wP 1) (YY a)) (qm (qN gEq (vFz (yV (qD 0))) (YB (qD 0))))))
def Wx (a:Ad):List PV->qB->Rs PV:=QM 1 2 (YX a)
def JQ (a:Ad):FS:=(qU (Q9 (zD (wF (Qd (qI (QN (kit a)) (qA (qD 0) (qA (vC (.ty "tuple")) qC))))) (zD (vTB (qN gNe (qI w8 (qA (qD 0) qC)) (vC (.int 3)))) (wF (Qd (qI Ze (qA (vFz (qt [] 1 (QA (qD 0)) (qq 0) [] [] (qI (w5 a) (qA (qD 0) qC)))) qC)))))) (qm (vC (.bl false))) Qo) (qm (zy (qN gLe (qI qBU (qA (qN gIx (qD 0) (vC (.int 0))) qC)) (vC (.int 40))) (zy (qN gLe (qI qBU (qA (qN gIx (qD 0) (vC (.int 1))) qC)) (vC (.int 40))) (qN (gIn false) (qN gIx (qD 0) (vC (.int 2))) (QT (qA (vC (.int 0)) (qA (vC (.int 1)) qC))))))))
def zZ (a:Ad):List PV->qB->Rs PV:=QM 1 1 (JQ a)
def Zr (a:Ad):FS:=(qU (QJ 2 (qI (qQ a) (qA (qD 0) (qA (qN Q3 (qI w8 (qA (qD 1) qC)) (vC (.int 1))) qC)))) (qU (QJ 3 (qN gIx (qN Wc (qD 1) (QT (qA (QT (qA (vC (.int 0)) (qA (vC (.int 0)) qC))) qC))) (qD 2))) (qU (QJ 4 (qN gIx (vFz (Q6 (qA (vC (.int 8)) (qA (yH (vC (.int 1))) (qA (vC (.bl true)) (qA (vC .non) (qA (vC (.str "0")) (qA (QT (qA (vC (.int 0)) qC)) (qA (qN qGd (vC (.int 10)) (vC (.int 39))) (qA (vC (.int 0)) (qA (vC (.int 7)) qC))))))))))) (qI (qQ a) (qA (qD 0) (qA (vC (.int 9)) qC))))) (qU (QJ 5 (vFz (Q6 (qA (QT (qA (qD 4) (qA (qN gIx (qD 3) (vC (.int 1))) qC))) (qA (QT (qA (qN gIx (qD 3) (vC (.int 0))) (qA (qD 4) qC))) (qA (vFz (yV (qD 3))) (qA (qN Wc (qD 3) (QT (qA (vC (.int 0)) qC))) (qA (ZL (qD 3) Qv (Qg (vC (.int 1)))) (qA (qD 4) (qA (qD 3) qC)))))))))) (qU (W9 6 (qt [1,2] 1 (QA (qD 5)) (qq 2) [] [] (qN Wc (qN Wc (ZL (qD 0) Qv (Qg (qD 1))) (QT (qA (qD 2) qC))) (ZL (qD 0) (Qg (qN Q3 (qD 1) (vC (.int 1)))) Qv)))) (qU (zK (qD 6) (qN Wc (qN Wc (ZL (qD 1) Qv (Qg (qD 2))) (ZL (qD 1) (Qg (qD 2)) (Qg (qN Q3 (qD 2) (vC (.int 1)))))) (ZL (qD 1) (Qg (qD 2)) Qv))) (qU (W9 6 (z8 (qD 6) (vFz (Q6 (qA (qCi (qD 1) Qv Qv (Qg (yH (vC (.int 1))))) (qA (vFz (yV (qD 1))) (qA (qN Wc (qD 1) (QT (qA (QT (qA (vC (.int 7)) (qA (vC (.int 7)) qC))) qC))) qC))))))) (qU (zK (qD 6) (qI (ZI a) (qA (qD 0) qC))) (qU (QJ 7 (qI wL (qA (vFz (qt [] 1 (Qn (qA (vC (.int 41)) qC)) (qq 0) [] [] (QT (qA (qN yo (qD 0) (vC (.int 8))) (qA (qN ZM (qD 0) (vC (.int 8))) qC))))) qC))) (qm (vFz (z8 (vFz (qt [6,0] 1 (Qn (qA (vC (.int 4)) qC)) (qq 2) [] [] (qN gIx (qD 0) (qI (qQ a) (qA (qD 1) (qA (vC (.int 12)) qC)))))) (vFz (Q6 (qA (qD 7) (qA (ZL (qD 7) Qv (Qg (vC (.int 40)))) (qA (ZL (qD 7) (Qg (vC (.int 1))) Qv) qC)))))))))))))))))
def zS (a:Ad):List PV->qB->Rs PV:=QM 2 8 (Zr a)
def YE (a:Ad):FS:=(qU (QJ 1 (QT (qA (qN zM (qI (qQ a) (qA (qD 0) (qA (vC (.int 81)) qC))) (vC (.int 40))) (qA (qN zM (qI (qQ a) (qA (qD 0) (qA (vC (.int 81)) qC))) (vC (.int 40))) (qA (qI (qQ a) (qA (qD 0) (qA (vC (.int 2)) qC))) qC))))) (qU (QJ 2 (qI (qQ a) (qA (qD 0) (qA (vC (.int 3)) qC)))) (qU (QJ 3 (qN gIx (vFz (Q6 (qA (vC (.int 41)) (qA (yH (vC (.int 41))) (qA (vC (.int 40)) (qA (yH (vC (.int 40))) (qA (vC (.int 2)) (qA (vC (.bl true)) (qA (vC .non) (qA (vC (.str "1")) (qA (qN qGd (vC (.int 10)) (vC (.int 39))) (qA (yH (vC (.int 1))) (qA (QT (qA (vC (.int 0)) qC)) qC))))))))))))) (qI (qQ a) (qA (qD 0) (qA (vC (.int 11)) qC))))) (qm (vFz (Q6 (qA (qD 1) (qA (qN Wc (qN Wc (ZL (qD 1) Qv (Qg (qD 2))) (QT (qA (qD 3) qC))) (ZL (qD 1) (Qg (qN Q3 (qD 2) (vC (.int 1)))) Qv)) (qA (ZL (qD 1) Qv (Qg (vC (.int 2)))) (qA (qN Wc (qD 1) (QT (qA (vC (.int 0)) qC))) (qA (vFz (yV (qD 1))) (qA (qI (ZI a) (qA (qD 0) qC)) qC))))))))))))
def ZX (a:Ad):List PV->qB->Rs PV:=QM 1 4 (YE a)
def W6 (a:Ad):FS:=(YI 2 3 [a.Z11] (ZJ a) (qm (qI (Qj a) (qA (qD 0) (qA (qD 1) qC)))) (qm (vFz (Q6 (qA (qI (wq a) (qA (qD 2) qC)) (qA (yZ a.Z11 "many" (qD 2)) (qA (yZ a.Z11 "most" (qD 2)) qC)))))) (qm (qI (wq a) (qA (qD 2) qC))))
def Qs (a:Ad):List PV->qB->Rs PV:=QM 2 3 (W6 a)
def yg (a:Ad):FS:=(qU (QJ 3 (qI wL (qA (vFz (qt [2] 1 (Qn (qA (qN Wd (qD 1) (qD 2)) qC)) (qq 1) [] [] (QT (qA (qN yo (qD 1) (qD 0)) (qA (qN ZM (qD 1) (qD 0)) qC))))) qC))) (qU (Q9 (vTB (qN gGt (qN Wd (qD 1) (qD 2)) (vC (.int 40)))) (QJ 3 (vFz (Q6 (qA (vC (.str "! many")) (qA (qN Wd (qD 1) (qD 2)) (qA (vC (.int 40)) qC)))))) Qo) (qU (QJ 4 (qN gIx (vFz (Q6 (qA (vC (.int 0)) (qA (vC (.int 9)) (qA (yH (vC (.int 1))) (qA (vC (.bl true)) (qA (vC .non) (qA (vC (.str "3")) (qA (QT (qA (vC (.int 2)) qC)) (qA (qN qGd (vC (.int 10)) (vC (.int 39))) qC)))))))))) (qI (qQ a) (qA (qD 0) (qA (vC (.int 8)) qC))))) (qU (Q9 (zD (vTB (qN gNe (qI (Qs a) (qA (qD 4) (qA (qD 2) qC))) (vC (.str "! number")))) (vTB (qN gNe (qI (Qs a) (qA (qD 1) (qA (qD 4) qC))) (vC (.str "! number"))))) (qm (vC (.bl false))) Qo) (qm (qI (qf 3 a) (qA (qI (Qs a) (qA (qD 1) (qA (qD 2) qC))) (qA (qD 3) qC))))))))
def zu (a:Ad):List PV->qB->Rs PV:=QM 3 5 (yg a)
def qHh (a:Ad):FS:=(Q9 (wF (Qd (qI (qf 3 a) (qA (qI (Za a) (qA (qD 4) qC)) (qA (qI (Wx a) (qA (qD 4) qC)) qC))))) (qm (vC (.bl false))) Qo)
def qHn (a:Ad):FS:=(Q9 (wF (Qd (qI (qf 3 a) (qA (qI (YR a) (qA (qD 4) qC)) (qA (qI (zZ a) (qA (qD 4) qC)) qC))))) (qm (vC (.bl false))) Qo)
def Z3 (a:Ad):FS:=(qU (QJ 2 (qI (Z7 a) (qA (qD 0) (qA (qD 1) qC)))) (qU (QJ 3 (qI (W7 a) (qA (qD 2) (qA (qN Q3 (vC (.int 2)) (qI (qQ a) (qA (qD 2) (qA (vC (.int 4)) qC)))) qC)))) (qU (z9 (QA (vFz (z8 (vFz (Q6 (qA (qD 3) qC))) (qI (zS a) (qA (qD 2) (qA (qD 3) qC)))))) (wP 4) (qHh a)) (qU (z9 (QA (qI (ZX a) (qA (qD 2) qC))) (wP 4) (qHn a)) (qU (Q9 (wF (Qd (qI (qf 3 a) (qA (qI (ZW a) (qA (qD 3) qC)) (qA (qI wL (qA (Z6 (vFz (qt [] 2 (QA (qD 3)) (zE 2 (QL (qq 0) (QL (qq 1) zA))) [] [] (QT (qA (qD 1) (qA (qD 0) qC)))))) qC)) qC))))) (qm (vC (.bl false))) Qo) (qU (jQ (vFz (qt [3] 1 (QA (QT (qA (vC (.int 0)) (qA (vC (.int 1)) qC)))) (qq 1) [] [] (qI Zj (qA (qDb (vFz (qt [1] 1 (QA (qD 0)) (qq 1) [] [] (qN gIx (qD 1) (qD 0)))) (vFz (Q6 (qA (vC (.int 0)) qC)))) qC)))) (qFG 2 (QL (wP 5) (QL (wP 6) zA)))) (qU (Q9 (wF (Qd (qI (qf 3 a) (qA (qI (jq a) (qA (qD 3) qC)) (qA (qI wL (qA (vFz (qt [5,6] 2 (QA (qD 3)) (zE 2 (QL (qq 2) (QL (qq 3) zA))) [] [] (QT (qA (qN zM (qD 2) (qD 0)) (qA (qN zM (qD 3) (qD 1)) qC))))) qC)) qC))))) (qm (vC (.bl false))) Qo) (Q9 (wF (Qd (qI (zu a) (qA (qD 2) (qA (qN Q3 (vC (.int 1)) (qI (qQ a) (qA (qD 2) (qA (vC (.int 8)) qC)))) (qA (qN Q3 (vC (.int 1)) (qI (qQ a) (qA (qD 2) (qA (vC (.int 8)) qC)))) qC)))))) (qm (vC (.bl false))) Qo))))))))
def qH1 (a:Ad):FS:=(qU (z9 (Qn (qA (qI qDp (qA (vC (.int 1)) (qA (qI qEE (qA (qI w8 (qA (qD 0) qC)) (qA (vC (.int 5)) qC))) qC))) qC)) (wP 1) (Z3 a)) (qm (vC (.bl true))))
def qAB (a:Ad):List PV->qB->Rs PV:=QM 1 7 (qH1 a)
structure Env (K:W.Frag) (mg:Str->Option Value) (a:Ad):Prop where
 kit:KitOk K (kit a)
 n_ValueError:mg "ValueError" = none
 n_abs:mg "abs" = none
 n_all:mg "all" = none
 n_bool:mg "bool" = none
 n_int:mg "int" = none
 n_isinstance:mg "isinstance" = none
 n_len:mg "len" = none
 n_list:mg "list" = none
 n_max:mg "max" = none
 n_min:mg "min" = none
 n_range:mg "range" = none
 n_set:mg "set" = none
 n_sorted:mg "sorted" = none
 n_sum:mg "sum" = none
 n_tuple:mg "tuple" = none
 n_zip:mg "zip" = none
 c_MOST_CELLS:∃ t,mg "MOST_CELLS" = some (.int 40 t)
 c_LAST_LINE:∃ t,mg "LAST_LINE" = some (.int 7 t)
 c_FURTHEST:∃ t,mg "FURTHEST" = some (.int 40 t)
 c_ACROSS:∃ t,mg "ACROSS" = some (.int 0 t)
 c_DOWN:∃ t,mg "DOWN" = some (.int 1 t)
 k_Z0:mg "BarError" = some (.ref a.Z0)
 k_Z1:mg "NoLength" = some (.ref a.Z1)
 k_Z2:mg "NoNumber" = some (.ref a.Z2)
 k_Z3:mg "NoBars" = some (.ref a.Z3)
 k_Z4:mg "NoBox" = some (.ref a.Z4)
 k_Z5:mg "NoWeights" = some (.ref a.Z5)
 k_Z6:mg "NoSorts" = some (.ref a.Z6)
 k_Z7:mg "NoTurn" = some (.ref a.Z7)
 k_Z8:mg "NoPlace" = some (.ref a.Z8)
 k_Z9:mg "NoText" = some (.ref a.Z9)
 k_Z10:mg "NoRow" = some (.ref a.Z10)
 k_Z11:mg "TooMany" = some (.ref a.Z11)
 xf_Z11:∃ fd,Fun K "__init__" "TooMany.__init__" Q1 a.TooMany_init fd
 xm_Z11:MkX K a.Z11 a.TooMany_init
 xk_Z11:ExcK K a.Z11
 xh_Z11:W.hasDictIn K a.Z11=true
 xa_Z11_many:Zg K a.Z11 "many"
 xa_Z11_most:Zg K a.Z11 "most"
 xr_Z11:W.readsIn K a.Z0 (.type "type")=true
 xc_Z11:W.findCls K (.ref a.Z0) (.type "type") "__init__" = some (.val (.builtin "ValueError.__init__"))
 xg_Z11:W.specialIn K (.ref a.Z0) "__getattribute__" = some (some (.builtin "type.__getattribute__"))
 o_Z11:∃ dd cd sl,K.lookup a.Z11=some ⟨.type "type",dd,.cls cd,sl⟩
 b_Z11:W.mroIn K a.Z11 (.type "BaseException")=some true
 e_Z11:W.mroIn K a.Z11 (.ref a.Z0)=some true
 s_Z11:W.mroIn K a.Z11 (.ref a.Z11)=some true
 u_Z2_Z11:W.mroIn K a.Z2 (.ref a.Z11)=some false
 x_Z2:W.excIn K a.Z2 bmV "ValueError.__new__" = true
 e_Z2:W.mroIn K a.Z2 (.ref a.Z0)=some true
 o_Z0:∃ dd cd sl,K.lookup a.Z0=some ⟨.type "type",dd,.cls cd,sl⟩
 b_Z0:W.mroIn K a.Z0 (.type "BaseException")=some true
 m_is_whole:mg "is_whole" = some (.ref a.is_whole)
 f_is_whole:∃ fd,Fun K "is_whole" "is_whole" WL a.is_whole fd
 m_is_whole_within:mg "is_whole_within" = some (.ref a.is_whole_within)
 f_is_whole_within:∃ fd,Fun K "is_whole_within" "is_whole_within" Qc a.is_whole_within fd
 m_is_rising:mg "is_rising" = some (.ref a.is_rising)
 f_is_rising:∃ fd,Fun K "is_rising" "is_rising" w6 a.is_rising fd
 m_need_number:mg "need_number" = some (.ref a.need_number)
 f_need_number:∃ fd,Fun K "need_number" "need_number" wI a.need_number fd
 m_is_cell:mg "is_cell" = some (.ref a.is_cell)
 f_is_cell:∃ fd,Fun K "is_cell" "is_cell" Wj a.is_cell fd
 m_is_floor:mg "is_floor" = some (.ref a.is_floor)
 f_is_floor:∃ fd,Fun K "is_floor" "is_floor" WJ a.is_floor fd
 m_box_floor:mg "box_floor" = some (.ref a.box_floor)
 f_box_floor:∃ fd,Fun K "box_floor" "box_floor" wQ a.box_floor fd
 m_mirrored:mg "mirrored" = some (.ref a.mirrored)
 f_mirrored:∃ fd,Fun K "mirrored" "mirrored" WM a.mirrored fd
 m_moved:mg "moved" = some (.ref a.moved)
 f_moved:∃ fd,Fun K "moved" "moved" ZG a.moved fd
 m_is_bar:mg "is_bar" = some (.ref a.is_bar)
 f_is_bar:∃ fd,Fun K "is_bar" "is_bar" Wm a.is_bar fd
 m_law_cell:mg "_law_cell" = some (.ref a.law_cell)
 f_law_cell:∃ fd,Fun K "_law_cell" "_law_cell" WF a.law_cell fd
 m_law_box:mg "_law_box" = some (.ref a.law_box)
 f_law_box:∃ fd,Fun K "_law_box" "_law_box" Wi a.law_box fd
 m_law_take:mg "_law_take" = some (.ref a.law_take)
 f_law_take:∃ fd,Fun K "_law_take" "_law_take" WT a.law_take fd
 m_law_whole:mg "_law_whole" = some (.ref a.law_whole)
 f_law_whole:∃ fd,Fun K "_law_whole" "_law_whole" ww a.law_whole fd
 m_law_odd:mg "_law_odd" = some (.ref a.law_odd)
 f_law_odd:∃ fd,Fun K "_law_odd" "_law_odd" Wh a.law_odd fd
 m_law_kind:mg "_law_kind" = some (.ref a.law_kind)
 f_law_kind:∃ fd,Fun K "_law_kind" "_law_kind" WQ a.law_kind fd
 m_law_same:mg "_law_same" = some (.ref a.law_same)
 f_law_same:∃ fd,Fun K "_law_same" "_law_same" WH a.law_same fd
 m_law_cover:mg "_law_cover" = some (.ref a.law_cover)
 f_law_cover:∃ fd,Fun K "_law_cover" "_law_cover" wx a.law_cover fd
 m_law_put:mg "_law_put" = some (.ref a.law_put)
 f_law_put:∃ fd,Fun K "_law_put" "_law_put" Wg a.law_put fd
 m_law_floor:mg "_law_floor" = some (.ref a.law_floor)
 f_law_floor:∃ fd,Fun K "_law_floor" "_law_floor" wz a.law_floor fd
 m_law_is_floor:mg "_law_is_floor" = some (.ref a.law_is_floor)
 f_law_is_floor:∃ fd,Fun K "_law_is_floor" "_law_is_floor" Q0 a.law_is_floor fd
 m_law_is_bar:mg "_law_is_bar" = some (.ref a.law_is_bar)
 f_law_is_bar:∃ fd,Fun K "_law_is_bar" "_law_is_bar" wX a.law_is_bar fd
 m_law_others:mg "_law_others" = some (.ref a.law_others)
 f_law_others:∃ fd,Fun K "_law_others" "_law_others" wZ a.law_others fd
 m_law_bars:mg "_law_bars" = some (.ref a.law_bars)
 f_law_bars:∃ fd,Fun K "_law_bars" "_law_bars" WO a.law_bars fd
 m_law_asked:mg "_law_asked" = some (.ref a.law_asked)
 f_law_asked:∃ fd,Fun K "_law_asked" "_law_asked" wS a.law_asked fd
 m_law_boxed:mg "_law_boxed" = some (.ref a.law_boxed)
 f_law_boxed:∃ fd,Fun K "_law_boxed" "_law_boxed" wu a.law_boxed fd
 m_law:mg "law" = some (.ref a.law)
 f_law:∃ fd,Fun K "law" "law" zi a.law fd
theorem cxc {CX:CXT} {P:Program} {w:World} {K:W.Frag} {mg:Str->Option Value} {base:Heap} {N:List Str} {x:Str} {sc:Scope} {fa:Addr} {cdv:Value} {A:Around} {outer:List PySem.Env} {s:Shared} {H:Hp} {E:XK} (h:A.handled=none):(Qq CX P w K mg base N x sc fa cdv A outer s H E).calm=true:=by show A.handled.isNone=true;rw [h];rfl
theorem scm {N P:List Str} {sc:Scope} (h1:sc.kind = .function:=by rfl) (h2:sc.isCoroutine=false:=by rfl) (h3:sc.isGenerator=false:=by rfl) (h4:N.Nodup:=by decide +kernel) (h5:N.take P.length=P:=by rfl) (h6:∀ x∈P,sc.names.lookup x=some .local∨sc.names.lookup x=some .cell:=by decide +kernel) (h7:∀ y∈sc.names,y.2 ≠ .free:=by decide +kernel):FnScope N P sc:=⟨h1,h2,h3,h4,h5,h6,h7⟩
theorem mkB {P:Program} {w:World} {K:W.Frag} {mg:Str->Option Value} {base:Heap} {x:Str} {st:Stmt} {fa:Addr} {N ps:List Str} {k:Nat} {B:FS} (F:∃ fd,Fun K x x st fa fd) (S:FnScope N ps (qJ st)) (m:mg x=some (.ref fa)) (body:∀ (cdv:Value) (A:Around) (outer:List PySem.Env) (s:Shared) (H:Hp) (E:XK),Room k (A.deeper (envOfC x (qJ st) s.heap.objs.size fa cdv))->(0 < k->A.handled=none)->(0 < k->(Qq (CXF P w) P w K mg base N x (qJ st) fa cdv A outer s H E).calm=true)->VSs (Qq (CXF P w) P w K mg base N x (qJ st) fa cdv A outer s H E) E (qY st) B) (hb:∀ (kV doc pm:Value) (an:Option Addr) (cdv ct:Value) (us:List Value),us.length=ps.length->bindArgs (W.fnOf x x (qg st) (qY st) (qJ st) Value.none kV doc pm an cdv ct) { pos:=us }=pure (ps.zip us)):DefG P w K mg base (k + 1) x fa ps.length (QM ps.length N.length B):=by obtain ⟨fd,F⟩:=F;exact Y9 (B:=B) F S (F.binds (ps:=ps) hb) m (fun l st h=>Wf h) (fun cdv A outer s H E hr hcm=>body cdv A outer s H E hr hcm fun h=>cxc (hcm h)) (fun l s0 hl hn=>WD hl)
theorem Yy {P:Program} {w:World} {K:W.Frag} {mg:Str->Option Value} {base:Heap} {x:Str} {st:Stmt} {fa:Addr} {N ps:List Str} {k:Nat} {B:FS} (F:∃ fd,Fun K x x st fa fd) (S:FnScope N ps (qJ st)) (m:mg x=some (.ref fa)) (body:∀ (cdv:Value) (A:Around) (outer:List PySem.Env) (s:Shared) (H:Hp) (E:XK),Room k (A.deeper (envOfC x (qJ st) s.heap.objs.size fa cdv))->(0 < k->A.handled=none)->(0 < k->(Qq (CXF P w) P w K mg base N x (qJ st) fa cdv A outer s H E).calm=true)->VSs (Qq (CXF P w) P w K mg base N x (qJ st) fa cdv A outer s H E) E (qY st) B) (hl:ps.length=1:=by rfl) (hb:∀ (kV doc pm:Value) (an:Option Addr) (cdv ct u0:Value),bindArgs (W.fnOf x x (qg st) (qY st) (qJ st) Value.none kV doc pm an cdv ct) { pos:=[u0] }=pure (ps.zip [u0]):=by intros;rfl):DefG P w K mg base (k + 1) x fa ps.length (QM ps.length N.length B) :=
 mkB F S m body fun kV doc pm an cdv ct us hu=>match us,hu.trans hl with |[u0],_=>hb kV doc pm an cdv ct u0
theorem qAP {P:Program} {w:World} {K:W.Frag} {mg:Str->Option Value} {base:Heap} {x:Str} {st:Stmt} {fa:Addr} {N ps:List Str} {k:Nat} {B:FS} (F:∃ fd,Fun K x x st fa fd) (S:FnScope N ps (qJ st)) (m:mg x=some (.ref fa)) (body:∀ (cdv:Value) (A:Around) (outer:List PySem.Env) (s:Shared) (H:Hp) (E:XK),Room k (A.deeper (envOfC x (qJ st) s.heap.objs.size fa cdv))->(0 < k->A.handled=none)->(0 < k->(Qq (CXF P w) P w K mg base N x (qJ st) fa cdv A outer s H E).calm=true)->VSs (Qq (CXF P w) P w K mg base N x (qJ st) fa cdv A outer s H E) E (qY st) B) (hl:ps.length=2:=by rfl) (hb:∀ (kV doc pm:Value) (an:Option Addr) (cdv ct u0 u1:Value),bindArgs (W.fnOf x x (qg st) (qY st) (qJ st) Value.none kV doc pm an cdv ct) { pos:=[u0,u1] }=pure (ps.zip [u0,u1]):=by intros;rfl):DefG P w K mg base (k + 1) x fa ps.length (QM ps.length N.length B) :=
 mkB F S m body fun kV doc pm an cdv ct us hu=>match us,hu.trans hl with |[u0,u1],_=>hb kV doc pm an cdv ct u0 u1
theorem qI3 {P:Program} {w:World} {K:W.Frag} {mg:Str->Option Value} {base:Heap} {x:Str} {st:Stmt} {fa:Addr} {N ps:List Str} {k:Nat} {B:FS} (F:∃ fd,Fun K x x st fa fd) (S:FnScope N ps (qJ st)) (m:mg x=some (.ref fa)) (body:∀ (cdv:Value) (A:Around) (outer:List PySem.Env) (s:Shared) (H:Hp) (E:XK),Room k (A.deeper (envOfC x (qJ st) s.heap.objs.size fa cdv))->(0 < k->A.handled=none)->(0 < k->(Qq (CXF P w) P w K mg base N x (qJ st) fa cdv A outer s H E).calm=true)->VSs (Qq (CXF P w) P w K mg base N x (qJ st) fa cdv A outer s H E) E (qY st) B) (hl:ps.length=3:=by rfl) (hb:∀ (kV doc pm:Value) (an:Option Addr) (cdv ct u0 u1 u2:Value),bindArgs (W.fnOf x x (qg st) (qY st) (qJ st) Value.none kV doc pm an cdv ct) { pos:=[u0,u1,u2] }=pure (ps.zip [u0,u1,u2]):=by intros;rfl):DefG P w K mg base (k + 1) x fa ps.length (QM ps.length N.length B) :=
 mkB F S m body fun kV doc pm an cdv ct us hu=>match us,hu.trans hl with |[u0,u1,u2],_=>hb kV doc pm an cdv ct u0 u1 u2
section
variable {P:Program} {w:World} {K:W.Frag} {mg:Str->Option Value} {base:Heap} {a:Ad}
theorem yn:FnScope ["self","many","most"] ["self","many","most"] (qJ Q1):=scm
theorem qDk (V:Env K mg a):∃ fd,FnOk P w K mg base (CXF P w) 1 a.TooMany_init fd ["self","many","most"] (spI a.Z11 "many" "most" (okI " are more than "))∧L2.Binds K fd ["self","many","most"] []:=by
 obtain ⟨fd,F⟩:=V.xf_Z11;refine ⟨fd,qEa F yn (by decide) fun cdv A outer s H E => ?_,F.binds (ps:=["self","many","most"]) fun _ _ _ _ _ _ us hl=>match us,hl with |[_,_,_],_=>rfl⟩
 exact YH (jy (qEB rfl V.k_Z0 V.xr_Z11 V.xc_Z11 V.xg_Z11 V.xm_Z11 (zY (zr (i:=0) rfl (.inl rfl)) (zY (qCL (yp (qBQ (zr (i:=1) rfl (.inl rfl))) (yp qFL (yp (qBQ (zr (i:=2) rfl (.inl rfl))) qDx)))) Z9))))
  (YH (qBw (zr (i:=0) rfl (.inl rfl)) (zr (i:=1) rfl (.inl rfl)) V.xm_Z11.x V.xa_Z11_many rfl) (qCF (qBw (zr (i:=0) rfl (.inl rfl)) (zr (i:=2) rfl (.inl rfl)) V.xm_Z11.x V.xa_Z11_most rfl)))
theorem Jf:FnScope ["thing"] ["thing"] (qJ WL):=scm
theorem qBC (V:Env K mg a):DefG P w K mg base 2 "is_whole" a.is_whole 1 (ZT a):=by refine Yy V.f_is_whole Jf V.m_is_whole fun cdv A outer s H E hr hcm hcc => ?_;have hu:=hr.units;exact (qR (qe (zt (QP V.kit V.n_isinstance (@qO _ _ _ _ _ _ _ (qH 0) (@qO _ _ _ _ _ _ _ (WC rfl V.n_int Boot.«int») qF))) (ZE (qFu (QP V.kit V.n_isinstance (@qO _ _ _ _ _ _ _ (qH 0) (@qO _ _ _ _ _ _ _ (WC rfl V.n_bool Boot.«bool») qF))))))))
theorem Zb:FnScope ["thing","least","most"] ["thing","least","most"] (qJ Qc):=scm
theorem Qt (V:Env K mg a):DefG P w K mg base 3 "is_whole_within" a.is_whole_within 3 (QH a):=by refine qI3 V.f_is_whole_within Zb V.m_is_whole_within fun cdv A outer s H E hr hcm hcc => ?_;have hu:=hr.units;exact (qR (qe (zt (qP ((qBC V).call (hr.mono (by omega)) qX) (@qO _ _ _ _ _ _ _ (qH 0) qF)) (ZE (qEe yb yb yi yi (qH 1) (qH 0) (qH 2))))))
theorem JE:FnScope ["things"] ["things"] (qJ w6):=scm
theorem qAT (V:Env K mg a):DefG P w K mg base 2 "is_rising" a.is_rising 1 (ZF a):=by refine Yy V.f_is_rising JE V.m_is_rising fun cdv A outer s H E hr hcm hcc => ?_;have hu:=hr.units;exact (qR (qe (yP (@Zv _ _ _ _ _ _ _ _ _ (ql (QK (capN:=(["things"])) (locN:=(["at"])) (caps:=([0])) (by exact Qe rfl (by decide +kernel) rfl rfl ⟨⟨rfl,rfl⟩,trivial⟩) (qDZ rfl V.n_range (@qc _ _ _ _ _ _ _ _ qG (@wE _ _ _ _ _ _ _ _ _ (wO (@qO _ _ _ _ _ _ _ (qH 0) qF) V.n_len) qF))) (fun s' H' fp pn=>⟨(qIU hu (wT (qH 0) (zW (qH 1) qG)) (wT (qH 0) (qH 1))),⟨(QC 1 (show (["things","at"]:List Str).Nodup by decide +kernel)),(qW 1),TsOk.nil,rfl⟩,GsOk.nil⟩))) qF) V.n_all)))
theorem Yk:FnScope ["thing","least","most"] ["thing","least","most"] (qJ wI):=scm
theorem ZO (V:Env K mg a):DefG P w K mg base 4 "need_number" a.need_number 3 (Qw a):=by
 refine qI3 V.f_need_number Yk V.m_need_number fun cdv A outer s H E hr hcm hcc => ?_;have hu:=hr.units;have hc:=hcc (by omega)
 exact (qR (Q5 (Q2 (Q8 (qP ((Qt V).call (hr.mono (by omega)) qX) (@qO _ _ _ _ _ _ _ (qH 0) (@qO _ _ _ _ _ _ _ (qH 1) (@qO _ _ _ _ _ _ _ (qH 2) qF)))))) (qR (qFE qJr hc rfl V.k_Z2 V.x_Z2 (@qLD _ _ _ _ _ _ _ (qHU (Zp Qh (Zp (qFR (qH 1)) (Zp Qh (Zp (qFR (qH 2)) (Zp Qh qJk)))))) qF))) q9))
theorem qA3:FnScope ["thing"] ["thing"] (qJ Wj):=scm
theorem qCl (V:Env K mg a):DefG P w K mg base 4 "is_cell" a.is_cell 1 (zL a):=by obtain ⟨fd,F⟩:=V.f_is_cell;obtain ⟨_,c_LAST_LINE⟩:=V.c_LAST_LINE;refine Y9 (B:=jN a) F qA3 (F.binds (ps:=["thing"]) fun _ _ _ _ _ _ us hl=>match us,hl with |[_],_=>rfl) V.m_is_cell (fun l st h=>Wf h) (fun cdv A outer s H E hr hcm => ?_) (fun l s0 hl hn=>WD hl);have hu:=hr.units;exact (qM (Q5 (Z8 (W4 (Q2 (Q8 (QP V.kit V.n_isinstance (@qO _ _ _ _ _ _ _ (qH 0) (@qO _ _ _ _ _ _ _ (WC rfl V.n_tuple Boot.«tuple») qF))))) (Wb (Qf (zF hu) ZN (wO (@qO _ _ _ _ _ _ _ (qH 0) qF) V.n_len) qG)))) (qR (qe wb)) q9) (qR (qe (yP (@Zv _ _ _ _ _ _ _ _ _ (ql (QK (capN:=([])) (locN:=(["number"])) (caps:=([])) (by exact Qe rfl (by decide +kernel) rfl rfl trivial) (wK (qH 0)) (fun s' H' fp pn=>⟨(qP ((Qt V).call (hr.mono (by omega)) (qo _)) (@qO _ _ _ _ _ _ _ (qH 0) (@qc _ _ _ _ _ _ _ _ qG (@qO _ _ _ _ _ _ _ (wo rfl c_LAST_LINE) qF)))),⟨(QC 0 (show (["number"]:List Str).Nodup by decide +kernel)),(qW 0),TsOk.nil,rfl⟩,GsOk.nil⟩))) qF) V.n_all))))
theorem qAe:FnScope ["thing"] ["thing"] (qJ WJ):=scm
theorem qAu (V:Env K mg a):DefG P w K mg base 5 "is_floor" a.is_floor 1 (Za a):=by obtain ⟨fd,F⟩:=V.f_is_floor;obtain ⟨_,c_MOST_CELLS⟩:=V.c_MOST_CELLS;refine Y9 (B:=YS a) F qAe (F.binds (ps:=["thing"]) fun _ _ _ _ _ _ us hl=>match us,hl with |[_],_=>rfl) V.m_is_floor (fun l st h=>Wf h) (fun cdv A outer s H E hr hcm => ?_) (fun l s0 hl hn=>WD hl);have hu:=hr.units;exact (qM (Q5 (Z8 (W4 (Q2 (Q8 (QP V.kit V.n_isinstance (@qO _ _ _ _ _ _ _ (qH 0) (@qO _ _ _ _ _ _ _ (WC rfl V.n_tuple Boot.«tuple») qF))))) (Wb (Qf qAh qAf (wO (@qO _ _ _ _ _ _ _ (qH 0) qF) V.n_len) (wo rfl c_MOST_CELLS))))) (qR (qe wb)) q9) (qR (qe (zt (yP (@Zv _ _ _ _ _ _ _ _ _ (ql (QK (capN:=([])) (locN:=(["cell"])) (caps:=([])) (by exact Qe rfl (by decide +kernel) rfl rfl trivial) (wK (qH 0)) (fun s' H' fp pn=>⟨(qP ((qCl V).call (hr.mono (by omega)) (qo _)) (@qO _ _ _ _ _ _ _ (qH 0) qF)),⟨(QC 0 (show (["cell"]:List Str).Nodup by decide +kernel)),(qW 0),TsOk.nil,rfl⟩,GsOk.nil⟩))) qF) V.n_all) (ZE (qP ((qAT V).call (hr.mono (by omega)) qX) (@qO _ _ _ _ _ _ _ (qH 0) qF)))))))
theorem JO:FnScope ["high","wide"] ["high","wide"] (qJ wQ):=scm
theorem qAK (V:Env K mg a):DefG P w K mg base 5 "box_floor" a.box_floor 2 (Qj a):=by
 obtain ⟨fd,F⟩:=V.f_box_floor;obtain ⟨_,c_MOST_CELLS⟩:=V.c_MOST_CELLS;obtain ⟨_,c_LAST_LINE⟩:=V.c_LAST_LINE;obtain ⟨_,I_Z11_f,I_Z11_b⟩:=qDk (P:=P) (w:=w) (base:=base) V;refine Y9 (B:=W1 a) F JO (F.binds (ps:=["high","wide"]) fun _ _ _ _ _ _ us hl=>match us,hl with |[_,_],_=>rfl) V.m_box_floor (fun l st h=>Wf h) (fun cdv A outer s H E hr hcm => ?_) (fun l s0 hl hn=>WD hl);have hu:=hr.units;have hc:(Qq (CXF P w) P w K mg base ["high","wide"] "box_floor" (qJ wQ) a.box_floor cdv A outer s H E).calm=true:=by show A.handled.isNone=true;rw [hcm (by omega)];rfl
 exact (qM (JD (qP ((ZO V).call (hr.mono (by omega)) qX) (@qO _ _ _ _ _ _ _ (qH 0) (@qc _ _ _ _ _ _ _ _ qG (@wY _ _ _ _ _ _ _ _ _ (Qb (wo rfl c_LAST_LINE) qG) qF))))) (qM (JD (qP ((ZO V).call (hr.mono (by omega)) qX) (@qO _ _ _ _ _ _ _ (qH 1) (@qc _ _ _ _ _ _ _ _ qG (@wY _ _ _ _ _ _ _ _ _ (Qb (wo rfl c_LAST_LINE) qG) qF))))) (qM (Q5 (Qf qAh qAf (Wv (qH 0) (qH 1)) (wo rfl c_MOST_CELLS)) (qR (qC0 qIP hc rfl V.k_Z11 V.xm_Z11 I_Z11_f (hr.mono (by omega)) I_Z11_b (@wY _ _ _ _ _ _ _ _ _ (Wv (qH 0) (qH 1)) (@qO _ _ _ _ _ _ _ (wo rfl c_MOST_CELLS) qF)))) q9) (qR (qe (wW (@Zv _ _ _ _ _ _ _ _ _ (ql (QK (capN:=(["wide"])) (locN:=(["row","column"])) (caps:=([1])) (by exact Qe rfl (by decide +kernel) rfl rfl ⟨⟨rfl,rfl⟩,trivial⟩) (Qk rfl V.n_range (@qO _ _ _ _ _ _ _ (qH 0) qF)) (fun s' H' fp pn=>⟨(qr (@qO _ _ _ _ _ _ _ (qH 1) (@qO _ _ _ _ _ _ _ (qH 2) qF))),⟨(QC 1 (show (["wide","row","column"]:List Str).Nodup by decide +kernel)),(qW 1),TsOk.nil,rfl⟩,(GsOk.cons ⟨⟨(QC 2 (show (["wide","row","column"]:List Str).Nodup by decide +kernel)),(qW 2),TsOk.nil,rfl⟩,(Qk rfl V.n_range (@qO _ _ _ _ _ _ _ (qH 0) qF)),by intro _;rfl⟩ GsOk.nil)⟩))) qF) V.n_tuple))))))
theorem qAQ:FnScope ["floor"] ["floor"] (qJ WM):=scm
theorem qA4 (V:Env K mg a):DefG P w K mg base 2 "mirrored" a.mirrored 1 (ZW a):=by
 refine Yy V.f_mirrored qAQ V.m_mirrored fun cdv A outer s H E hr hcm hcc => ?_;have hu:=hr.units;have hc:=hcc (by omega)
 exact (qR (qe (wW (@wE _ _ _ _ _ _ _ _ _ (qAX hu V.n_sorted (ql (QK (capN:=([])) (locN:=(["row","column"])) (caps:=([])) (by exact Qe rfl (by decide +kernel) rfl rfl trivial) (wK (qH 0)) (fun s' H' fp pn=>⟨(qr (@qO _ _ _ _ _ _ _ (qH 1) (@qO _ _ _ _ _ _ _ (qH 0) qF))),⟨(zd hc (QB (QC 0 (show (["row","column"]:List Str).Nodup by decide +kernel)) (QB (QC 1 (show (["row","column"]:List Str).Nodup by decide +kernel)) WW))),(WP (QQ (qW 0) (QQ (qW 1) WS))),TsOk.nil,rfl⟩,GsOk.nil⟩)))) qF) V.n_tuple)))
theorem sc_moved:FnScope ["floor","upper","left"] ["floor"] (qJ ZG):=scm
theorem qGn (V:Env K mg a):DefG P w K mg base 2 "moved" a.moved 1 (jq a):=by
 refine Yy V.f_moved sc_moved V.m_moved fun cdv A outer s H E hr hcm hcc => ?_;have hu:=hr.units;have hc:=hcc (by omega)
 exact (qM (Q5 (Q2 (Q8 (qH 0))) (qR (qe (qr qF))) q9) (qM (QD 1 sc_moved.nd (JN (@Zv _ _ _ _ _ _ _ _ _ (ql (QK (capN:=([])) (locN:=(["row","column"])) (caps:=([])) (by exact Qe rfl (by decide +kernel) rfl rfl trivial) (wK (qH 0)) (fun s' H' fp pn=>⟨(qH 0),⟨(zd hc (QB (QC 0 (show (["row","column"]:List Str).Nodup by decide +kernel)) (QB (QC 1 (show (["row","column"]:List Str).Nodup by decide +kernel)) WW))),(WP (QQ (qW 0) (QQ (qW 1) WS))),TsOk.nil,rfl⟩,GsOk.nil⟩))) qF) V.n_min)) (qM (QD 2 sc_moved.nd (JN (@Zv _ _ _ _ _ _ _ _ _ (ql (QK (capN:=([])) (locN:=(["row","column"])) (caps:=([])) (by exact Qe rfl (by decide +kernel) rfl rfl trivial) (wK (qH 0)) (fun s' H' fp pn=>⟨(qH 1),⟨(zd hc (QB (QC 0 (show (["row","column"]:List Str).Nodup by decide +kernel)) (QB (QC 1 (show (["row","column"]:List Str).Nodup by decide +kernel)) WW))),(WP (QQ (qW 0) (QQ (qW 1) WS))),TsOk.nil,rfl⟩,GsOk.nil⟩))) qF) V.n_min)) (qR (qe (wW (@Zv _ _ _ _ _ _ _ _ _ (ql (QK (capN:=(["upper","left"])) (locN:=(["row","column"])) (caps:=([1,2])) (by exact Qe rfl (by decide +kernel) rfl rfl ⟨⟨rfl,rfl⟩,⟨⟨rfl,rfl⟩,trivial⟩⟩) (wK (qH 0)) (fun s' H' fp pn=>⟨(qr (@wY _ _ _ _ _ _ _ _ _ (zW (qH 2) (qH 0)) (@wY _ _ _ _ _ _ _ _ _ (zW (qH 3) (qH 1)) qF))),⟨(zd hc (QB (QC 2 (show (["upper","left","row","column"]:List Str).Nodup by decide +kernel)) (QB (QC 3 (show (["upper","left","row","column"]:List Str).Nodup by decide +kernel)) WW))),(WP (QQ (qW 2) (QQ (qW 3) WS))),TsOk.nil,rfl⟩,GsOk.nil⟩))) qF) V.n_tuple))))))
theorem sc_is_bar:FnScope ["thing","row","column","way"] ["thing"] (qJ Wm):=scm
theorem qE6 (V:Env K mg a):DefG P w K mg base 4 "is_bar" a.is_bar 1 (YR a):=by
 obtain ⟨fd,F⟩:=V.f_is_bar;obtain ⟨_,c_FURTHEST⟩:=V.c_FURTHEST;obtain ⟨_,c_ACROSS⟩:=V.c_ACROSS;obtain ⟨_,c_DOWN⟩:=V.c_DOWN;refine Y9 (B:=qAG a) F sc_is_bar (F.binds (ps:=["thing"]) fun _ _ _ _ _ _ us hl=>match us,hl with |[_],_=>rfl) V.m_is_bar (fun l st h=>Wf h) (fun cdv A outer s H E hr hcm => ?_) (fun l s0 hl hn=>WD hl);have hu:=hr.units;have hc:(Qq (CXF P w) P w K mg base ["thing","row","column","way"] "is_bar" (qJ Wm) a.is_bar cdv A outer s H E).calm=true:=by show A.handled.isNone=true;rw [hcm (by omega)];rfl
 exact (qM (Q5 (Z8 (W4 (Q2 (Q8 (QP V.kit V.n_isinstance (@qO _ _ _ _ _ _ _ (qH 0) (@qO _ _ _ _ _ _ _ (WC rfl V.n_tuple Boot.«tuple») qF))))) (Wb (Qf (zF hu) ZN (wO (@qO _ _ _ _ _ _ _ (qH 0) qF) V.n_len) qG)))) (qR (qe wb)) q9) (qM (qBj (qH 0) (zd hc (QB (Qz 1 sc_is_bar.nd) (QB (Qz 2 sc_is_bar.nd) (QB (Qz 3 sc_is_bar.nd) WW))))) (qM (Q5 (Z8 (W4 (Q2 (Q8 (qP ((Qt V).call (hr.mono (by omega)) qX) (@qO _ _ _ _ _ _ _ (qH 1) (@qAR _ _ _ _ _ _ _ _ (zU (wo rfl c_FURTHEST)) (@qO _ _ _ _ _ _ _ (wo rfl c_FURTHEST) qF)))))) (Wb (Q2 (Q8 (qP ((Qt V).call (hr.mono (by omega)) qX) (@qO _ _ _ _ _ _ _ (qH 2) (@qAR _ _ _ _ _ _ _ _ (zU (wo rfl c_FURTHEST)) (@qO _ _ _ _ _ _ _ (wo rfl c_FURTHEST) qF))))))))) (qR (qe wb)) q9) (qR (qe (qP ((Qt V).call (hr.mono (by omega)) qX) (@qO _ _ _ _ _ _ _ (qH 3) (@qO _ _ _ _ _ _ _ (wo rfl c_ACROSS) (@qO _ _ _ _ _ _ _ (wo rfl c_DOWN) qF)))))))))
theorem Jg:FnScope ["_law_script","_law_k"] ["_law_script","_law_k"] (qJ WF):=scm
theorem qBm (V:Env K mg a):DefG P w K mg base 2 "_law_cell" a.law_cell 2 (zc a):=by refine qAP V.f_law_cell Jg V.m_law_cell fun cdv A outer s H E hr hcm hcc => ?_;have hu:=hr.units;exact (qM (Q5 (Qf qHs qHz (qH 1) (wO (@qO _ _ _ _ _ _ _ (qH 0) qF) V.n_len)) (qR (qe (wT (qH 0) (qH 1)))) q9) (qR (qe (Qb (Wv qG (qH 1)) qG))))
theorem sc_law_box:FnScope ["_law_script","_law_k","_law_cell_here","_law_number","_law_mixed","_law_j"] ["_law_script","_law_k"] (qJ Wi):=scm
theorem qC7 (V:Env K mg a):DefG P w K mg base 3 "_law_box" a.law_box 2 (Z7 a):=by refine qAP V.f_law_box sc_law_box V.m_law_box fun cdv A outer s H E hr hcm hcc => ?_;have hu:=hr.units;exact (qM (QD 2 sc_law_box.nd (qP ((qBm V).call (hr.mono (by omega)) qX) (@qO _ _ _ _ _ _ _ (qH 0) (@qO _ _ _ _ _ _ _ (qH 1) qF)))) (qM (Q5 (Qf (yU hu) jC (yL (qH 2) qG) qG) (qR (qCU (QX (@wY _ _ _ _ _ _ _ _ _ (qBe (qH 2) qG) qF)))) q9) (qM (QD 3 sc_law_box.nd qG) (qM (QD 4 sc_law_box.nd (yL (qH 2) qG)) (qM (Zh (Qk rfl V.n_range (@qc _ _ _ _ _ _ _ _ qG qF)) (Qz 5 sc_law_box.nd) (qM (QD 4 sc_law_box.nd (yL (Qb (Qb (Qb (Wv (qH 4) qG) (Wv (Wv qG (qH 5)) (qH 5))) (Wv qG (qH 1))) qG) qG)) (qR (QD 3 sc_law_box.nd (Qb (Wv (qH 3) qG) (qH 4)))))) (qR (qCU (QX (@qO _ _ _ _ _ _ _ (qH 3) qF)))))))))
theorem sc_law_take:FnScope ["_law_box_here","_law_many","_law_digit"] ["_law_box_here","_law_many"] (qJ WT):=scm
theorem qZ (V:Env K mg a):DefG P w K mg base 2 "_law_take" a.law_take 2 (qQ a):=by refine qAP V.f_law_take sc_law_take V.m_law_take fun cdv A outer s H E hr hcm hcc => ?_;have hu:=hr.units;exact (qM (QD 2 sc_law_take.nd (yL (wT (qH 0) qG) (qH 1))) (qM (qH9 (qH 0) qG (qGU (wT (qH 0) qG) (qH 1))) (qR (qe (qH 2)))))
theorem JB:FnScope ["_law_thing"] ["_law_thing"] (qJ ww):=scm
theorem yd (V:Env K mg a):DefG P w K mg base 2 "_law_whole" a.law_whole 1 (w5 a):=by refine Yy V.f_law_whole JB V.m_law_whole fun cdv A outer s H E hr hcm hcc => ?_;have hu:=hr.units;exact (qR (qe (zt (QP V.kit V.n_isinstance (@qO _ _ _ _ _ _ _ (qH 0) (@qO _ _ _ _ _ _ _ (WC rfl V.n_int Boot.«int») qF))) (ZE (qFu (QP V.kit V.n_isinstance (@qO _ _ _ _ _ _ _ (qH 0) (@qO _ _ _ _ _ _ _ (WC rfl V.n_bool Boot.«bool») qF))))))))
theorem sc_law_odd:FnScope ["_law_box_here","_law_some"] ["_law_box_here"] (qJ Wh):=scm
theorem jG (V:Env K mg a):DefG P w K mg base 3 "_law_odd" a.law_odd 1 (ZI a):=by refine Yy V.f_law_odd sc_law_odd V.m_law_odd fun cdv A outer s H E hr hcm hcc => ?_;have hu:=hr.units;exact (@qM _ _ _ _ _ _ (@QD _ _ _ _ _ 1 _ _ sc_law_odd.nd (@ql _ _ _ _ (@QX _ _ _ _ _ (@qc _ _ _ _ _ _ _ _ Jb (@qc _ _ _ _ _ _ _ _ wb (@qc _ _ _ _ _ _ _ _ qG (@qc _ _ _ _ _ _ _ _ Qh (@qc _ _ _ _ _ _ _ _ Qh (@zj _ _ _ _ _ _ _ _ (@qr _ _ _ _ _ _ qF) (@qKW _ _ _ _ _ _ _ (@ql _ _ _ _ (@QX _ _ _ _ _ qF)) (@qKz _ _ _ _ _ _ _ _ qJl (@zj _ _ _ _ _ _ _ _ (@qr _ _ _ _ _ _ (@qc _ _ _ _ _ _ _ _ qG (@qc _ _ _ _ _ _ _ _ qG qF))) (@zj _ _ _ _ _ _ _ _ (@qr _ _ _ _ _ _ (@qc _ _ _ _ _ _ _ _ qG qF)) (@zj _ _ _ _ _ _ _ _ (@qr _ _ _ _ _ _ (@qc _ _ _ _ _ _ _ _ qG (@qc _ _ _ _ _ _ _ _ qG (@qc _ _ _ _ _ _ _ _ qG qF)))) (@qAR _ _ _ _ _ _ _ _ (@zU _ _ _ _ _ qG) (@zj _ _ _ _ _ _ _ _ (@qr _ _ _ _ _ _ (@qc _ _ _ _ _ _ _ _ qG (@qc _ _ _ _ _ _ _ _ qG qF))) (@qKW _ _ _ _ _ _ _ (@ql _ _ _ _ (@QX _ _ _ _ _ (@zj _ _ _ _ _ _ _ _ (@qr _ _ _ _ _ _ (@qc _ _ _ _ _ _ _ _ qG (@qc _ _ _ _ _ _ _ _ qG qF))) qF))) (@qc _ _ _ _ _ _ _ _ wb (@zj _ _ _ _ _ _ _ _ (@qr _ _ _ _ _ _ (@zj _ _ _ _ _ _ _ _ (@qr _ _ _ _ _ _ (@qc _ _ _ _ _ _ _ _ qG (@qc _ _ _ _ _ _ _ _ qG qF))) (@zj _ _ _ _ _ _ _ _ (@qr _ _ _ _ _ _ (@qc _ _ _ _ _ _ _ _ qG (@qc _ _ _ _ _ _ _ _ qG qF))) qF))) qF)))))))))))))))))) (by rfl) (by first |exact Or.inl rfl |exact Or.inr rfl) (by rfl) (by first |exact .inl rfl |exact .inr rfl |assumption)) (@qR _ _ _ _ (@qe _ _ _ _ _ (@wT _ _ _ _ _ _ _ (qH 1) (@qP _ _ _ _ _ _ _ _ _ ((qZ V).call (hr.mono (by omega)) qX) (@qO _ _ _ _ _ _ _ (qH 0) (@qc _ _ _ _ _ _ _ _ qG qF)) (by rfl) (by rfl)) (by exact fun _ _=>rfl)))))
theorem sc_law_kind:FnScope ["_law_e","_law_kinds","_law_words"] ["_law_e"] (qJ WQ):=scm
theorem YV (V:Env K mg a):DefG P w K mg base 1 "_law_kind" a.law_kind 1 (wq a):=by refine Yy V.f_law_kind sc_law_kind V.m_law_kind fun cdv A outer s H E hr hcm hcc => ?_;have hu:=hr.units;exact (@qM _ _ _ _ _ _ (@QD _ _ _ _ _ 1 _ _ sc_law_kind.nd (@ql _ _ _ _ (@QX _ _ _ _ _ (@wE _ _ _ _ _ _ _ _ _ (QP V.kit V.n_isinstance (@qO _ _ _ _ _ _ _ (qH 0) (@qO _ _ _ _ _ _ _ (@ZA _ _ _ _ _ rfl V.k_Z1 (by decide)) qF))) (@wE _ _ _ _ _ _ _ _ _ (QP V.kit V.n_isinstance (@qO _ _ _ _ _ _ _ (qH 0) (@qO _ _ _ _ _ _ _ (@ZA _ _ _ _ _ rfl V.k_Z2 (by decide)) qF))) (@wE _ _ _ _ _ _ _ _ _ (QP V.kit V.n_isinstance (@qO _ _ _ _ _ _ _ (qH 0) (@qO _ _ _ _ _ _ _ (@ZA _ _ _ _ _ rfl V.k_Z3 (by decide)) qF))) (@wE _ _ _ _ _ _ _ _ _ (QP V.kit V.n_isinstance (@qO _ _ _ _ _ _ _ (qH 0) (@qO _ _ _ _ _ _ _ (@ZA _ _ _ _ _ rfl V.k_Z4 (by decide)) qF))) qF)))))) (by rfl) (by first |exact Or.inl rfl |exact Or.inr rfl) (by rfl) (by first |exact .inl rfl |exact .inr rfl |assumption)) (@qM _ _ _ _ _ _ (@QD _ _ _ _ _ 1 _ _ sc_law_kind.nd (@ql _ _ _ _ (@ZC _ _ _ _ _ _ _ (qH 1) (@ql _ _ _ _ (@QX _ _ _ _ _ (@wE _ _ _ _ _ _ _ _ _ (QP V.kit V.n_isinstance (@qO _ _ _ _ _ _ _ (qH 0) (@qO _ _ _ _ _ _ _ (@ZA _ _ _ _ _ rfl V.k_Z5 (by decide)) qF))) (@wE _ _ _ _ _ _ _ _ _ (QP V.kit V.n_isinstance (@qO _ _ _ _ _ _ _ (qH 0) (@qO _ _ _ _ _ _ _ (@ZA _ _ _ _ _ rfl V.k_Z6 (by decide)) qF))) (@wE _ _ _ _ _ _ _ _ _ (QP V.kit V.n_isinstance (@qO _ _ _ _ _ _ _ (qH 0) (@qO _ _ _ _ _ _ _ (@ZA _ _ _ _ _ rfl V.k_Z7 (by decide)) qF))) (@wE _ _ _ _ _ _ _ _ _ (QP V.kit V.n_isinstance (@qO _ _ _ _ _ _ _ (qH 0) (@qO _ _ _ _ _ _ _ (@ZA _ _ _ _ _ rfl V.k_Z8 (by decide)) qF))) qF)))))))) (by rfl) (by first |exact Or.inl rfl |exact Or.inr rfl) (by rfl) (by first |exact .inl rfl |exact .inr rfl |assumption)) (@qM _ _ _ _ _ _ (@QD _ _ _ _ _ 1 _ _ sc_law_kind.nd (@ql _ _ _ _ (@ZC _ _ _ _ _ _ _ (qH 1) (@ql _ _ _ _ (@QX _ _ _ _ _ (@wE _ _ _ _ _ _ _ _ _ (QP V.kit V.n_isinstance (@qO _ _ _ _ _ _ _ (qH 0) (@qO _ _ _ _ _ _ _ (@ZA _ _ _ _ _ rfl V.k_Z9 (by decide)) qF))) (@wE _ _ _ _ _ _ _ _ _ (QP V.kit V.n_isinstance (@qO _ _ _ _ _ _ _ (qH 0) (@qO _ _ _ _ _ _ _ (@ZA _ _ _ _ _ rfl V.k_Z10 (by decide)) qF))) (@wE _ _ _ _ _ _ _ _ _ (QP V.kit V.n_isinstance (@qO _ _ _ _ _ _ _ (qH 0) (@qO _ _ _ _ _ _ _ (@ZA _ _ _ _ _ rfl V.k_Z11 (by decide)) qF))) qF))))))) (by rfl) (by first |exact Or.inl rfl |exact Or.inr rfl) (by rfl) (by first |exact .inl rfl |exact .inr rfl |assumption)) (@qM _ _ _ _ _ _ (@Q5 _ _ _ _ _ _ _ _ _ (@Z8 _ _ _ _ (@W4 _ _ _ _ _ _ _ _ (@Q2 _ _ _ _ _ (@Q8 _ _ _ _ (QP V.kit V.n_isinstance (@qO _ _ _ _ _ _ _ (qH 0) (@qO _ _ _ _ _ _ _ (@WC _ _ _ _ _ rfl V.n_ValueError Boot.«ValueError» (by decide) (by decide)) qF))) (by intro _;rfl))) (@Wb _ _ _ _ _ (@Qf _ _ _ _ _ _ _ _ _ _ (zF hu) ZN (@qIM _ _ _ _ _ _ _ (@Zv _ _ _ _ _ _ _ _ _ (@ql _ _ _ _ (@QK _ _ _ _ _ _ _ ([]) (["_law_kind_here"]) ([]) _ _ _ _ _ (by exact Qe rfl (by decide +kernel) rfl rfl trivial) (@wK _ _ _ _ _ (qH 1)) (fun s' H' fp pn=>⟨(@qGx _ _ _ _ _ _ _ (@qO _ _ _ _ _ _ _ (qH 0) qF) V.n_int (by rfl) (by rfl) (by rfl)),⟨(@QC _ _ 0 _ (show (["_law_kind_here"]:List Str).Nodup by decide +kernel) (by rfl) (by first |exact Or.inl rfl |exact Or.inr rfl) (by first |exact .inl rfl |exact .inr rfl |assumption)),(qW 0),TsOk.nil,rfl⟩,GsOk.nil⟩) (by intro _;rfl))) qF) V.n_sum (by rfl) (by rfl) (by rfl)) qG (by first |exact qBp _ |with_unfolding_all rfl))))) (@qR _ _ _ _ (@qe _ _ _ _ _ Qh)) q9) (@qM _ _ _ _ _ _ (@QD _ _ _ _ _ 2 _ _ sc_law_kind.nd (@ql _ _ _ _ (@QX _ _ _ _ _ (@qc _ _ _ _ _ _ _ _ Qh (@qc _ _ _ _ _ _ _ _ Qh (@qc _ _ _ _ _ _ _ _ Qh (@qc _ _ _ _ _ _ _ _ Qh (@qc _ _ _ _ _ _ _ _ Qh (@qc _ _ _ _ _ _ _ _ Qh (@qc _ _ _ _ _ _ _ _ Qh (@qc _ _ _ _ _ _ _ _ Qh (@qc _ _ _ _ _ _ _ _ Qh (@qc _ _ _ _ _ _ _ _ Qh (@qc _ _ _ _ _ _ _ _ Qh qF))))))))))))) (by rfl) (by first |exact Or.inl rfl |exact Or.inr rfl) (by rfl) (by first |exact .inl rfl |exact .inr rfl |assumption)) (@qR _ _ _ _ (@qe _ _ _ _ _ (@qHT _ _ _ _ _ _ _ Qh (@wT _ _ _ _ _ _ _ (qH 2) (@qDt _ _ _ _ _ _ _ _ hu (qH 1) wb (by rfl) (by rfl) (by rfl) (by rfl) (by rfl)) (by exact fun _ _=>rfl))))))))))
theorem Ji:FnScope ["_law_found","_law_due"] ["_law_found","_law_due"] (qJ WH):=scm
theorem yh (V:Env K mg a):∀ n,DefG P w K mg base (n + 1) "_law_same" a.law_same 2 (qf n a)
 |0=>by obtain ⟨fd,F⟩:=V.f_law_same;exact qJY F (F.binds (ps:=["_law_found","_law_due"]) fun _ _ _ _ _ _ us hl=>match us,hl with |[_,_],_=>rfl) V.m_law_same fun _ _=>rfl
 |n + 1=>by
  have DR:=yh V n;refine qAP V.f_law_same Ji V.m_law_same fun cdv A outer s H E hr hcm hcc => ?_;have hu:=hr.units;have hc:=hcc (by omega)
  exact (qM (Q5 (Q8 (QP V.kit V.n_isinstance (@qO _ _ _ _ _ _ _ (qH 1) (@zj _ _ _ _ _ _ _ _ (qr (@qO _ _ _ _ _ _ _ (WC rfl V.n_tuple Boot.«tuple») (@qO _ _ _ _ _ _ _ (WC rfl V.n_list Boot.«list») qF))) qF)))) (qM (Q5 (Z8 (W4 (Qf (zF hu) ZN (QP V.kit V.n_isinstance (@qO _ _ _ _ _ _ _ (qH 0) (@qO _ _ _ _ _ _ _ (WC rfl V.n_tuple Boot.«tuple») qF))) (QP V.kit V.n_isinstance (@qO _ _ _ _ _ _ _ (qH 1) (@qO _ _ _ _ _ _ _ (WC rfl V.n_tuple Boot.«tuple») qF)))) (Wb (Qf (zF hu) ZN (QP V.kit V.n_isinstance (@qO _ _ _ _ _ _ _ (qH 0) (@qO _ _ _ _ _ _ _ (WC rfl V.n_list Boot.«list») qF))) (QP V.kit V.n_isinstance (@qO _ _ _ _ _ _ _ (qH 1) (@qO _ _ _ _ _ _ _ (WC rfl V.n_list Boot.«list») qF))))))) (qR (qe wb)) q9) (qR (qe (zt (qCj hu (wO (@qO _ _ _ _ _ _ _ (qH 0) qF) V.n_len) (wO (@qO _ _ _ _ _ _ _ (qH 1) qF) V.n_len)) (ZE (yP (@Zv _ _ _ _ _ _ _ _ _ (ql (QK (capN:=([])) (locN:=(["_law_one","_law_other"])) (caps:=([])) (by exact Qe rfl (by decide +kernel) rfl rfl trivial) (qGc hc V.n_zip (@qO _ _ _ _ _ _ _ (qH 0) (@qO _ _ _ _ _ _ _ (qH 1) qF))) (fun s' H' fp pn=>⟨(qP (DR.call (hr.mono (by omega)) (qo _)) (@qO _ _ _ _ _ _ _ (qH 0) (@qO _ _ _ _ _ _ _ (qH 1) qF))),⟨(zd hc (QB (QC 0 (show (["_law_one","_law_other"]:List Str).Nodup by decide +kernel)) (QB (QC 1 (show (["_law_one","_law_other"]:List Str).Nodup by decide +kernel)) WW))),(WP (QQ (qW 0) (QQ (qW 1) WS))),TsOk.nil,rfl⟩,GsOk.nil⟩))) qF) V.n_all)))))) q9) (qR (qe (zt (qCj hu (qH 0) (qH 1)) (ZE (qCj hu (QP V.kit V.n_isinstance (@qO _ _ _ _ _ _ _ (qH 0) (@qO _ _ _ _ _ _ _ (WC rfl V.n_bool Boot.«bool») qF))) (QP V.kit V.n_isinstance (@qO _ _ _ _ _ _ _ (qH 1) (@qO _ _ _ _ _ _ _ (WC rfl V.n_bool Boot.«bool») qF)))))))))
theorem Wo (V:Env K mg a):DefG P w K mg base 4 "_law_same" a.law_same 2 (qf 3 a):=yh V 3
theorem sc_law_cover:FnScope ["_law_bar","_law_length","_law_row","_law_column","_law_way"] ["_law_bar","_law_length"] (qJ wx):=scm
theorem qAk (V:Env K mg a):DefG P w K mg base 2 "_law_cover" a.law_cover 2 (ZD a):=by
 refine qAP V.f_law_cover sc_law_cover V.m_law_cover fun cdv A outer s H E hr hcm hcc => ?_;have hu:=hr.units;have hc:=hcc (by omega)
 exact (qM (qBj (qH 0) (zd hc (QB (Qz 2 sc_law_cover.nd) (QB (Qz 3 sc_law_cover.nd) (QB (Qz 4 sc_law_cover.nd) WW))))) (qM (Q5 (Qf (yU hu) jC (qH 4) qG) (qR (qe (ql (QK (capN:=(["_law_row","_law_column"])) (locN:=(["_law_k"])) (caps:=([2,3])) (by exact Qe rfl (by decide +kernel) rfl rfl ⟨⟨rfl,rfl⟩,⟨⟨rfl,rfl⟩,trivial⟩⟩) (Qk rfl V.n_range (@qO _ _ _ _ _ _ _ (qH 1) qF)) (fun s' H' fp pn=>⟨(qr (@qO _ _ _ _ _ _ _ (qH 0) (@wY _ _ _ _ _ _ _ _ _ (Qb (qH 1) (qH 2)) qF))),⟨(QC 2 (show (["_law_row","_law_column","_law_k"]:List Str).Nodup by decide +kernel)),(qW 2),TsOk.nil,rfl⟩,GsOk.nil⟩))))) q9) (qR (qe (ql (QK (capN:=(["_law_column","_law_row"])) (locN:=(["_law_k"])) (caps:=([3,2])) (by exact Qe rfl (by decide +kernel) rfl rfl ⟨⟨rfl,rfl⟩,⟨⟨rfl,rfl⟩,trivial⟩⟩) (Qk rfl V.n_range (@qO _ _ _ _ _ _ _ (qH 1) qF)) (fun s' H' fp pn=>⟨(qr (@wY _ _ _ _ _ _ _ _ _ (Qb (qH 1) (qH 2)) (@qO _ _ _ _ _ _ _ (qH 0) qF))),⟨(QC 2 (show (["_law_column","_law_row","_law_k"]:List Str).Nodup by decide +kernel)),(qW 2),TsOk.nil,rfl⟩,GsOk.nil⟩)))))))
theorem sc_law_put:FnScope ["_law_box_here","_law_length","_law_found","_law_turn","_law_way","_law_row","_law_column","_law_places"] ["_law_box_here","_law_length"] (qJ Wg):=scm
theorem qC8 (V:Env K mg a):DefG P w K mg base 3 "_law_put" a.law_put 2 (yE a):=by
 refine qAP V.f_law_put sc_law_put V.m_law_put fun cdv A outer s H E hr hcm hcc => ?_;have hu:=hr.units;have hc:=hcc (by omega)
 exact (qM (yz 2 sc_law_put.nd (QX qF)) (qM (Zh (Qk rfl V.n_range (@wY _ _ _ _ _ _ _ _ _ (Qb qG (qP ((qZ V).call (hr.mono (by omega)) qX) (@qO _ _ _ _ _ _ _ (qH 0) (@qc _ _ _ _ _ _ _ _ qG qF)))) qF)) (Qz 3 sc_law_put.nd) (qM (QD 4 sc_law_put.nd (qP ((qZ V).call (hr.mono (by omega)) (qo _)) (@qO _ _ _ _ _ _ _ (qH 0) (@qc _ _ _ _ _ _ _ _ qG qF)))) (qM (qF0 5 6 hc sc_law_put.nd (@wE _ _ _ _ _ _ _ _ _ (qP ((qZ V).call (hr.mono (by omega)) (qo _)) (@qO _ _ _ _ _ _ _ (qH 0) (@wY _ _ _ _ _ _ _ _ _ (zW qG (wT (ql (QX (@qc _ _ _ _ _ _ _ _ qG (@qO _ _ _ _ _ _ _ (qH 1) qF)))) (qH 4))) qF))) (@wE _ _ _ _ _ _ _ _ _ (qP ((qZ V).call (hr.mono (by omega)) (qo _)) (@qO _ _ _ _ _ _ _ (qH 0) (@wY _ _ _ _ _ _ _ _ _ (zW qG (wT (ql (QX (@qO _ _ _ _ _ _ _ (qH 1) (@qc _ _ _ _ _ _ _ _ qG qF)))) (qH 4))) qF))) qF))) (qM (QD 7 sc_law_put.nd (qP ((qAk V).call (hr.mono (by omega)) (qo _)) (@zj _ _ _ _ _ _ _ _ (qr (@qO _ _ _ _ _ _ _ (qH 5) (@qO _ _ _ _ _ _ _ (qH 6) (@qO _ _ _ _ _ _ _ (qH 4) qF)))) (@qO _ _ _ _ _ _ _ (qH 1) qF)))) (qR (Q5 (Z8 (qJF (Qf (yU hu) jC (ql (QK (capN:=(["_law_found"])) (locN:=(["_law_place"])) (caps:=([2])) (by exact Qe rfl (by decide +kernel) rfl rfl ⟨⟨rfl,rfl⟩,trivial⟩) (wK (qH 7)) (fun s' H' fp pn=>⟨(qH 1),⟨(QC 1 (show (["_law_found","_law_place"]:List Str).Nodup by decide +kernel)),(qW 1),(TsOk.cons (Qf (qEZ hu) qHx (qH 1) (qH 0)) TsOk.nil),rfl⟩,GsOk.nil⟩))) (ql (QX qF))) (qHI (Qf yb yi (Qb (wO (@qO _ _ _ _ _ _ _ (qH 2) qF) V.n_len) (qH 1)) qG)))) (qR (yz 2 sc_law_put.nd (ZC (qH 2) (qH 7)))) q9)))))) (qR (qe (qH 2)))))
theorem sc_law_floor:FnScope ["_law_box_here","_law_length","_law_way","_law_high","_law_wide","_law_found","_law_row"] ["_law_box_here","_law_length"] (qJ wz):=scm
theorem Jx (V:Env K mg a):DefG P w K mg base 4 "_law_floor" a.law_floor 2 (W7 a):=by
 refine qAP V.f_law_floor sc_law_floor V.m_law_floor fun cdv A outer s H E hr hcm hcc => ?_;have hu:=hr.units;have hc:=hcc (by omega)
 exact (qM (QD 2 sc_law_floor.nd (qP ((qZ V).call (hr.mono (by omega)) qX) (@qO _ _ _ _ _ _ _ (qH 0) (@qc _ _ _ _ _ _ _ _ qG qF)))) (qM (qF0 3 4 hc sc_law_floor.nd (@wY _ _ _ _ _ _ _ _ _ (Qb qG (qP ((qZ V).call (hr.mono (by omega)) qX) (@qO _ _ _ _ _ _ _ (qH 0) (@qc _ _ _ _ _ _ _ _ qG qF)))) (@wY _ _ _ _ _ _ _ _ _ (Qb qG (qP ((qZ V).call (hr.mono (by omega)) qX) (@qO _ _ _ _ _ _ _ (qH 0) (@qc _ _ _ _ _ _ _ _ qG qF)))) qF))) (qM (Q5 (Qf qAh qAf (qH 2) qG) (qM (QD 5 sc_law_floor.nd (qP ((qC8 V).call (hr.mono (by omega)) qX) (@qO _ _ _ _ _ _ _ (qH 0) (@qO _ _ _ _ _ _ _ (qH 1) qF)))) (qM (Q5 (Qf (yU hu) jC (qH 2) qG) (qM (JD (qDs (qH 5) (qP ((qZ V).call (hr.mono (by omega)) qX) (@qO _ _ _ _ _ _ _ (qH 0) (@wE _ _ _ _ _ _ _ _ _ (wO (@qO _ _ _ _ _ _ _ (qH 5) qF) V.n_len) qF))))) (qR (QD 5 sc_law_floor.nd (ql (ZC (qH 5) (ql (QK (capN:=(["_law_box_here"])) (locN:=(["_law_turn"])) (caps:=([0])) (by exact Qe rfl (by decide +kernel) rfl rfl ⟨⟨rfl,rfl⟩,trivial⟩) (Qk rfl V.n_range (@wE _ _ _ _ _ _ _ _ _ (qP ((qZ V).call (hr.mono (by omega)) qX) (@qO _ _ _ _ _ _ _ (qH 0) (@qc _ _ _ _ _ _ _ _ qG qF))) qF)) (fun s' H' fp pn=>⟨(qr (@wE _ _ _ _ _ _ _ _ _ (qP ((qZ V).call (hr.mono (by omega)) (qo _)) (@qO _ _ _ _ _ _ _ (qH 0) (@qc _ _ _ _ _ _ _ _ qG qF))) (@wE _ _ _ _ _ _ _ _ _ (qP ((qZ V).call (hr.mono (by omega)) (qo _)) (@qO _ _ _ _ _ _ _ (qH 0) (@qc _ _ _ _ _ _ _ _ qG qF))) qF))),⟨(QC 1 (show (["_law_box_here","_law_turn"]:List Str).Nodup by decide +kernel)),(qW 1),TsOk.nil,rfl⟩,GsOk.nil⟩)))))))) q9) (qR (qe (wW (@wE _ _ _ _ _ _ _ _ _ (Jq hc hu V.n_sorted V.n_set (qH 5)) qF) V.n_tuple))))) q9) (qM (QD 5 sc_law_floor.nd (ql (QX qF))) (qM (Zh (Qk rfl V.n_range (@qO _ _ _ _ _ _ _ (qH 3) qF)) (Qz 6 sc_law_floor.nd) (qR (QD 5 sc_law_floor.nd (ql (ZC (qH 5) (ql (QK (capN:=(["_law_row","_law_way","_law_box_here"])) (locN:=(["_law_column"])) (caps:=([6,2,0])) (by exact Qe rfl (by decide +kernel) rfl rfl ⟨⟨rfl,rfl⟩,⟨⟨rfl,rfl⟩,⟨⟨rfl,rfl⟩,trivial⟩⟩⟩) (Qk rfl V.n_range (@qO _ _ _ _ _ _ _ (qH 4) qF)) (fun s' H' fp pn=>⟨(qr (@qO _ _ _ _ _ _ _ (qH 0) (@qO _ _ _ _ _ _ _ (qH 3) qF))),⟨(QC 3 (show (["_law_row","_law_way","_law_box_here","_law_column"]:List Str).Nodup by decide +kernel)),(qW 3),(TsOk.cons (Z8 (W4 (Qf (yU hu) jC (qH 1) qG) (Wb (Qf (zF hu) ZN (qP ((qZ V).call (hr.mono (by omega)) (qo _)) (@qO _ _ _ _ _ _ _ (qH 2) (@Yx _ _ _ _ _ _ _ _ (wT (ql (QX (@qc _ _ _ _ _ _ _ _ qG (@qc _ _ _ _ _ _ _ _ qG (@qc _ _ _ _ _ _ _ _ qG qF))))) (qH 1)) qF))) qG)))) TsOk.nil),rfl⟩,GsOk.nil⟩)))))))) (qR (qe (wW (@qLA _ _ _ _ _ _ _ _ _ (qKa (Qf qHs qHz (qH 2) qG) (qD0 (qH 5) wM (wB qG)) (qD0 (qH 5) wM (wB (qP ((qZ V).call (hr.mono (by omega)) qX) (@qO _ _ _ _ _ _ _ (qH 0) (@qc _ _ _ _ _ _ _ _ qG qF)))))) qF) V.n_tuple))))))))
theorem sc_law_is_floor:FnScope ["_law_thing","_law_cell_here"] ["_law_thing"] (qJ Q0):=scm
theorem YM (V:Env K mg a):DefG P w K mg base 3 "_law_is_floor" a.law_is_floor 1 (Wx a):=by
 refine Yy V.f_law_is_floor sc_law_is_floor V.m_law_is_floor fun cdv A outer s H E hr hcm hcc => ?_;have hu:=hr.units;have hc:=hcc (by omega)
 exact (qM (Q5 (Z8 (W4 (Q2 (Q8 (QP V.kit V.n_isinstance (@qO _ _ _ _ _ _ _ (qH 0) (@qO _ _ _ _ _ _ _ (WC rfl V.n_tuple Boot.«tuple») qF))))) (Wb (Qf qAh qAf (wO (@qO _ _ _ _ _ _ _ (qH 0) qF) V.n_len) qG)))) (qR (qe wb)) q9) (qM (Zh (wK (qH 0)) (Qz 1 sc_law_is_floor.nd) (qM (Q5 (Z8 (W4 (Q2 (Q8 (QP V.kit V.n_isinstance (@qO _ _ _ _ _ _ _ (qH 1) (@qO _ _ _ _ _ _ _ (WC rfl V.n_tuple Boot.«tuple») qF))))) (W4 (Qf (zF hu) ZN (wO (@qO _ _ _ _ _ _ _ (qH 1) qF) V.n_len) qG) (Wb (Q2 (Q8 (yP (@Zv _ _ _ _ _ _ _ _ _ (ql (QK (capN:=([])) (locN:=(["_law_one"])) (caps:=([])) (by exact Qe rfl (by decide +kernel) rfl rfl trivial) (wK (qH 1)) (fun s' H' fp pn=>⟨(qP ((yd V).call (hr.mono (by omega)) (qo _)) (@qO _ _ _ _ _ _ _ (qH 0) qF)),⟨(QC 0 (show (["_law_one"]:List Str).Nodup by decide +kernel)),(qW 0),TsOk.nil,rfl⟩,GsOk.nil⟩))) qF) V.n_all))))))) (qR (qe wb)) q9) (qR (Q5 (Z8 (W4 (Q2 (J1 yb yb yi yi qG (wT (qH 1) qG) qG)) (Wb (Q2 (J1 yb yb yi yi qG (wT (qH 1) qG) qG))))) (qR (qe wb)) q9)))) (qR (qe (qCj hu (ql (Z1 V.n_list (qH 0))) (Jq hc hu V.n_sorted V.n_set (qH 0)))))))
theorem Yz:FnScope ["_law_thing"] ["_law_thing"] (qJ wX):=scm
theorem JC (V:Env K mg a):DefG P w K mg base 3 "_law_is_bar" a.law_is_bar 1 (zZ a):=by refine Yy V.f_law_is_bar Yz V.m_law_is_bar fun cdv A outer s H E hr hcm hcc => ?_;have hu:=hr.units;exact (qM (Q5 (Z8 (W4 (Q2 (Q8 (QP V.kit V.n_isinstance (@qO _ _ _ _ _ _ _ (qH 0) (@qO _ _ _ _ _ _ _ (WC rfl V.n_tuple Boot.«tuple») qF))))) (W4 (Qf (zF hu) ZN (wO (@qO _ _ _ _ _ _ _ (qH 0) qF) V.n_len) qG) (Wb (Q2 (Q8 (yP (@Zv _ _ _ _ _ _ _ _ _ (ql (QK (capN:=([])) (locN:=(["_law_one"])) (caps:=([])) (by exact Qe rfl (by decide +kernel) rfl rfl trivial) (wK (qH 0)) (fun s' H' fp pn=>⟨(qP ((yd V).call (hr.mono (by omega)) (qo _)) (@qO _ _ _ _ _ _ _ (qH 0) qF)),⟨(QC 0 (show (["_law_one"]:List Str).Nodup by decide +kernel)),(qW 0),TsOk.nil,rfl⟩,GsOk.nil⟩))) qF) V.n_all))))))) (qR (qe wb)) q9) (qR (qe (zt (qHf (qFQ (@Yx _ _ _ _ _ _ _ _ (wT (qH 0) qG) qF) V.n_abs) qG) (zt (qHf (qFQ (@Yx _ _ _ _ _ _ _ _ (wT (qH 0) qG) qF) V.n_abs) qG) (ZE (qKU hu (wT (qH 0) qG) (qr (@qc _ _ _ _ _ _ _ _ qG (@qc _ _ _ _ _ _ _ _ qG qF))))))))))
theorem sc_law_others:FnScope ["_law_box_here","_law_floor_here","_law_at","_law_cell_here","_law_odd_here","_law_new","_law_some","_law_whole_here"] ["_law_box_here","_law_floor_here"] (qJ wZ):=scm
theorem jx (V:Env K mg a):DefG P w K mg base 4 "_law_others" a.law_others 2 (zS a):=by refine qAP V.f_law_others sc_law_others V.m_law_others fun cdv A outer s H E hr hcm hcc => ?_;have hu:=hr.units;exact (qM (QD 2 sc_law_others.nd (qP ((qZ V).call (hr.mono (by omega)) qX) (@qO _ _ _ _ _ _ _ (qH 0) (@wY _ _ _ _ _ _ _ _ _ (Qb (wO (@qO _ _ _ _ _ _ _ (qH 1) qF) V.n_len) qG) qF)))) (qM (QD 3 sc_law_others.nd (wT (WU (qH 1) (qr (@zj _ _ _ _ _ _ _ _ (qr (@qc _ _ _ _ _ _ _ _ qG (@qc _ _ _ _ _ _ _ _ qG qF))) qF))) (qH 2))) (qM (QD 4 sc_law_others.nd (wT (ql (QX (@qc _ _ _ _ _ _ _ _ qG (@qAR _ _ _ _ _ _ _ _ (zU qG) (@qc _ _ _ _ _ _ _ _ wb (@qc _ _ _ _ _ _ _ _ Jb (@qc _ _ _ _ _ _ _ _ Qh (@zj _ _ _ _ _ _ _ _ (qr (@qc _ _ _ _ _ _ _ _ qG qF)) (@wY _ _ _ _ _ _ _ _ _ (qA9 qG qG) (@qc _ _ _ _ _ _ _ _ qG (@qc _ _ _ _ _ _ _ _ qG qF))))))))))) (qP ((qZ V).call (hr.mono (by omega)) qX) (@qO _ _ _ _ _ _ _ (qH 0) (@qc _ _ _ _ _ _ _ _ qG qF))))) (qM (QD 5 sc_law_others.nd (ql (QX (@zj _ _ _ _ _ _ _ _ (qr (@qO _ _ _ _ _ _ _ (qH 4) (@Yx _ _ _ _ _ _ _ _ (wT (qH 3) qG) qF))) (@zj _ _ _ _ _ _ _ _ (qr (@Yx _ _ _ _ _ _ _ _ (wT (qH 3) qG) (@qO _ _ _ _ _ _ _ (qH 4) qF))) (@wE _ _ _ _ _ _ _ _ _ (ql (Z1 V.n_list (qH 3))) (@wY _ _ _ _ _ _ _ _ _ (WU (qH 3) (qr (@qc _ _ _ _ _ _ _ _ qG qF))) (@Yx _ _ _ _ _ _ _ _ (Wp (qH 3) wM (wB qG)) (@qO _ _ _ _ _ _ _ (qH 4) (@qO _ _ _ _ _ _ _ (qH 3) qF)))))))))) (qM (yz 6 sc_law_others.nd (QK (capN:=(["_law_floor_here","_law_at"])) (locN:=(["_law_one"])) (caps:=([1,2])) (by exact Qe rfl (by decide +kernel) rfl rfl ⟨⟨rfl,rfl⟩,⟨⟨rfl,rfl⟩,trivial⟩⟩) (wK (qH 5)) (fun s' H' fp pn=>⟨(WU (WU (Wp (qH 0) wM (wB (qH 1))) (qr (@qO _ _ _ _ _ _ _ (qH 2) qF))) (Wp (qH 0) (wB (Qb (qH 1) qG)) wM)),⟨(QC 2 (show (["_law_floor_here","_law_at","_law_one"]:List Str).Nodup by decide +kernel)),(qW 2),TsOk.nil,rfl⟩,GsOk.nil⟩))) (qM (jV (qH 6) (WU (WU (Wp (qH 1) wM (wB (qH 2))) (Wp (qH 1) (wB (qH 2)) (wB (Qb (qH 2) qG)))) (Wp (qH 1) (wB (qH 2)) wM))) (qM (yz 6 sc_law_others.nd (ZC (qH 6) (ql (QX (@Yx _ _ _ _ _ _ _ _ (qHA (qH 1) wM wM (wB (zU qG))) (@wE _ _ _ _ _ _ _ _ _ (ql (Z1 V.n_list (qH 1))) (@wY _ _ _ _ _ _ _ _ _ (WU (qH 1) (qr (@zj _ _ _ _ _ _ _ _ (qr (@qc _ _ _ _ _ _ _ _ qG (@qc _ _ _ _ _ _ _ _ qG qF))) qF))) qF))))))) (qM (jV (qH 6) (qP ((jG V).call (hr.mono (by omega)) qX) (@qO _ _ _ _ _ _ _ (qH 0) qF))) (qM (QD 7 sc_law_others.nd (wW (@Zv _ _ _ _ _ _ _ _ _ (ql (QK (capN:=([])) (locN:=(["_law_k"])) (caps:=([])) (by exact Qe rfl (by decide +kernel) rfl rfl trivial) (Qk rfl V.n_range (@qc _ _ _ _ _ _ _ _ qG qF)) (fun s' H' fp pn=>⟨(qr (@wY _ _ _ _ _ _ _ _ _ (qBe (qH 0) qG) (@wY _ _ _ _ _ _ _ _ _ (yL (qH 0) qG) qF))),⟨(QC 0 (show (["_law_k"]:List Str).Nodup by decide +kernel)),(qW 0),TsOk.nil,rfl⟩,GsOk.nil⟩))) qF) V.n_tuple)) (qR (qe (ql (ZC (ql (QK (capN:=(["_law_some","_law_box_here"])) (locN:=(["_law_turn"])) (caps:=([6,0])) (by exact Qe rfl (by decide +kernel) rfl rfl ⟨⟨rfl,rfl⟩,⟨⟨rfl,rfl⟩,trivial⟩⟩) (Qk rfl V.n_range (@qc _ _ _ _ _ _ _ _ qG qF)) (fun s' H' fp pn=>⟨(wT (qH 0) (qP ((qZ V).call (hr.mono (by omega)) (qo _)) (@qO _ _ _ _ _ _ _ (qH 1) (@qc _ _ _ _ _ _ _ _ qG qF)))),⟨(QC 2 (show (["_law_some","_law_box_here","_law_turn"]:List Str).Nodup by decide +kernel)),(qW 2),TsOk.nil,rfl⟩,GsOk.nil⟩))) (ql (QX (@qO _ _ _ _ _ _ _ (qH 7) (@Yx _ _ _ _ _ _ _ _ (Wp (qH 7) wM (wB qG)) (@Yx _ _ _ _ _ _ _ _ (Wp (qH 7) (wB qG) wM) qF))))))))))))))))))
theorem sc_law_bars:FnScope ["_law_box_here","_law_bar","_law_at","_law_odd_here"] ["_law_box_here"] (qJ WO):=scm
theorem qAx (V:Env K mg a):DefG P w K mg base 4 "_law_bars" a.law_bars 1 (ZX a):=by refine Yy V.f_law_bars sc_law_bars V.m_law_bars fun cdv A outer s H E hr hcm hcc => ?_;have hu:=hr.units;exact (qM (QD 1 sc_law_bars.nd (qr (@wY _ _ _ _ _ _ _ _ _ (zW (qP ((qZ V).call (hr.mono (by omega)) qX) (@qO _ _ _ _ _ _ _ (qH 0) (@qc _ _ _ _ _ _ _ _ qG qF))) qG) (@wY _ _ _ _ _ _ _ _ _ (zW (qP ((qZ V).call (hr.mono (by omega)) qX) (@qO _ _ _ _ _ _ _ (qH 0) (@qc _ _ _ _ _ _ _ _ qG qF))) qG) (@wE _ _ _ _ _ _ _ _ _ (qP ((qZ V).call (hr.mono (by omega)) qX) (@qO _ _ _ _ _ _ _ (qH 0) (@qc _ _ _ _ _ _ _ _ qG qF))) qF))))) (qM (QD 2 sc_law_bars.nd (qP ((qZ V).call (hr.mono (by omega)) qX) (@qO _ _ _ _ _ _ _ (qH 0) (@qc _ _ _ _ _ _ _ _ qG qF)))) (qM (QD 3 sc_law_bars.nd (wT (ql (QX (@qc _ _ _ _ _ _ _ _ qG (@qAR _ _ _ _ _ _ _ _ (zU qG) (@qc _ _ _ _ _ _ _ _ qG (@qAR _ _ _ _ _ _ _ _ (zU qG) (@qc _ _ _ _ _ _ _ _ qG (@qc _ _ _ _ _ _ _ _ wb (@qc _ _ _ _ _ _ _ _ Jb (@qc _ _ _ _ _ _ _ _ Qh (@wY _ _ _ _ _ _ _ _ _ (qA9 qG qG) (@qAR _ _ _ _ _ _ _ _ (zU qG) (@zj _ _ _ _ _ _ _ _ (qr (@qc _ _ _ _ _ _ _ _ qG qF)) qF))))))))))))) (qP ((qZ V).call (hr.mono (by omega)) qX) (@qO _ _ _ _ _ _ _ (qH 0) (@qc _ _ _ _ _ _ _ _ qG qF))))) (qR (qe (ql (QX (@qO _ _ _ _ _ _ _ (qH 1) (@wY _ _ _ _ _ _ _ _ _ (WU (WU (Wp (qH 1) wM (wB (qH 2))) (qr (@qO _ _ _ _ _ _ _ (qH 3) qF))) (Wp (qH 1) (wB (Qb (qH 2) qG)) wM)) (@Yx _ _ _ _ _ _ _ _ (Wp (qH 1) wM (wB qG)) (@wY _ _ _ _ _ _ _ _ _ (WU (qH 1) (qr (@qc _ _ _ _ _ _ _ _ qG qF))) (@wE _ _ _ _ _ _ _ _ _ (ql (Z1 V.n_list (qH 1))) (@wE _ _ _ _ _ _ _ _ _ (qP ((jG V).call (hr.mono (by omega)) qX) (@qO _ _ _ _ _ _ _ (qH 0) qF)) qF)))))))))))))
theorem qBk (V:Env K mg a):∀ C∈[a.Z11],W.mroIn K C (.ref a.Z11)=some true:=fun C hC=>by
 rcases AD.mp hC with rfl |hC
 ·exact V.s_Z11
 ·cases hC
theorem qBT (V:Env K mg a):∀ C∈ZJ a,W.mroIn K C (.ref a.Z11)=some false∧W.mroIn K C (.ref a.Z0)=some true:=by
 intro C hC;unfold ZJ at hC;rcases AD.mp hC with rfl |hC
 ·exact ⟨V.u_Z2_Z11,V.e_Z2⟩
 cases hC
theorem sc_law_asked:FnScope ["_law_high","_law_wide","_law_e"] ["_law_high","_law_wide"] (qJ wS):=scm
theorem zk (V:Env K mg a):DefG P w K mg base 6 "_law_asked" a.law_asked 2 (Qs a):=by
 obtain ⟨fd,F⟩:=V.f_law_asked;obtain ⟨_,_,_,o_Z0⟩:=V.o_Z0;obtain ⟨_,_,_,o_Z11⟩:=V.o_Z11;refine Y9 (B:=W6 a) F sc_law_asked (F.binds (ps:=["_law_high","_law_wide"]) fun _ _ _ _ _ _ us hl=>match us,hl with |[_,_],_=>rfl) V.m_law_asked (fun l st h=>Wf h) (fun cdv A outer s H E hr hcm => ?_) (fun l s0 hl hn=>WD hl);have hu:=hr.units;have hc:(Qq (CXF P w) P w K mg base ["_law_high","_law_wide","_law_e"] "_law_asked" (qJ wS) a.law_asked cdv A outer s H E).calm=true:=by show A.handled.isNone=true;rw [hcm (by omega)];rfl
 exact (qR (qHX 2 ⟨rfl,rfl,rfl⟩ hc sc_law_asked.nd rfl V.k_Z11 o_Z11 V.b_Z11 (qBk V) rfl V.k_Z0 o_Z0 V.b_Z0 (qBT V) (fun pins xe E' hp=>(qR (qe (qP ((qAK V).call (hr.mono (by omega)) hp) (@qO _ _ _ _ _ _ _ (qH 0) (@qO _ _ _ _ _ _ _ (qH 1) qF)))))) (fun ea=>(qR (qe (ql (QX (@wE _ _ _ _ _ _ _ _ _ (qP ((YV V).call (qCC hr) (qo _)) (@qO _ _ _ _ _ _ _ (qH 2) qF)) (@qKl _ _ _ _ _ _ _ _ (qBx V.xk_Z11 V.xh_Z11 V.xa_Z11_many (qH 2)) (@qKl _ _ _ _ _ _ _ _ (qBx V.xk_Z11 V.xh_Z11 V.xa_Z11_most (qH 2)) qF)))))))) (fun ea=>(qR (qe (qP ((YV V).call (qCC hr) (qo _)) (@qO _ _ _ _ _ _ _ (qH 2) qF)))))))
theorem sc_law_boxed:FnScope ["_law_box_here","_law_high","_law_wide","_law_due","_law_bad"] ["_law_box_here","_law_high","_law_wide"] (qJ wu):=scm
theorem J5 (V:Env K mg a):DefG P w K mg base 7 "_law_boxed" a.law_boxed 3 (zu a):=by refine qI3 V.f_law_boxed sc_law_boxed V.m_law_boxed fun cdv A outer s H E hr hcm hcc => ?_;have hu:=hr.units;exact (qM (QD 3 sc_law_boxed.nd (wW (@Zv _ _ _ _ _ _ _ _ _ (ql (QK (capN:=(["_law_wide"])) (locN:=(["_law_k"])) (caps:=([2])) (by exact Qe rfl (by decide +kernel) rfl rfl ⟨⟨rfl,rfl⟩,trivial⟩) (Qk rfl V.n_range (@wY _ _ _ _ _ _ _ _ _ (Wv (qH 1) (qH 2)) qF)) (fun s' H' fp pn=>⟨(qr (@wY _ _ _ _ _ _ _ _ _ (qBe (qH 1) (qH 0)) (@wY _ _ _ _ _ _ _ _ _ (yL (qH 1) (qH 0)) qF))),⟨(QC 1 (show (["_law_wide","_law_k"]:List Str).Nodup by decide +kernel)),(qW 1),TsOk.nil,rfl⟩,GsOk.nil⟩))) qF) V.n_tuple)) (qM (Q5 (Qf qAh qAf (Wv (qH 1) (qH 2)) qG) (qR (QD 3 sc_law_boxed.nd (ql (QX (@qc _ _ _ _ _ _ _ _ Qh (@wY _ _ _ _ _ _ _ _ _ (Wv (qH 1) (qH 2)) (@qc _ _ _ _ _ _ _ _ qG qF))))))) q9) (qM (QD 4 sc_law_boxed.nd (wT (ql (QX (@qc _ _ _ _ _ _ _ _ qG (@qc _ _ _ _ _ _ _ _ qG (@qAR _ _ _ _ _ _ _ _ (zU qG) (@qc _ _ _ _ _ _ _ _ wb (@qc _ _ _ _ _ _ _ _ Jb (@qc _ _ _ _ _ _ _ _ Qh (@zj _ _ _ _ _ _ _ _ (qr (@qc _ _ _ _ _ _ _ _ qG qF)) (@wY _ _ _ _ _ _ _ _ _ (qA9 qG qG) qF)))))))))) (qP ((qZ V).call (hr.mono (by omega)) qX) (@qO _ _ _ _ _ _ _ (qH 0) (@qc _ _ _ _ _ _ _ _ qG qF))))) (qM (Q5 (Z8 (W4 (Qf (zF hu) ZN (qP ((zk V).call (hr.mono (by omega)) qX) (@qO _ _ _ _ _ _ _ (qH 4) (@qO _ _ _ _ _ _ _ (qH 2) qF))) Qh) (Wb (Qf (zF hu) ZN (qP ((zk V).call (hr.mono (by omega)) qX) (@qO _ _ _ _ _ _ _ (qH 1) (@qO _ _ _ _ _ _ _ (qH 4) qF))) Qh)))) (qR (qe wb)) q9) (qR (qe (qP ((Wo V).call (hr.mono (by omega)) qX) (@wE _ _ _ _ _ _ _ _ _ (qP ((zk V).call (hr.mono (by omega)) qX) (@qO _ _ _ _ _ _ _ (qH 1) (@qO _ _ _ _ _ _ _ (qH 2) qF))) (@qO _ _ _ _ _ _ _ (qH 3) qF)))))))))
theorem sc_law:FnScope ["_law_script","_law_k","_law_box_here","_law_floor_here","_law_thing","_law_up","_law_left"] ["_law_script"] (qJ zi):=scm
theorem qJs {fd:FuncData} (V:Env K mg a) (F:Fun K "law" "law" zi a.law fd):FnOk P w K mg base (CXF P w) 8 a.law fd ["_law_script"] (spG K 1 (qAB a)):=by
 refine okV F sc_law fun cdv A outer s H E hr hcm=>⟨qH1 a,?_,fun l s0 hl hn=>WD hl⟩;have hu:=hr.units;have hc:(Qq (CXF P w) P w K mg base ["_law_script","_law_k","_law_box_here","_law_floor_here","_law_thing","_law_up","_law_left"] "law" (qJ zi) a.law cdv A outer s H E).calm=true:=by show A.handled.isNone=true;rw [hcm (by omega)];rfl
 exact (qM (Zh (Qk rfl V.n_range (@wE _ _ _ _ _ _ _ _ _ (qGO (@qc _ _ _ _ _ _ _ _ qG (@wE _ _ _ _ _ _ _ _ _ (qGZ (@wE _ _ _ _ _ _ _ _ _ (wO (@qO _ _ _ _ _ _ _ (qH 0) qF) V.n_len) (@qc _ _ _ _ _ _ _ _ qG qF)) hc V.n_min) qF)) hc V.n_max) qF)) (Qz 1 sc_law.nd) (qM (QD 2 sc_law.nd (qP ((qC7 V).call (hr.mono (by omega)) (qo _)) (@qO _ _ _ _ _ _ _ (qH 0) (@qO _ _ _ _ _ _ _ (qH 1) qF)))) (qM (QD 3 sc_law.nd (qP ((Jx V).call (hr.mono (by omega)) (qo _)) (@qO _ _ _ _ _ _ _ (qH 2) (@wY _ _ _ _ _ _ _ _ _ (Qb qG (qP ((qZ V).call (hr.mono (by omega)) (qo _)) (@qO _ _ _ _ _ _ _ (qH 2) (@qc _ _ _ _ _ _ _ _ qG qF)))) qF)))) (qM (Zh (wK (ql (ZC (ql (QX (@qO _ _ _ _ _ _ _ (qH 3) qF))) (qP ((jx V).call (hr.mono (by omega)) (qo _)) (@qO _ _ _ _ _ _ _ (qH 2) (@qO _ _ _ _ _ _ _ (qH 3) qF)))))) (Qz 4 sc_law.nd) (qR (Q5 (Q2 (Q8 (qP ((Wo V).call (hr.mono (by omega)) (qo _)) (@wE _ _ _ _ _ _ _ _ _ (qP ((qAu V).call (hr.mono (by omega)) (qo _)) (@qO _ _ _ _ _ _ _ (qH 4) qF)) (@wE _ _ _ _ _ _ _ _ _ (qP ((YM V).call (hr.mono (by omega)) (qo _)) (@qO _ _ _ _ _ _ _ (qH 4) qF)) qF))))) (qR (qe wb)) q9))) (qM (Zh (wK (qP ((qAx V).call (hr.mono (by omega)) (qo _)) (@qO _ _ _ _ _ _ _ (qH 2) qF))) (Qz 4 sc_law.nd) (qR (Q5 (Q2 (Q8 (qP ((Wo V).call (hr.mono (by omega)) (qo _)) (@wE _ _ _ _ _ _ _ _ _ (qP ((qE6 V).call (hr.mono (by omega)) (qo _)) (@qO _ _ _ _ _ _ _ (qH 4) qF)) (@wE _ _ _ _ _ _ _ _ _ (qP ((JC V).call (hr.mono (by omega)) (qo _)) (@qO _ _ _ _ _ _ _ (qH 4) qF)) qF))))) (qR (qe wb)) q9))) (qM (Q5 (Q2 (Q8 (qP ((Wo V).call (hr.mono (by omega)) (qo _)) (@wE _ _ _ _ _ _ _ _ _ (qP ((qA4 V).call (hr.mono (by omega)) (qo _)) (@qO _ _ _ _ _ _ _ (qH 3) qF)) (@wE _ _ _ _ _ _ _ _ _ (wW (@wE _ _ _ _ _ _ _ _ _ (qAX hu V.n_sorted (ql (QK (capN:=([])) (locN:=(["_law_row","_law_column"])) (caps:=([])) (by exact Qe rfl (by decide +kernel) rfl rfl trivial) (wK (qH 3)) (fun s' H' fp pn=>⟨(qr (@qO _ _ _ _ _ _ _ (qH 1) (@qO _ _ _ _ _ _ _ (qH 0) qF))),⟨(zd hc (QB (QC 0 (show (["_law_row","_law_column"]:List Str).Nodup by decide +kernel)) (QB (QC 1 (show (["_law_row","_law_column"]:List Str).Nodup by decide +kernel)) WW))),(WP (QQ (qW 0) (QQ (qW 1) WS))),TsOk.nil,rfl⟩,GsOk.nil⟩)))) qF) V.n_tuple) qF))))) (qR (qe wb)) q9) (qM (qBj (ql (QK (capN:=(["_law_floor_here"])) (locN:=(["_law_at"])) (caps:=([3])) (by exact Qe rfl (by decide +kernel) rfl rfl ⟨⟨rfl,rfl⟩,trivial⟩) (wK (qr (@qc _ _ _ _ _ _ _ _ qG (@qc _ _ _ _ _ _ _ _ qG qF)))) (fun s' H' fp pn=>⟨(JN (@qK5 _ _ _ _ _ _ _ _ (qIp (ql (QK (capN:=(["_law_at"])) (locN:=(["_law_cell_here"])) (caps:=([1])) (by exact Qe rfl (by decide +kernel) rfl rfl ⟨⟨rfl,rfl⟩,trivial⟩) (wK (qH 0)) (fun s' H' fp pn=>⟨(wT (qH 1) (qH 0)),⟨(QC 1 (show (["_law_at","_law_cell_here"]:List Str).Nodup by decide +kernel)),(qW 1),TsOk.nil,rfl⟩,GsOk.nil⟩))) (ZE (ql (QX (@qc _ _ _ _ _ _ _ _ qG qF))))) qF) V.n_min),⟨(QC 1 (show (["_law_floor_here","_law_at"]:List Str).Nodup by decide +kernel)),(qW 1),TsOk.nil,rfl⟩,GsOk.nil⟩))) (qF8 hc (QB (Qz 5 sc_law.nd) (QB (Qz 6 sc_law.nd) WW)))) (qM (Q5 (Q2 (Q8 (qP ((Wo V).call (hr.mono (by omega)) (qo _)) (@wE _ _ _ _ _ _ _ _ _ (qP ((qGn V).call (hr.mono (by omega)) (qo _)) (@qO _ _ _ _ _ _ _ (qH 3) qF)) (@wE _ _ _ _ _ _ _ _ _ (wW (@Zv _ _ _ _ _ _ _ _ _ (ql (QK (capN:=(["_law_up","_law_left"])) (locN:=(["_law_row","_law_column"])) (caps:=([5,6])) (by exact Qe rfl (by decide +kernel) rfl rfl ⟨⟨rfl,rfl⟩,⟨⟨rfl,rfl⟩,trivial⟩⟩) (wK (qH 3)) (fun s' H' fp pn=>⟨(qr (@wY _ _ _ _ _ _ _ _ _ (zW (qH 2) (qH 0)) (@wY _ _ _ _ _ _ _ _ _ (zW (qH 3) (qH 1)) qF))),⟨(zd hc (QB (QC 2 (show (["_law_up","_law_left","_law_row","_law_column"]:List Str).Nodup by decide +kernel)) (QB (QC 3 (show (["_law_up","_law_left","_law_row","_law_column"]:List Str).Nodup by decide +kernel)) WW))),(WP (QQ (qW 2) (QQ (qW 3) WS))),TsOk.nil,rfl⟩,GsOk.nil⟩))) qF) V.n_tuple) qF))))) (qR (qe wb)) q9) (qR (Q5 (Q2 (Q8 (qP ((J5 V).call (hr.mono (by omega)) (qo _)) (@qO _ _ _ _ _ _ _ (qH 2) (@wY _ _ _ _ _ _ _ _ _ (Qb qG (qP ((qZ V).call (hr.mono (by omega)) (qo _)) (@qO _ _ _ _ _ _ _ (qH 2) (@qc _ _ _ _ _ _ _ _ qG qF)))) (@wY _ _ _ _ _ _ _ _ _ (Qb qG (qP ((qZ V).call (hr.mono (by omega)) (qo _)) (@qO _ _ _ _ _ _ _ (qH 2) (@qc _ _ _ _ _ _ _ _ qG qF)))) qF)))))) (qR (qe wb)) q9)))))))))) (qR (qe wb)))
end
end K01
end
section
namespace EV
open PySem L2 EX
theorem Wa {G:qB->Prop} {k:PV->qB->Rs (List PV)} {st:qB} (hG:G st) {F:PV->List PV}:∀ {l:List PV},(∀ p∈l,k p st = .ok (F p) st)->qz G k l st = .ok (l.flatMap F) st
 |[],_=>by unfold qz;rw [AF hG];rfl
 |p::l,h=>by unfold qz;rw [AF hG,h p AH];show (qz G k l st).bind _=_;rw [Wa hG fun q hq=>h q (AE _ hq)];rfl
theorem yc {F:PV->PV}:∀ l:List PV,l.flatMap (fun p=>[F p])=l.map F
 |[]=>rfl
 |p::l=>by rw [List.flatMap_cons,yc l];rfl
theorem zp {c:PV->Bool}:∀ l:List PV,l.flatMap (fun p=>if c p=true then [p] else [])=l.filter c
 |[]=>rfl
 |p::l=>by rw [List.flatMap_cons,zp l,List.filter_cons];cases c p <;> rfl
theorem QI {caps:List Nat} {n:Nat} {fi:FI} {g:FG} {f:FE} {r:qv} {st:qB} {w:ItP} {F:PV->PV} (hfi:fi r st = .ok w st) (hG:w.G st) (hl:w.l.length≤sizeLine)
  (h:∀ p∈w.l,∃ r',g p (Wz caps n r)=some r'∧f r' st = .ok (F p) st):qt caps n fi g [] [] f r st = .ok (w.l.map F) st:=by
 unfold qt;rw [hfi];show (match qz w.G (Qi ⟨fi,g,[]⟩ (Q7 [] f) (Wz caps n r)) w.l st with | .ok l s'=>if l.length≤sizeLine then Rs.ok l s' else Rs.no |_=>Rs.no)=_;rw [Wa (F:=fun p=>[F p]) hG fun p hp=>by
  obtain ⟨r',h1,h2⟩:=h p hp;unfold Qi;show (match g p (Wz caps n r) with |none=>_ |some r'=>_)=_;rw [h1];show (Q7 [] f) r' st=_;unfold Q7;rw [h2];rfl]
 rw [yc];dsimp only;rw [AF (by rw [AI];exact hl)]
theorem jh {caps:List Nat} {n:Nat} {fi:FI} {g:FG} {t:FT} {f:FE} {r:qv} {st:qB} {w:ItP} {c:PV->Bool} (hfi:fi r st = .ok w st) (hG:w.G st) (hl:w.l.length≤sizeLine)
  (h:∀ p∈w.l,∃ r',g p (Wz caps n r)=some r'∧t r' st = .ok (c p) st∧f r' st = .ok p st):qt caps n fi g [t] [] f r st = .ok (w.l.filter c) st:=by
 unfold qt;rw [hfi];show (match qz w.G (Qi ⟨fi,g,[t]⟩ (Q7 [] f) (Wz caps n r)) w.l st with | .ok l s'=>if l.length≤sizeLine then Rs.ok l s' else Rs.no |_=>Rs.no)=_;rw [Wa (F:=fun p=>if c p=true then [p] else []) hG fun p hp=>by
  obtain ⟨r',h1,h2,h3⟩:=h p hp;unfold Qi;show (match g p (Wz caps n r) with |none=>_ |some r'=>_)=_;rw [h1];show (wf [t] r' st).bind _=_;unfold wf wf;rw [h2];cases hc:c p
  ·rfl
  ·show (Q7 [] f) r' st=_;unfold Q7;rw [h3];rfl]
 rw [zp];dsimp only;rw [AF (Ac (List.length_filter_le _ _) hl)]
theorem jK {G:qB->Prop} {g:FG} {F:FS} {r:qv} {st:qB} (h:G st):Q4 G g F [] r st = .nx r st:=by unfold Q4;rw [AF h]
theorem YN {G:qB->Prop} {g:FG} {F:FS} {r r1 r2:qv} {st s2:qB} {p:PV} {ps:List PV} (h:G st) (h1:g p r=some r1) (h2:F r1 st = .nx r2 s2):Q4 G g F (p::ps) r st=Q4 G g F ps r2 s2:=by rw [Q4,AF h,h1];dsimp only;rw [h2]
section
variable {F G:FS} {f:FE} {fl:FL} {fi:FI} {g:FG} {t:FT} {r r':qv} {st st':qB} {p:PV} {l:List PV} {w:ItP} {i:Nat}
theorem Qy (h:F r st = .nx r' st'):qU F G r st=G r' st':=by unfold qU;rw [h]
theorem qBE (h:F r st = .rt p st'):qU F G r st = .rt p st':=by unfold qU;rw [h]
theorem qI2 {x:Exc} (h:F r st = .ex x st'):qU F G r st = .ex x st':=by unfold qU;rw [h]
theorem qIC {x:Exc} (h:f r st = .ex x st'):zC f r st = .ex x st':=by unfold zC;rw [h];rfl
theorem qGQ {x:Exc} {n N:Nat} {B:FS} (hl:l.length=n) (h:B (QZ N l) st = .ex x st'):QM n N B l st = .ex x st':=by unfold QM;rw [AF hl,h];rfl
theorem qI6 (h:f r st = .ok p st'):zC f r st = .nx r st':=by unfold zC;rw [h];rfl
theorem WI (h:f r st = .ok p st'):QJ i f r st = .nx (r.set i (some p)) st':=by unfold QJ;rw [h];rfl
theorem qGX (h:fl r st = .ok l st'):W9 i fl r st = .nx (r.set i (some (.ref st'.length))) (st'++[.l l]):=by unfold W9;rw [h];rfl
theorem jo (h:f r st = .ok p st'):qm f r st = .rt p st':=by unfold qm;rw [h];rfl
theorem qCH (h:fl r st = .ok l st'):Yf fl r st = .rt (.ref st'.length) (st'++[.l l]):=by unfold Yf;rw [h];rfl
theorem qFg (h:fi r st = .ok w st'):z9 fi g F r st=Q4 w.G g F w.l r st':=by unfold z9;rw [h];rfl
theorem qIS (h:t r st = .ok true st'):Q9 t F G r st=F r st':=by unfold Q9;rw [h];rfl
theorem qD6 (h:t r st = .ok false st'):Q9 t F G r st=G r st':=by unfold Q9;rw [h];rfl
theorem zh (h:fl r st = .ok l st'):vFz fl r st = .ok (.lst l) st':=by unfold vFz;rw [h];rfl
theorem WY {k:List PV->qB->Rs PV} {fa:FA} (h:fa r st = .ok l st'):qI k fa r st=k l st':=by unfold qI;rw [h];rfl
theorem QE {fa:FA} {st2:qB} (h:f r st = .ok p st') (h2:fa r st' = .ok l st2):qA f fa r st = .ok (p::l) st2:=by unfold qA;rw [h];show (fa r st').bind _=_;rw [h2];rfl
theorem QS {k:PV->PV->qB->Rs PV} {fb:FE} {q:PV} {st2:qB} (h:f r st = .ok p st') (h2:fb r st' = .ok q st2):qN k f fb r st=k p q st2:=by unfold qN;rw [h];show (fb r st').bind _=_;rw [h2];rfl
theorem yN {b:Bool} (h:f r st = .ok (.bl b) st'):Qd f r st = .ok b st':=by unfold Qd;rw [h];rfl
theorem qA0 {b:Bool} (h:t r st = .ok b st'):wF t r st = .ok (!b) st':=by unfold wF;rw [h];rfl
theorem Y7 {b:Bool} (h:f r st = .ok (.bl b) st'):vTB f r st = .ok b st':=by unfold vTB;rw [h];rfl
theorem We {n N:Nat} {B:FS} (hl:l.length=n) (h:B (QZ N l) st = .rt p st'):QM n N B l st = .ok p st':=by unfold QM;rw [AF hl,h];rfl
end
section
variable {F G:FS} {f fb fo fi2:FE} {fl:FL} {fi:FI} {fa:FA} {g:FG} {t u:FT} {r r1 r':qv} {st s1 s2 s3:qB} {p q z:PV} {l m:List PV} {w:ItP} {i:Nat} {b c:Bool} {x:Exc} {o:RS} {R:Rs PV}
theorem qV {k:PV->PV->qB->Rs PV} (h:f r st = .ok p s1) (h2:fb r s1 = .ok q s2) (h3:k p q s2=R):qN k f fb r st=R:=by rw [QS h h2];exact h3
theorem qK {k:List PV->qB->Rs PV} (h:fa r st = .ok l s1) (h2:k l s1=R):qI k fa r st=R:=by rw [WY h];exact h2
theorem qa:qC r st = .ok [] st:=rfl
theorem qL (h:f r st = .ok p s1) (h2:fa r s1 = .ok l s2):qA f fa r st = .ok (p::l) s2:=QE h h2
theorem WA (h:fa r st = .ok l s1) (hl:l.length≤sizeLine):QT fa r st = .ok (.tup l) s1:=by unfold QT;rw [h];exact AF hl
theorem YF (h:fa r st = .ok l s1) (hl:l.length≤sizeLine):Q6 fa r st = .ok l s1:=by unfold Q6;rw [h];exact AF hl
theorem wk (h:fl r st = .ok l s1):vFz fl r st = .ok (.lst l) s1:=zh h
theorem jR (h:f r st = .ok p s1) (h2:fb r s1 = .ok q s2) (e1:asL s2 p=some l) (e2:asL s2 q=some m) (hl:l.length + m.length≤sizeLine):z8 f fb r st = .ok (l++m) s2:=by unfold z8;rw [h];show (fb r s1).bind _=_;rw [h2];show (match asL s2 p with |some l=>_ |none=>_)=_;rw [e1];dsimp only;rw [e2];dsimp only;rw [AF hl]
theorem qj (h:f r st = .ok (.bl b) s1):Qd f r st = .ok b s1:=yN h
theorem we (h:f r st = .ok (.bl b) s1):vTB f r st = .ok b s1:=Y7 h
theorem w_not (h:t r st = .ok b s1):wF t r st = .ok (!b) s1:=qA0 h
theorem Wy (h:t r st = .ok true s1):zD t u r st = .ok true s1:=by unfold zD;rw [h];rfl
theorem QY (h:t r st = .ok false s1) (h2:u r s1 = .ok b s2):zD t u r st = .ok b s2:=by unfold zD;rw [h];exact h2
theorem qGp (h:t r st = .ok false s1):Yn t u r st = .ok false s1:=by unfold Yn;rw [h];rfl
theorem qCX (h:t r st = .ok true s1) (h2:u r s1 = .ok b s2):Yn t u r st = .ok b s2:=by unfold Yn;rw [h];exact h2
theorem qd (h:F r st = .nx r' s1) (h2:G r' s1=o):qU F G r st=o:=by rw [Qy h];exact h2
theorem qy (h:F r st = .rt p s1):qU F G r st = .rt p s1:=qBE h
theorem Yd (h:F r st = .ex x s1):qU F G r st = .ex x s1:=qI2 h
theorem wN (h:f r st = .ok p s1):QJ i f r st = .nx (r.set i (some p)) s1:=WI h
theorem qBc (h:fl r st = .ok l s1):W9 i fl r st = .nx (r.set i (some (.ref s1.length))) (s1++[.l l]):=qGX h
theorem yB (h:f r st = .ok p s1):zC f r st = .nx r s1:=qI6 h
theorem jM (h:f r st = .ex x s1):zC f r st = .ex x s1:=qIC h
theorem qx (h:f r st = .ok p s1):qm f r st = .rt p s1:=jo h
theorem qEs (h:f r st = .ex x s1):qm f r st = .ex x s1:=by unfold qm;rw [h];rfl
theorem QU (h:t r st = .ok true s1) (h2:F r s1=o):Q9 t F G r st=o:=by rw [qIS h];exact h2
theorem QV (h:t r st = .ok false s1) (h2:G r s1=o):Q9 t F G r st=o:=by rw [qD6 h];exact h2
theorem qHP (h:t r st = .ok true s1) (h2:f r s1=R):vIf t f fb r st=R:=by unfold vIf;rw [h];exact h2
theorem qGj (h:t r st = .ok false s1) (h2:fb r s1=R):vIf t f fb r st=R:=by unfold vIf;rw [h];exact h2
theorem YD (h:fi r st = .ok w s1) (h2:Q4 w.G g F w.l r s1=o):z9 fi g F r st=o:=by rw [qFg h];exact h2
theorem WR {Gd:qB->Prop} (h:Gd st):Q4 Gd g F [] r st = .nx r st:=jK h
theorem ZZ {Gd:qB->Prop} {ps:List PV} (h:Gd st) (h1:g p r=some r1) (h2:F r1 st = .nx r' s2) (h3:Q4 Gd g F ps r' s2=o):Q4 Gd g F (p::ps) r st=o:=by rw [YN h h1 h2];exact h3
theorem qFa {r1:qv} (h:f r st = .ok p s1) (h2:g p r=some r1):jQ f g r st = .nx r1 s1:=by unfold jQ;rw [h];show (match g p r with |some r'=>RS.nx r' s1 |none=>RS.no)=_;rw [h2]
theorem qHl {j:Nat} (h:fa r st = .ok [p,q] s1):jI i j fa r st = .nx ((r.set i (some p)).set j (some q)) s1:=by unfold jI;rw [h];rfl
theorem qu {n N:Nat} {B:FS} (hl:l.length=n) (h:B (QZ N l) st = .rt p s1):QM n N B l st = .ok p s1:=We hl h
theorem yI {n N:Nat} {B:FS} (hl:l.length=n) (h:B (QZ N l) st = .ex x s1):QM n N B l st = .ex x s1:=qGQ hl h
theorem sz {n:Nat} (h:Nat.ble n 1000=true):n≤sizeLine:=Ac (Nat.le_of_ble_eq_true h) (by decide)
theorem qI7 {i j:Int} (h:-(2 ^ 64) < i∧i < 2 ^ 64):Wd (.int i) (.int j) st = .ok (.int (i * j)) st:=by unfold Wd gI;dsimp only;rw [AF (.inl h)]
theorem qHy {i j:Int} (h:0 < j):ZM (.int i) (.int j) st = .ok (.int (i % j)) st:=by unfold ZM gI;dsimp only;rw [AF h]
theorem qHv {i j:Int} (h:0 < j∧j < 1073741824):yo (.int i) (.int j) st = .ok (.int (i / j)) st:=by unfold yo gI;dsimp only;rw [AF h]
theorem zg {i j:Int}:Q3 (.int i) (.int j) st = .ok (.int (i + j)) st:=rfl
theorem YJ {i j:Int}:zM (.int i) (.int j) st = .ok (.int (i - j)) st:=rfl
theorem w_lt {i j:Int}:gLt (.int i) (.int j) st = .ok (.bl (decide (i < j))) st:=rfl
theorem qJw {i j:Int}:gLe (.int i) (.int j) st = .ok (.bl (decide (i≤j))) st:=rfl
theorem qG6 {i j:Int}:gGt (.int i) (.int j) st = .ok (.bl (decide (i > j))) st:=rfl
theorem qIO {i j:Int} (h:i < j):gLt (.int i) (.int j) st = .ok (.bl true) st:=by rw [w_lt,Af h]
theorem qIB {i j:Int} (h:¬ i < j):gLt (.int i) (.int j) st = .ok (.bl false) st:=by rw [w_lt,AX h]
theorem JU {i j:Int} (h:i > j):gGt (.int i) (.int j) st = .ok (.bl true) st:=by rw [qG6,Af h]
theorem qBJ {i j:Int} (h:¬ i > j):gGt (.int i) (.int j) st = .ok (.bl false) st:=by rw [qG6,AX h]
theorem qID {i:Int} (h:WG st p=some l) (h2:atI l i=some z):gIx p (.int i) st = .ok z st:=by unfold gIx;simp only [h,h2]
theorem Wr (h:WG st p=some l) {n:Int} (hn:(l.length:Int)=n):w8 [p] st = .ok (.int n) st:=by unfold w8;simp only [h];rw [hn]
theorem qAp {n:Nat} (h:st[n]? = some (.l l)):WG st (.ref n)=some l:=by unfold WG asL;simp only [h]
theorem qBN {n:Nat} (h:st[n]? = some (.l l)):asL st (.ref n)=some l:=by unfold asL;simp only [h]
theorem qFl {n:Nat} (h:r[n]? = some (some p)):qD n r st = .ok p st:=by unfold qD;rw [h]
theorem qFq {n:Nat} (h:fo r st = .ok (.ref n) s1) (hk:lk s1 (.ref n)=true) (h2:f r s1 = .ok p s2) (h3:s2[n]? = some (.l l)) (hl:l.length < sizeLine):zK fo f r st = .nx r (s2.set n (.l (l++[p]))):=by unfold zK;rw [h];show (if lk s1 (.ref n)=true then (f r s1).bindS _ else RS.no)=_;rw [AF hk,h2];show (match s2[n]? with |some (.l xs)=>if xs.length < sizeLine then RS.nx r (s2.set n (.l (xs++[p]))) else .no |_ => .no)=_;rw [h3];exact AF hl
theorem j5 {n:Nat} {k:Int} (h0:0≤k) (h1:k < n):ixN n k=some k.toNat:=by unfold ixN;rw [AF h0,AF (by omega)]
theorem zz {Gd:qB->Prop} {k:PV->qB->Rs (List PV)} (h:Gd st):qz Gd k [] st = .ok [] st:=by unfold qz;exact AF h
theorem yt {Gd:qB->Prop} {k:PV->qB->Rs (List PV)} {ps:List PV} (hG:Gd st) (h:k p st = .ok l s1) (h2:qz Gd k ps s1 = .ok m s2):qz Gd k (p::ps) st = .ok (l++m) s2:=by rw [qz,AF hG,h];show (qz Gd k ps s1).bind _=_;rw [h2];rfl
theorem qBX (h:g p r=some r') (hf:f r' st = .ok q s1):Qi ⟨fi,g,[]⟩ (Q7 [] f) r p st = .ok [q] s1:=by unfold Qi;show (match g p r with |none=>_ |some r'=>_)=_;rw [h];show (Q7 [] f) r' st=_;unfold Q7;rw [hf];rfl
theorem j7 {caps:List Nat} {n:Nat} {ts:List FT} {gs:List GenF} (hfi:fi r st = .ok w s1) (h:qz w.G (Qi ⟨fi,g,ts⟩ (Q7 gs f) (Wz caps n r)) w.l s1 = .ok l s2) (hl:l.length≤sizeLine):qt caps n fi g ts gs f r st = .ok l s2:=by unfold qt;rw [hfi];show (match qz w.G (Qi ⟨fi,g,ts⟩ (Q7 gs f) (Wz caps n r)) w.l s1 with | .ok l s'=>if l.length≤sizeLine then Rs.ok l s' else Rs.no |_=>Rs.no)=_;rw [h];exact AF hl
theorem W0 (h:WG st p=some l):wL [p] st = .ok (.tup l) st:=by unfold wL;simp only [h]
theorem ze (h:f r st = .ok (.lst l) s1):QA f r st = .ok ⟨l,fun _=>True⟩ s1:=by unfold QA;rw [h];rfl
theorem Qm (h:f r st = .ok (.tup l) s1):QA f r st = .ok ⟨l,fun _=>True⟩ s1:=by unfold QA;rw [h];rfl
end
abbrev CE:=qv->Option PV
section
variable {F G:FS} {f fb fc fo fi2:FE} {fl:FL} {fi:FI} {fa:FL} {g:FG} {t u:FT} {c d e:CE} {co cp:CO} {f1 f2:FO} {r r':qv} {st s1 s2 s3:qB} {p q z:PV} {l:List PV} {n:Nat} {o:RS}
theorem qJv (h:st[n]? = some (.l l)):lk st (.ref n)=true:=by unfold lk;dsimp only;rw [h]
end
end EV
end
section
namespace EV
open PySem ET
abbrev qh:=Int×Int
def cP (c:qh):PV := .tup [.int c.1,.int c.2]
def cL (c:qh):List Int:=[c.1,c.2]
def lC:List Int->qh
 |[x,y]=>(x,y)
 |_=>(0,0)
theorem qAD:∀ l:List qh,nrs (l.map cP)=true
 |[]=>rfl
 |c::l=>by rw [An,nrs,qAD l];rfl
theorem ju:∀ l:List qh,deps (l.map cP)≤1
 |[]=>BV _
 |c::l=>by
  rw [An,deps]
  have:=ju l
  have h:dep (cP c)=1:=rfl;omega
theorem qH4 (a b:qh):peq (cP a) (cP b)=decide (a=b):=by
 obtain ⟨a1,a2⟩:=a;obtain ⟨b1,b2⟩:=b;show ((a1==b1)&&((a2==b2)&&true))=_;rw [Ck];by_cases h1:a1=b1
 ·by_cases h2:a2=b2
  ·subst h1;subst h2;simp
  ·rw [AG.mpr h2,Bt];exact (AX (by simp [h2])).symm
 ·rw [AG.mpr h1,Ci];exact (AX (by simp [h1])).symm
theorem qHr (c:qh):∀ l:List qh,pin (cP c) (l.map cP)=decide (c∈l)
 |[]=>rfl
 |d::l=>by
  rw [An,pin,qH4,qHr c l];by_cases h:d=c
  ·subst h;rw [Af rfl,Bool.true_or];exact (Af AH).symm
  ·rw [AX h,Bool.false_or];refine decide_eq_decide.mpr ⟨fun q=>AE _ q,fun q => ?_⟩;rcases AD.mp q with z |z
   ·exact absurd z.symm h
   ·exact z
theorem qLM {neg:Bool} {c:qh} {l:List qh} {q:PV} {st:qB} (h:WG st q=some (l.map cP)):gIn neg (cP c) q st = .ok (.bl (if neg then !decide (c∈l) else decide (c∈l))) st:=by
 unfold gIn;rw [h];dsimp only;rw [AF ⟨qAD l,rfl,Ac (ju l) (by decide)⟩]
 show Rs.ok (PV.bl (if neg then !pin (cP c) (l.map cP) else pin (cP c) (l.map cP))) st=_;rw [qHr]
theorem eq_nil {l:List qh} {st:qB}:gEq (.lst (l.map cP)) (.lst []) st = .ok (.bl l.isEmpty) st:=by
 have h1:Yu (.lst (l.map cP)) (.lst [])=true:=by show (nrs (l.map cP)&&true&&decide (deps (l.map cP) + 1≤ym))=true;rw [qAD,Af (Ac (Nat.succ_le_succ (ju l)) (by decide))];rfl
 show (if Yu (.lst (l.map cP)) (.lst [])=true then Rs.ok (PV.bl (peq (PV.lst (l.map cP)) (PV.lst []))) st else Rs.no)=_;rw [AF h1];cases l <;> rfl
theorem qJc (c:qh):JI (cP c)=some (cL c):=rfl
theorem qA1:∀ l:List qh,wm JI (l.map cP)=some (l.map cL)
 |[]=>rfl
 |c::l=>by rw [An,wm,qJc];dsimp only;rw [qA1 l];rfl
theorem jP:∀ (vs acc:List (List Int)),acc.Nodup->(vs.foldl Zz acc).Nodup
 |[],acc,h=>h
 |k::vs,acc,h=>by
  rw [Cd];refine jP vs _ ?_;unfold Zz;split
  ·exact h
  ·rename_i q;exact List.nodup_append.mpr ⟨h,by simp,fun a ha b hb=>by rw [At.mp hb];intro z;subst z;exact q ha⟩
theorem qCY:∀ (vs acc:List (List Int)) (x:List Int),x∈vs.foldl Zz acc ↔ x∈acc∨x∈vs
 |[],acc,x=>by simp
 |k::vs,acc,x=>by
  rw [Cd,qCY vs _ x];unfold Zz;split
  ·rename_i q;constructor
   ·rintro (h |h)
    ·exact .inl h
    ·exact .inr (AE _ h)
   ·rintro (h |h)
    ·exact .inl h
    ·rcases AD.mp h with rfl |h
     ·exact .inl q
     ·exact .inr h
  ·simp only [Ax,AD,AR,BC];constructor
   ·rintro ((h |h) |h)
    ·exact .inl h
    ·exact .inr (.inl h)
    ·exact .inr (.inr h)
   ·rintro (h |h |h)
    ·exact .inl (.inl h)
    ·exact .inl (.inr h)
    ·exact .inr h
def qDG (l:List qh):List qh:=(srt (l.map cL)).map lC
def Zi (l:List qh):List qh:=(srt (ddT (l.map cL))).map lC
theorem qCI (c:qh):lC (cL c)=c:=rfl
theorem qEt {l:List (List Int)} {m:List qh} (h:∀ x∈l,x∈m.map cL):l.map yk=(l.map lC).map cP:=by rw [A1];refine CC fun x hx => ?_;obtain ⟨c,_,rfl⟩:=Ag.mp (h x hx);rfl
theorem qHR (l:List qh):(srt (l.map cL)).map yk=(qDG l).map cP:=qEt fun x hx=>(Qu _).mem_iff.mp hx
theorem ddT_in {l:List qh} {x:List Int}:x∈ddT (l.map cL) ↔ x∈l.map cL:=by unfold ddT;rw [qCY];simp
theorem qGv (l:List qh):(srt (ddT (l.map cL))).map yk=(Zi l).map cP:=qEt fun x hx=>ddT_in.mp ((Qu _).mem_iff.mp hx)
theorem mem_cL {l:List qh} {c:qh}:cL c∈l.map cL ↔ c∈l:=by
 rw [Ag];constructor
 ·rintro ⟨d,hd,e⟩
  have:d=c:=by rw [← qCI d,e,qCI]
  rw [← this];exact hd
 ·intro h;exact ⟨c,h,rfl⟩
theorem mem_sddC {l:List qh} {c:qh}:c∈Zi l ↔ c∈l:=by
 unfold Zi;rw [Ag];constructor
 ·rintro ⟨x,hx,rfl⟩
  obtain ⟨d,hd,rfl⟩:=Ag.mp (ddT_in.mp ((Qu _).mem_iff.mp hx));exact hd
 ·intro h;exact ⟨cL c,(Qu _).mem_iff.mpr (ddT_in.mpr (mem_cL.mpr h)),rfl⟩
theorem qFH (l:List qh):(qDG l).length=l.length:=by unfold qDG;rw [AI,(Qu _).length_eq,AI]
theorem qB9 (l:List qh):(ddT (l.map cL)).length≤l.length:=by
 have:=JJ (l.map cL) []
 have z:([]:List (List Int)).length=0:=rfl;rw [AI] at this;unfold ddT;omega
theorem qAM (l:List qh):(Zi l).length≤l.length:=by unfold Zi;rw [AI,(Qu _).length_eq];exact qB9 l
def clt (a b:qh):Prop:=a.1 < b.1∨(a.1=b.1∧a.2 < b.2)
instance (a b:qh):Decidable (clt a b):=by unfold clt;infer_instance
theorem qKp (a b:qh):lxb (cL a) (cL b)=decide (clt a b):=by
 obtain ⟨a1,a2⟩:=a;obtain ⟨b1,b2⟩:=b;show (if a1 < b1 then true else if b1 < a1 then false else (if a2 < b2 then true else if b2 < a2 then false else false))=_;by_cases h1:a1 < b1
 ·rw [AF h1];exact (Af (.inl h1)).symm
 ·rw [AJ h1];by_cases h2:b1 < a1
  ·rw [AF h2];exact (AX (by unfold clt;simp;omega)).symm
  ·rw [AJ h2];by_cases h3:a2 < b2
   ·rw [AF h3];exact (Af (.inr ⟨by simp;omega,h3⟩)).symm
   ·rw [AJ h3]
    have:(if b2 < a2 then false else false)=false:=by split <;> rfl
    rw [this];exact (AX (by unfold clt;simp;omega)).symm
theorem y8 (l:List qh):(Zi l).Pairwise clt:=by
 have h1:=yF (ddT (l.map cL));have h2:(srt (ddT (l.map cL))).Nodup:=(Qu _).nodup_iff.mpr (jP _ _ List.nodup_nil);have h3:(srt (ddT (l.map cL))).Pairwise (fun a b=>lxb b a=false∧a≠b):=h1.and h2;unfold Zi;rw [Br];refine List.Pairwise.imp_of_mem ?_ h3;intro x y hx hy ⟨p,q⟩;obtain ⟨c,_,rfl⟩:=Ag.mp (ddT_in.mp ((Qu _).mem_iff.mp hx));obtain ⟨d,_,rfl⟩:=Ag.mp (ddT_in.mp ((Qu _).mem_iff.mp hy));rw [qCI,qCI];rw [qKp] at p;have p:=of_decide_eq_false p;have hne:c≠d:=fun z=>q (by rw [z])
 unfold clt at p ⊢
 have:¬ (c.1=d.1∧c.2=d.2):=fun z=>hne (Prod.ext z.1 z.2)
 omega
theorem qBI {l:List qh} {q:PV} {st:qB} (h:WG st q=some (l.map cP)) (hl:l.length≤63):YQ q st = .ok (.lst ((Zi l).map cP)) st:=by unfold YQ;rw [h];dsimp only;rw [qA1];dsimp only;rw [AF ⟨by rw [AI];omega,by have:=qB9 l;omega⟩,qGv]
theorem qJO {l:List qh} {q:PV} {st:qB} (h:asL st q=some (l.map cP)) (hl:l.length≤63):Ym q st = .ok (.lst ((qDG l).map cP)) st:=by unfold Ym;rw [h];dsimp only;rw [qA1];dsimp only;rw [AF (by rw [AI];omega),qHR]
section
variable {F G:FS} {f fb fo fi2:FE} {fl:FL} {fi:FI} {fa:FA} {g:FG} {t u:FT} {r r1 r':qv} {st s1 s2 s3 s4:qB} {p q z:PV} {l m:List PV} {w:ItP} {n:Nat}
theorem qBR (h:f r st = .ok p s1) {R:Rs PV} (h2:YQ p s1=R):YB f r st=R:=by unfold YB;rw [h];exact h2
theorem qI0 (h:f r st = .ok p s1) {R:Rs PV} (h2:Ym p s1=R):Z6 f r st=R:=by unfold Z6;rw [h];exact h2
theorem qHM {k:Int} (h:fo r st = .ok (.ref n) s1) (hk:lk s1 (.ref n)=true) (h2:f r s1 = .ok (.int k) s2) (h3:s2[n]? = some (.l l)) (h0:0≤k∧k < 1048576) (h4:l[k.toNat]? = some p):YZ fo f r st = .ok p (s2.set n (.l (l.eraseIdx k.toNat))):=by unfold YZ;rw [h];show (if lk s1 (.ref n)=true then _ else _)=_;rw [AF hk,h2];show (match PV.int k,s2[n]? with | .int k,some (.l xs)=>if 0≤k∧k < 1048576 then match xs[k.toNat]? with |some y=>Rs.ok y (s2.set n (.l (xs.eraseIdx k.toNat))) |none => .no else .no |_,_ => .no)=_;rw [h3];dsimp only;rw [AF h0,h4]
theorem qHY {a b:Option Int} {f1 f2:FO} (h:f r st = .ok p s1) (h1:f1 r s1 = .ok a s2) (h2:f2 r s2 = .ok b s3) (h3:asL s3 p=some l):qBn f f1 f2 r st = .ok (.lst (wl l a b)) s3:=by unfold qBn;rw [h];show (f1 r s1).bind _=_;rw [h1];show (f2 r s2).bind _=_;rw [h2];show (match asL s3 p with |some l=>_ |none=>_)=_;rw [h3]
theorem qDg {Gd:qB->Prop} {ps:List PV} (h:Gd st) (h1:g p r=some r1) (h2:F r1 st = .rt z s2):Q4 Gd g F (p::ps) r st = .rt z s2:=by rw [Q4,AF h,h1];dsimp only;rw [h2]
theorem wp {k:Int} (h:f r st = .ok (.int k) s1):Qg f r st = .ok (some k) s1:=by unfold Qg;rw [h];rfl
end
end EV
end
noncomputable section
namespace K01
open PySem EV
def wU:PV->Bool
 | .non=>true | .bl _=>true | .int _=>true | .str _=>true | .tup _=>true | .lst _=>true | .dct=>true |_=>false
def isInt:PV->Bool
 | .int _=>true
 |_=>false
theorem qBK {a:Ad} {v:PV} {st:qB} (h:wU v=true):ZT a [v] st = .ok (.bl (isInt v)) st:=by cases v <;> first |rfl |cases h
def qk (lo hi:Int):PV->Bool
 | .int i=>decide (lo≤i)&&decide (i≤hi)
 |_=>false
theorem zn {a:Ad} {v:PV} {st:qB} {lo hi:Int} (h:wU v=true):QH a [v,.int lo,.int hi] st = .ok (.bl (qk lo hi v)) st:=by
 refine We rfl ?_;unfold W2;refine (jo (p := .bl (qk lo hi v)) (st':=st) ?_);unfold zy;rw [WY (l:=[v]) (st':=st) rfl,qBK h];cases v with
 |int i =>show (match (PV.bl (decide (lo≤i))) with | .bl true=>Rs.ok (PV.bl (decide (i≤hi))) st | .bl false=>Rs.ok (.bl false) st |_ => .no)=_;unfold qk;dsimp only;cases decide (lo≤i) <;> rfl
 |_=>rfl
theorem qAF {f:PV->Bool}:∀ l:List PV,wm pbl (l.map fun p => .bl (f p))=some (l.map f)
 |[]=>rfl
 |p::l=>by simp only [An,wm,pbl,qAF l]
theorem zV {i j:Int} {st:qB}:gEq (.int i) (.int j) st = .ok (.bl (i==j)) st:=rfl
theorem wt {n:Nat} (h:n≤100000):n≤sizeLine:=Ac h (by decide)
def wC (L:Int):List Int:=(List.range L.toNat).map fun (i:Nat)=>(i:Int)
theorem qEG {L:Int}:yC 0 L=(wC L).map PV.int:=by unfold yC wC;rw [A1,Int.sub_zero];refine CC fun i _ => ?_;show PV.int (0 + (i:Int))=PV.int i;rw [Int.zero_add]
theorem upto_mem {L i:Int}:i∈wC L ↔ 0≤i∧i < L:=by
 unfold wC;rw [Ag];constructor
 ·rintro ⟨j,hj,rfl⟩;rw [BI] at hj;omega
 ·rintro ⟨h1,h2⟩;exact ⟨i.toNat,by rw [BI];omega,by omega⟩
theorem wH {L:Int}:(wC L).length=L.toNat:=by simp [wC]
theorem qHK {l:List Int} {L i:Int} (hl:l.length=L.toNat) (h0:0≤i) (h1:i < L):L2.atI (l.map PV.int) i=some (.int (l.getD i.toNat 0)):=by
 unfold L2.atI L2.ixN;rw [AI,AF h0,AF (by omega)]
 show (l.map PV.int)[i.toNat]? = _;have hi:i.toNat < l.length:=by omega
 rw [BG,AL hi,Al,AL hi];rfl
theorem qJJ {l:List Int} {L i:Int} {st:qB} (hl:l.length=L.toNat) (h0:0≤i) (h1:i < L):gIx (.lst (l.map PV.int)) (.int i) st = .ok (.int (l.getD i.toNat 0)) st:=by unfold gIx;simp only [WG,asL,qHK hl h0 h1]
theorem qBd {i j:Int} {st:qB} (h:-(2 ^ 64) < j∧j < 2 ^ 64):Wd (.int i) (.int j) st = .ok (.int (i * j)) st:=by unfold Wd gI;dsimp only;rw [AF (.inr h)]
theorem JT {i j:Int} {st:qB} (h:0 < j):ZM (.int i) (.int j) st = .ok (.int (i % j)) st:=by unfold ZM gI;dsimp only;rw [AF h]
theorem qIT {i j:Int} {st:qB} (h:0 < j) (h2:j < 1073741824):yo (.int i) (.int j) st = .ok (.int (i / j)) st:=by unfold yo gI;dsimp only;rw [AF ⟨h,h2⟩]
theorem qGB {i j:Int} {st:qB} (h:0 < j) (h2:j < 2 ^ 64):qCQ (.int i) (.int j) st = .ok (.int (i / j)) st:=by unfold qCQ gI;dsimp only;rw [AF ⟨h,h2⟩]
theorem QG {a:Ad} {st j:qB} {x m:Int} (h0:0 < m) (h1:m < 2 ^ 64):qQ a [.ref st.length,.int m] (st ++ .l [.int x]::j) = .ok (.int (x % m)) (st ++ .l [.int (x / m)]::j):=by
 have hs:(st++SO.l [.int x]::j)[st.length]? = some (.l [.int x]):=by simp
 have hg:gIx (.ref st.length) (.int 0) (st++SO.l [.int x]::j) = .ok (.int x) (st++SO.l [.int x]::j):=by unfold gIx;simp only [WG,asL,hs];rfl
 refine We rfl ?_;unfold Yj;rw [Qy (WI (p := .int (x % m)) (st':=st++SO.l [.int x]::j) (r:=QZ 3 [.ref st.length,.int m]) ?_),Qy (r':=[some (.ref st.length),some (.int m),some (.int (x % m))]) (st':=st++SO.l [.int (x / m)]::j) ?_]
 ·rfl
 ·unfold qEm;rw [QS (p := .int x) (q := .int m) (st':=st++SO.l [.int x]::j) (st2:=st++SO.l [.int x]::j) ?_ rfl,qGB h0 h1]
  ·show (match jE (st++SO.l [.int x]::j) (.ref st.length) (.int 0) (.int (x / m)) with |some s4=>RS.nx _ s4 |none=>RS.no)=_
   have:jE (st++SO.l [.int x]::j) (.ref st.length) (.int 0) (.int (x / m))=some (st++SO.l [.int (x / m)]::j):=by unfold jE;simp only [hs];show some ((st++SO.l [.int x]::j).set st.length (.l [.int (x / m)]))=_;rw [CN _ _ (AM _),Nat.sub_self];rfl
   rw [this];rfl
  ·rw [QS (p := .ref st.length) (q := .int 0) rfl rfl];exact hg
 ·rw [QS (p := .int x) (q := .int m) (st':=st++SO.l [.int x]::j) (st2:=st++SO.l [.int x]::j) ?_ rfl,JT h0];rw [QS (p := .ref st.length) (q := .int 0) rfl rfl];exact hg
theorem qHC {a:Ad} {ns:List Int} {k:Int} {st:qB} (h0:0≤k):∃ c,zc a [.lst (ns.map PV.int),.int k] st = .ok (.int c) st:=by
 by_cases hk:k < (ns.length:Int)
 ·refine ⟨ns.getD k.toNat 0,We rfl ?_⟩;unfold Zf;rw [qBE (p := .int (ns.getD k.toNat 0)) (st':=st) (r:=QZ 2 [.lst (ns.map PV.int),.int k]) ?_];rw [qIS (st':=st) ?_,jo (p := .int (ns.getD k.toNat 0)) (st':=st) ?_]
  ·rw [QS (p := .lst (ns.map PV.int)) (q := .int k) rfl rfl,qJJ (L:=ns.length) (by omega) h0 hk]
  ·refine Y7 ?_;rw [QS (p := .int k) (q := .int ns.length) rfl ?_]
   ·show Rs.ok (PV.bl (decide (k < (ns.length:Int)))) st=_;rw [Af hk]
   ·rw [WY (l:=[.lst (ns.map PV.int)]) rfl];show Rs.ok (PV.int ((ns.map PV.int).length:Int)) st=_;rw [AI]
 ·refine ⟨6151 * k + 29,We rfl ?_⟩;unfold Zf;rw [Qy (r':=QZ 2 [.lst (ns.map PV.int),.int k]) (st':=st) (r:=QZ 2 [.lst (ns.map PV.int),.int k]) ?_]
  ·rw [jo (p := .int (6151 * k + 29)) (st':=st) ?_];rw [QS (p := .int (6151 * k)) (q := .int 29) (st':=st) (st2:=st) ?_ rfl]
   ·rfl
   ·rw [QS (p := .int 6151) (q := .int k) rfl rfl];unfold Wd gI;dsimp only;rw [AF (.inl ⟨by decide,by decide⟩)]
  ·rw [qD6 (st':=st) ?_]
   ·rfl
   ·refine Y7 ?_;rw [QS (p := .int k) (q := .int ns.length) rfl ?_]
    ·show Rs.ok (PV.bl (decide (k < (ns.length:Int)))) st=_;rw [AX hk]
    ·rw [WY (l:=[.lst (ns.map PV.int)]) rfl];show Rs.ok (PV.int ((ns.map PV.int).length:Int)) st=_;rw [AI]
theorem qCh {i j:Int} {st:qB} (h:-(2 ^ 64) < i∧i < 2 ^ 64):Wd (.int i) (.int j) st = .ok (.int (i * j)) st:=by unfold Wd gI;dsimp only;rw [AF (.inl h)]
theorem qAn {s:PV} {c k:Int} {st:qB}:∀ (js:List Int) (n m:Int) (x:Option PV),(∀ j∈js,0≤j∧j < 24) -> ∃ n' m' x',Q4 (fun _=>True) (wP 5) yv (js.map PV.int) [some s,some (.int k),some (.int c),some (.int n),some (.int m),x] st = .nx [some s,some (.int k),some (.int c),some (.int n'),some (.int m'),x'] st
 |[],n,m,x,_=>⟨n,m,x,by rw [List.map_nil,jK trivial]⟩
 |j::js,n,m,x,h=>by
  have hj:=h j AH;have e:yv [some s,some (.int k),some (.int c),some (.int n),some (.int m),some (.int j)] st = .nx [some s,some (.int k),some (.int c),some (.int (n * 2147483647 + (m * 48271 + 7 * j * j + 11 * k + 1) % 2147483647)),some (.int ((m * 48271 + 7 * j * j + 11 * k + 1) % 2147483647)),some (.int j)] st:=by
   unfold yv;rw [Qy (WI (p := .int ((m * 48271 + 7 * j * j + 11 * k + 1) % 2147483647)) (st':=st) ?_),WI (p := .int (n * 2147483647 + (m * 48271 + 7 * j * j + 11 * k + 1) % 2147483647)) (st':=st) ?_]
   ·rfl
   ·rw [QS (p := .int (n * 2147483647)) (q := .int ((m * 48271 + 7 * j * j + 11 * k + 1) % 2147483647)) (st':=st) (st2:=st) ?_ rfl]
    ·rfl
    ·rw [QS (p := .int n) (q := .int 2147483647) rfl rfl,qBd ⟨by decide,by decide⟩]
   ·rw [QS (p := .int (m * 48271 + 7 * j * j + 11 * k + 1)) (q := .int 2147483647) (st':=st) (st2:=st) ?_ rfl,JT (by decide)]
    rw [QS (p := .int (m * 48271 + 7 * j * j + 11 * k)) (q := .int 1) (st':=st) (st2:=st) ?_ rfl]
    ·rfl
    rw [QS (p := .int (m * 48271 + 7 * j * j)) (q := .int (11 * k)) (st':=st) (st2:=st) ?_ ?_]
    ·rfl
    ·rw [QS (p := .int (m * 48271)) (q := .int (7 * j * j)) (st':=st) (st2:=st) ?_ ?_]
     ·rfl
     ·rw [QS (p := .int m) (q := .int 48271) rfl rfl,qBd ⟨by decide,by decide⟩]
     ·rw [QS (p := .int (7 * j)) (q := .int j) (st':=st) (st2:=st) ?_ rfl,qBd ⟨by omega,by omega⟩]
      rw [QS (p := .int 7) (q := .int j) rfl rfl,qCh ⟨by decide,by decide⟩]
    ·rw [QS (p := .int 11) (q := .int k) rfl rfl,qCh ⟨by decide,by decide⟩]
  obtain ⟨n',m',x',e2⟩:=qAn js _ _ (some (.int j)) fun q hq=>h q (AE _ hq);exact ⟨n',m',x',by rw [An,YN (r1:=[some s,some (.int k),some (.int c),some (.int n),some (.int m),some (.int j)]) trivial rfl e];exact e2⟩
theorem qIR {a:Ad} {ns:List Int} {k:Int} {st:qB} (h0:0≤k):∃ x,Z7 a [.lst (ns.map PV.int),.int k] st = .ok (.ref st.length) (st++[.l [.int x]]):=by
 obtain ⟨c,hc⟩:=qHC (a:=a) (ns:=ns) (k:=k) (st:=st) h0;have h1:QJ 2 (qI (zc a) (qA (qD 0) (qA (qD 1) qC))) (QZ 6 [.lst (ns.map PV.int),.int k]) st = .nx [some (.lst (ns.map PV.int)),some (.int k),some (.int c),none,none,none] st:=by
  rw [WI (p := .int c) (st':=st) ?_]
  ·rfl
  ·rw [WY (l:=[.lst (ns.map PV.int),.int k]) rfl];exact hc
 have ht:∀ b:Bool,(c % 2==0)=b->vTB (qN gEq (qN ZM (qD 2) (vC (.int 2))) (vC (.int 0))) [some (.lst (ns.map PV.int)),some (.int k),some (.int c),none,none,none] st = .ok b st:=by intro b hb;refine Y7 ?_;rw [QS (p := .int (c % 2)) (q := .int 0) (st':=st) (st2:=st) ?_ rfl,zV,hb];rw [QS (p := .int c) (q := .int 2) rfl rfl,JT (by decide)]
 cases hb:(c % 2==0) with
 |true =>
  refine ⟨c / 2,We rfl ?_⟩;unfold yT;rw [Qy h1,qBE (p := .ref st.length) (st':=st++[.l [.int (c / 2)]]) ?_];rw [qIS (ht true hb),qCH (l:=[.int (c / 2)]) (st':=st) ?_];unfold Q6;rw [QE (p := .int (c / 2)) (l:=[]) (st':=st) (st2:=st) ?_ rfl]
  ·rfl
  ·rw [QS (p := .int c) (q := .int 2) rfl rfl,qIT (by decide) (by decide)]
 |false =>
  obtain ⟨n',m',x',e⟩:=qAn (s := .lst (ns.map PV.int)) (c:=c) (k:=k) (st:=st) (wC 24) 0 (c % 2147483647) none fun j hj=>upto_mem.mp hj;refine ⟨n',We rfl ?_⟩;unfold yT;rw [Qy h1,Qy (r':=[some (.lst (ns.map PV.int)),some (.int k),some (.int c),none,none,none]) (st':=st) (by rw [qD6 (ht false hb)];rfl),Qy (WI (p := .int 0) (st':=st) rfl),Qy (WI (p := .int (c % 2147483647)) (st':=st) ?_),Qy (r':=[some (.lst (ns.map PV.int)),some (.int k),some (.int c),some (.int n'),some (.int m'),x']) (st':=st) ?_,qCH (l:=[.int n']) (st':=st) rfl]
  ·rw [qFg (w:=⟨(wC 24).map PV.int,fun _=>True⟩) (st':=st) rfl];exact e
  ·rw [QS (p := .int c) (q := .int 2147483647) rfl rfl,JT (by decide)]
section
variable {F G:FS} {f fb:FE} {fl:FL} {t u:FT} {r:qv} {st st' st2:qB} {p q:PV} {l m:List PV}
theorem Z5 {fa:FA} (h:fa r st = .ok l st') (hl:l.length≤sizeLine):Q6 fa r st = .ok l st':=by unfold Q6;rw [h];show (if l.length≤sizeLine then _ else _)=_;rw [AF hl]
theorem JF (h:f r st = .ok p st') (h2:fb r st' = .ok q st2) (e1:asL st2 p=some l) (e2:asL st2 q=some m) (hl:l.length + m.length≤sizeLine):z8 f fb r st = .ok (l++m) st2:=by unfold z8;rw [h];show (fb r st').bind _=_;rw [h2];show (match asL st2 p with |some l=>_ |none=>_)=_;rw [e1];dsimp only;rw [e2];dsimp only;rw [AF hl]
theorem qJ3 {b:Bool} (h:t r st = .ok false st') (h2:u r st' = .ok b st2):zD t u r st = .ok b st2:=by unfold zD;rw [h];exact h2
end
theorem Qp {a:Ad} {x d:Addr} {fs:List (Str×Int)} {st:qB} {r:qv} {b:Bool} (h0:r[0]? = some (some (.exc x fs))) (hx:x∈wg a) (hd:d∈a.kinds) (hb:(x==d)=b):qI (QN (kit a)) (qA (qD 0) (qA (vC (.fn d)) qC)) r st = .ok (.bl b) st:=by
 rw [WY (l:=[.exc x fs,.fn d]) (st':=st) (by unfold qA qD;rw [h0];rfl)]
 show (match (if x∈wg a∧d∈a.kinds then some (x==d) else none) with |some b=>Rs.ok (PV.bl b) st |none => .no)=_;rw [AF ⟨hx,hd⟩,hb]
theorem qEi {a:Ad} {x:Addr} {fs:List (Str×Int)} {st:qB} {r:qv} (h0:r[0]? = some (some (.exc x fs))) (hx:x∈wg a):qI (QN (kit a)) (qA (qD 0) (qA (vC (.ty "ValueError")) qC)) r st = .ok (.bl true) st:=by
 rw [WY (l:=[.exc x fs,.ty "ValueError"]) (st':=st) (by unfold qA qD;rw [h0];rfl)]
 show (match (if x∈wg a ∧ "ValueError" = "ValueError" then some true else none) with |some b=>Rs.ok (PV.bl b) st |none => .no)=_;rw [AF ⟨hx,rfl⟩]
theorem jU (a:Ad):a.Z1∈a.kinds∧a.Z2∈a.kinds∧a.Z3∈a.kinds∧a.Z4∈a.kinds∧a.Z5∈a.kinds∧a.Z6∈a.kinds∧a.Z7∈a.kinds∧a.Z8∈a.kinds∧a.Z9∈a.kinds∧a.Z10∈a.kinds∧a.Z11∈a.kinds:=by unfold Ad.kinds;simp
theorem Jc {bs:List PV} {F:PV->PV} {st:qB} {r:qv} (h1:r[1]? = some (some (.lst bs))) (hl:bs.length≤11) (hb:∀ p∈bs,∃ b,p = .bl b) (hF:∀ b,F (.bl b) = .int (if b then 1 else 0)) :
  vFz (qt [] 1 (QA (qD 1)) (qq 0) [] [] (qI qFI (qA (qD 0) qC))) r st = .ok (.lst (bs.map F)) st:=by
 refine zh ?_;rw [QI (w:=⟨bs,fun _=>True⟩) (F:=F) (by unfold QA qD;rw [h1];rfl) trivial (wt (by show bs.length≤100000;omega)) fun p hp => ?_]
 obtain ⟨b,rfl⟩:=hb p hp;refine ⟨[some (.bl b)],rfl,?_⟩;rw [hF];cases b <;> rfl
def bit:PV->PV
 | .bl b => .int (if b then 1 else 0)
 |p=>p
theorem itN {L:Int} {r:qv} {st s1:qB} {f:FA} (h1:0≤L) (h2:L≤1000) (hf:f r st = .ok [.int L] s1):(Qn f) r st = .ok ⟨(wC L).map PV.int,fun _=>True⟩ s1:=by unfold Qn;rw [hf];show jj [.int L] s1=_;unfold jj;dsimp only;rw [AF (by omega),qEG]
theorem wR {x m:Int} (h:0 < m):0≤x % m∧x % m < m:=⟨Int.emod_nonneg _ (by omega),Int.emod_lt_of_pos _ h⟩
def yD (r c w L:Int):List qh:=(wC L).map fun k=>if w=0 then (r,c + k) else (r + k,c)
theorem qHS {r c w L:Int}:(yD r c w L).length=L.toNat:=by unfold yD;rw [AI,wH]
theorem qEW {a:Ad} {r c w L:Int} {st:qB} (h1:0≤L) (h2:L≤1000):ZD a [.tup [.int r,.int c,.int w],.int L] st = .ok (.lst ((yD r c w L).map cP)) st:=by
 refine qu rfl ?_;unfold yX;refine qd (qFa (r1:=[some (.tup [.int r,.int c,.int w]),some (.int L),some (.int r),some (.int c),some (.int w)]) rfl rfl) ?_;have hl:(wC L).length≤sizeLine:=by rw [wH];exact wt (by omega)
 by_cases hw:w=0
 ·subst hw;let F:PV->PV:=fun p=>match p with | .int k=>cP (r,c + k) |_ => .non;have e:(yD r c 0 L).map cP=((wC L).map PV.int).map F:=by unfold yD;rw [A1,A1];exact CC fun k _=>by show cP (if (0:Int)=0 then (r,c + k) else (r + k,c))=_;rw [AF rfl];rfl
  rw [e];refine qy (QU (we (qV (p := .int 0) (q := .int 0) rfl rfl (by rw [zV,Aj]))) (qx (wk (QI (F:=F) (itN h1 h2 rfl) trivial (by rw [AI];exact hl) fun p hp => ?_))))
  obtain ⟨k,_,rfl⟩:=Ag.mp hp;exact ⟨[some (.int r),some (.int c),some (.int k)],rfl,WA (qL rfl (qL (qV rfl rfl zg) qa)) (sz rfl)⟩
 ·let F:PV->PV:=fun p=>match p with | .int k=>cP (r + k,c) |_ => .non;have e:(yD r c w L).map cP=((wC L).map PV.int).map F:=by unfold yD;rw [A1,A1];exact CC fun k _=>by show cP (if w=0 then (r,c + k) else (r + k,c))=_;rw [AJ hw];rfl
  rw [e];refine qd (QV (we (qV (p := .int w) (q := .int 0) rfl rfl (by rw [zV,AG.mpr hw]))) rfl) (qx (wk (QI (F:=F) (itN h1 h2 rfl) trivial (by rw [AI];exact hl) fun p hp => ?_)))
  obtain ⟨k,_,rfl⟩:=Ag.mp hp;exact ⟨[some (.int c),some (.int r),some (.int k)],rfl,WA (qL (qV rfl rfl zg) (qL rfl qa)) (sz rfl)⟩
theorem qEK {d:qh->Bool} {l:List qh} {c:PV->Bool} (h:∀ x∈l,c (cP x)=d x):(l.map cP).filter c=(l.filter d).map cP:=by
 induction l with
 |nil=>rfl
 |cons x l ih =>rw [An,List.filter_cons,List.filter_cons,h x AH,ih fun y hy=>h y (AE _ hy)];cases d x <;> rfl
def unC:PV->qh
 | .tup [.int x,.int y]=>(x,y)
 |_=>(0,0)
theorem qEX {st j:qB} {b:SO} {i:Nat} {o:SO} (h:j[i]? = some o):(st++b::j)[st.length + 1 + i]? = some o:=by rw [Aw (by omega),show st.length + 1 + i - st.length=i + 1 by omega,List.getElem?_cons_succ];exact h
def In8 (c:qh):Prop:=0≤c.1∧c.1≤7∧0≤c.2∧c.2≤7
theorem qFh {a:Ad} {st j:qB} {x L:Int} {i:Nat} {fd:List qh} {x3 x4 x5 x6 x7:Option PV} (hL1:2≤L) (hL2:L≤5) (hj:j[i]? = some (.l (fd.map cP))) (hf:fd.length≤40) (hb:∀ c∈fd,In8 c) :
  ∃ (y:Int) (g:qB) (i':Nat) (fd':List qh) (y4 y5 y6 y7:Option PV),(j++g)[i']? = some (.l (fd'.map cP))∧(i'=i∨i'=j.length)∧fd'.length≤40∧fd'≠[]∧(∀ c∈fd',In8 c) ∧
   Zs a [some (.ref st.length),some (.int L),some (.ref (st.length + 1 + i)),x3,x4,x5,x6,x7] (st ++ .l [.int x]::j) = .nx [some (.ref st.length),some (.int L),some (.ref (st.length + 1 + i')),x3,y4,y5,y6,y7] (st ++ .l [.int y]::(j++g)):=by
 have t1:=QG (a:=a) (st:=st) (j:=j) (x:=x) (m:=2) (by decide) (by decide)
 have hw:=wR (x:=x) (m:=2) (by decide)
 generalize hwe:x % 2=w at t1 hw;have hm:∃ m1 m2:Int,0 < m1∧m1 < 10∧0 < m2∧m2 < 10∧((w=0∧m1≤8∧m2≤9 - L)∨(w≠0∧m1≤9 - L∧m2≤8))∧(∀ s,qN zM (vC (.int 9)) (qN gIx (vFz (Q6 (qA (vC (.int 1)) (qA (qD 1) qC)))) (qD 4)) [some (.ref st.length),some (.int L),some (.ref (st.length + 1 + i)),x3,some (.int w),x5,x6,x7] s = .ok (.int m1) s) ∧ ∀ s,qN zM (vC (.int 9)) (qN gIx (vFz (Q6 (qA (qD 1) (qA (vC (.int 1)) qC)))) (qD 4)) [some (.ref st.length),some (.int L),some (.ref (st.length + 1 + i)),x3,some (.int w),x5,x6,x7] s = .ok (.int m2) s:=by
  have:w=0∨w=1:=by omega
  rcases this with rfl |rfl
  ·exact ⟨9 - 1,9 - L,by decide,by decide,by omega,by omega,.inl ⟨rfl,by omega,by omega⟩,fun s=>rfl,fun s=>rfl⟩
  ·exact ⟨9 - L,9 - 1,by omega,by omega,by decide,by decide,.inr ⟨by decide,by omega,by omega⟩,fun s=>rfl,fun s=>rfl⟩
 obtain ⟨m1,m2,hm1,hm1',hm2,hm2',hmw,e1,e2⟩:=hm;have hrow:=wR (x:=x / 2) hm1;have hcol:=wR (x:=x / 2 / m1) hm2;have t2:=QG (a:=a) (st:=st) (j:=j) (x:=x / 2) (m:=m1) hm1 (by omega)
 have t3:=QG (a:=a) (st:=st) (j:=j) (x:=x / 2 / m1) (m:=m2) hm2 (by omega)
 generalize x / 2 % m1=row at t2 hrow;generalize x / 2 / m1 % m2=col at t3 hcol;generalize x / 2 / m1 / m2=y at t3;have hS:(st++SO.l [.int y]::j)[st.length + 1 + i]? = some (.l (fd.map cP)):=qEX hj;have hcl:(yD row col w L).length=L.toNat:=qHS;let C:List qh:=yD row col w L;have hCb:∀ c∈C,In8 c:=fun c hc=>by
  obtain ⟨k,hk,rfl⟩:=Ag.mp (show c∈yD row col w L from hc)
  have:=upto_mem.mp hk
  unfold In8;by_cases h0:w=0
  ·rw [AF h0];dsimp only;omega
  ·rw [AJ h0];dsimp only;omega
 have hd:qt [2] 1 (QA (qD 7)) (qq 1) [(vTB (qN (gIn false) (qD 1) (qD 0)))] [] (qD 1) [some (.ref st.length),some (.int L),some (.ref (st.length + 1 + i)),x3,some (.int w),some (.int row),some (.int col),some (.lst (C.map cP))] (st ++ .l [.int y]::j) = .ok ((C.filter fun c=>decide (c∈fd)).map cP) (st ++ .l [.int y]::j):=by
  rw [jh (w:=⟨C.map cP,fun _=>True⟩) (c:=fun p=>decide (unC p∈fd)) (ze rfl) trivial (by rw [AI];show (yD row col w L).length≤_;rw [hcl];exact wt (by omega)) fun p hp => ?_]
  ·rw [qEK (d:=fun c=>decide (c∈fd)) fun x _=>rfl]
  ·obtain ⟨c,_,rfl⟩:=Ag.mp hp;exact ⟨[some (.ref (st.length + 1 + i)),some (cP c)],rfl,we (qV rfl rfl (qLM (qAp hS))),rfl⟩
 have pre:∀ {o:RS},(Q9 (Yn (vTB (qN gEq (vFz (qt [2] 1 (QA (qD 7)) (qq 1) [(vTB (qN (gIn false) (qD 1) (qD 0)))] [] (qD 1))) (vFz (Q6 qC)))) (vTB (qN gLe (qN Q3 (qI w8 (qA (qD 2) qC)) (qD 1)) (vC (.int 40))))) (W9 2 (z8 (qD 2) (qD 7))) Qo) [some (.ref st.length),some (.int L),some (.ref (st.length + 1 + i)),x3,some (.int w),some (.int row),some (.int col),some (.lst (C.map cP))] (st ++ .l [.int y]::j)=o ->
   Zs a [some (.ref st.length),some (.int L),some (.ref (st.length + 1 + i)),x3,x4,x5,x6,x7] (st ++ .l [.int x]::j)=o:=fun {o} h=>by unfold Zs;refine qd (wN (p := .int w) (qK (l:=[.ref st.length,.int 2]) rfl t1)) ?_;refine qd (qHl (p := .int row) (q := .int col) (qL (qK (l:=[.ref st.length,.int m1]) (qL rfl (qL (e1 _) qa)) t2) (qL (qK (l:=[.ref st.length,.int m2]) (qL rfl (qL (e2 _) qa)) t3) qa))) ?_;exact qd (wN (p := .lst (C.map cP)) (qK (l:=[.tup [.int row,.int col,.int w],.int L]) rfl (qEW (by omega) (by omega)))) h
 have hE:vTB (qN gEq (vFz (qt [2] 1 (QA (qD 7)) (qq 1) [(vTB (qN (gIn false) (qD 1) (qD 0)))] [] (qD 1))) (vFz (Q6 qC))) [some (.ref st.length),some (.int L),some (.ref (st.length + 1 + i)),x3,some (.int w),some (.int row),some (.int col),some (.lst (C.map cP))] (st ++ .l [.int y]::j) = .ok (C.filter fun c=>decide (c∈fd)).isEmpty (st ++ .l [.int y]::j) :=
  we (qV (wk hd) rfl eq_nil)
 have hL40:vTB (qN gLe (qN Q3 (qI w8 (qA (qD 2) qC)) (qD 1)) (vC (.int 40))) [some (.ref st.length),some (.int L),some (.ref (st.length + 1 + i)),x3,some (.int w),some (.int row),some (.int col),some (.lst (C.map cP))] (st ++ .l [.int y]::j) = .ok (decide ((fd.length:Int) + L≤40)) (st ++ .l [.int y]::j) :=
  we (qV (qV (qK (qL rfl qa) (Wr (qAp hS) (by rw [AI]))) rfl zg) rfl qJw)
 by_cases hc:(C.filter fun c=>decide (c∈fd)).isEmpty=true∧(fd.length:Int) + L≤40
 ·rw [hc.1] at hE;rw [Af hc.2] at hL40;refine ⟨y,[.l ((fd++C).map cP)],j.length,fd++C,some (.int w),some (.int row),some (.int col),some (.lst (C.map cP)),by simp,.inr rfl,?_,?_,fun c hc=>(Ax.mp hc).elim (hb c) (hCb c),pre ?_⟩
  ·rw [AZ];show fd.length + (yD row col w L).length≤40;rw [hcl];omega
  ·intro z;have z1:=B5 List.length z;rw [AZ,B3] at z1;have z2:C.length=L.toNat:=hcl;omega
  ·refine QU (qCX hE hL40) ?_;have hcat:z8 (qD 2) (qD 7) [some (.ref st.length),some (.int L),some (.ref (st.length + 1 + i)),x3,some (.int w),some (.int row),some (.int col),some (.lst (C.map cP))] (st ++ .l [.int y]::j) = .ok ((fd++C).map cP) (st ++ .l [.int y]::j):=by rw [jR (l:=fd.map cP) (m:=C.map cP) rfl rfl (qBN hS) rfl (by rw [AI,AI];show fd.length + (yD row col w L).length≤_;rw [hcl];exact wt (by omega)),CF]
   rw [qBc hcat];have e1:(st++SO.l [.int y]::j).length=st.length + 1 + j.length:=by simp;omega
   rw [e1,A4];rfl
 ·refine ⟨y,[],i,fd,some (.int w),some (.int row),some (.int col),some (.lst (C.map cP)),by rw [BA];exact hj,.inl rfl,hf,?_,hb,pre ?_⟩
  ·intro z;subst z;refine hc ⟨?_,by show (0:Int) + L≤40;omega⟩
   rw [List.isEmpty_iff,List.filter_eq_nil_iff];intro c _;simp
  ·rw [BA];by_cases h1:(C.filter fun c=>decide (c∈fd)).isEmpty=true
   ·rw [h1] at hE;rw [AX (fun z=>hc ⟨h1,z⟩)] at hL40;exact QV (qCX hE hL40) rfl
   ·rw [show (C.filter fun c=>decide (c∈fd)).isEmpty=false by cases h:(C.filter fun c=>decide (c∈fd)).isEmpty with |true=>exact absurd h h1 |false=>rfl] at hE
    exact QV (qGp hE) rfl
theorem Je {a:Ad} {st:qB} {L:Int} (hL1:2≤L) (hL2:L≤5):∀ (n0:Nat) (ks:List PV) (x:Int) (j:qB) (i:Nat) (fd:List qh) (x3 x4 x5 x6 x7:Option PV),j[i]? = some (.l (fd.map cP))->n0≤i->fd.length≤40->(∀ c∈fd,In8 c)->(ks≠[]∨fd≠[]) ->
  ∃ (y:Int) (g:qB) (i':Nat) (fd':List qh) (y3 y4 y5 y6 y7:Option PV),(j++g)[i']? = some (.l (fd'.map cP))∧n0≤i'∧fd'.length≤40∧fd'≠[]∧(∀ c∈fd',In8 c) ∧
   Q4 (fun _=>True) (wP 3) (Zs a) ks [some (.ref st.length),some (.int L),some (.ref (st.length + 1 + i)),x3,x4,x5,x6,x7] (st ++ .l [.int x]::j) = .nx [some (.ref st.length),some (.int L),some (.ref (st.length + 1 + i')),y3,y4,y5,y6,y7] (st ++ .l [.int y]::(j++g))
 |n0,[],x,j,i,fd,x3,x4,x5,x6,x7,hj,hi,hf,hb,h=>⟨x,[],i,fd,x3,x4,x5,x6,x7,by rw [BA];exact hj,hi,hf,h.resolve_left (fun z=>z rfl),hb,by rw [BA];exact WR trivial⟩
 |n0,k::ks,x,j,i,fd,x3,x4,x5,x6,x7,hj,hi,hf,hb,h=>by
  obtain ⟨y,g,i1,fd1,y4,y5,y6,y7,h1,hi1,h2,h3,hb1,h4⟩:=qFh (a:=a) (st:=st) (j:=j) (x:=x) (x3:=some k) (x4:=x4) (x5:=x5) (x6:=x6) (x7:=x7) hL1 hL2 hj hf hb;obtain ⟨z,g2,i2,fd2,z3,z4,z5,z6,z7,q1,qi,q2,q3,qb,q4⟩:=Je (a:=a) hL1 hL2 n0 ks y (j++g) i1 fd1 (some k) y4 y5 y6 y7 h1 (by have:=(AQ.mp hj).1;omega) h2 hb1 (.inr h3)
  refine ⟨z,g++g2,i2,fd2,z3,z4,z5,z6,z7,by rw [← A4];exact q1,qi,q2,q3,qb,?_⟩
  rw [← A4];exact ZZ trivial rfl h4 q4
theorem qBD {a:Ad} {st j:qB} {x L:Int} (hL1:2≤L) (hL2:L≤5):∃ (y:Int) (g:qB) (i:Nat) (fd:List qh),(j++g)[i]? = some (.l (fd.map cP))∧j.length≤i∧fd.length≤40∧fd≠[]∧(∀ c∈fd,In8 c) ∧
  yE a [.ref st.length,.int L] (st ++ .l [.int x]::j) = .ok (.ref (st.length + 1 + i)) (st ++ .l [.int y]::(j++g)):=by
 have hn:=wR (x:=x) (m:=8) (by decide)
 have t1:=QG (a:=a) (st:=st) (j:=j++[.l []]) (x:=x) (m:=8) (by decide) (by decide)
 obtain ⟨y,g,i,fd,y3,y4,y5,y6,y7,h1,hi,h2,h3,hb,h4⟩:=Je (a:=a) (st:=st) hL1 hL2 j.length ((wC (1 + x % 8)).map PV.int) (x / 8) (j++[.l []]) j.length [] none none none none none (by simp) (AM _) (BV _) (fun c hc=>(AR hc).elim) (.inl (fun z=>by
  have:=B5 List.length z
  rw [AI,wH] at this;simp at this;omega))
 refine ⟨y,[.l []]++g,i,fd,by rw [← A4];exact h1,hi,h2,h3,hb,qu rfl ?_⟩
 unfold jc;have e1:(st++SO.l [.int x]::j).length=st.length + 1 + j.length:=by simp;omega
 have e2:st++SO.l [.int x]::j++[SO.l []]=st++SO.l [.int x]::(j++[.l []]):=by rw [A4];rfl
 refine qd (r':=[some (.ref st.length),some (.int L),some (.ref (st.length + 1 + j.length)),none,none,none,none,none]) (s1:=st++SO.l [.int x]::(j++[.l []])) ?_ ?_
 ·rw [qBc (l:=[]) (s1:=st ++ .l [.int x]::j) rfl,e1,e2];rfl
 rw [← A4 j];exact qd (YD (itN (L:=1 + x % 8) (by omega) (by omega) (qL (qV rfl (qK (l:=[.ref st.length,.int 8]) rfl t1) zg) qa)) h4) (qx rfl)
theorem qH6 {l:List qh} {n:Nat} (hn:n≤1000):wl (l.map cP) none (some (n:Int))=(l.take n).map cP:=by
 have h1:HT.sIx (l.map cP).length 0 none=0:=rfl;have h2:HT.sIx (l.map cP).length (l.map cP).length (some (n:Int))=min n (l.map cP).length:=HT.sIx_nat _ _ _;unfold wl;rw [h1,h2,List.drop_zero,Nat.sub_zero,List.map_take];by_cases h:n≤(l.map cP).length
 ·rw [Nat.min_eq_left h]
 ·rw [Nat.min_eq_right (by omega),List.take_length,CH (by omega)]
theorem qFn {fi:FI} {g:FG} {t:FT} {f:FE} {r r':qv} {st s1 s2:qB} {p q:PV} (h:g p r=some r') (ht:t r' st = .ok true s1) (hf:f r' s1 = .ok q s2):Qi ⟨fi,g,[t]⟩ (Q7 [] f) r p st = .ok [q] s2:=by unfold Qi;show (match g p r with |none=>_ |some r'=>_)=_;rw [h];show (wf [t] r' st).bind _=_;unfold wf wf;rw [ht];show (Q7 [] f) r' s1=_;unfold Q7;rw [hf];rfl
theorem qEb {fi:FI} {g:FG} {t:FT} {f:FE} {r r':qv} {st s1:qB} {p:PV} (h:g p r=some r') (ht:t r' st = .ok false s1):Qi ⟨fi,g,[t]⟩ (Q7 [] f) r p st = .ok [] s1:=by unfold Qi;show (match g p r with |none=>_ |some r'=>_)=_;rw [h];show (wf [t] r' st).bind _=_;unfold wf wf;rw [ht];rfl
theorem jd {a:Ad} {st j:qB} {fi:FI} {rw' wy:Int} (hw:0≤wy∧wy≤2):∀ (ks:List Int) (x:Int),∃ (cs:List qh) (y:Int),cs.length≤ks.length∧(∀ c∈cs,c.1=rw'∧c.2∈ks)∧(cs.map (·.2)).Sublist ks∧qz (fun _=>True) (Qi ⟨fi,qq 3,[qGW a]⟩ (Q7 [] (QT (qA (qD 0) (qA (qD 3) qC)))) [some (.int rw'),some (.int wy),some (.ref st.length),none]) (ks.map PV.int) (st ++ .l [.int x]::j) = .ok (cs.map cP) (st ++ .l [.int y]::j)
 |[],x=>⟨[],x,AM _,fun c hc=>(AR hc).elim,List.Sublist.slnil,zz trivial⟩
 |k::ks,x=>by
  have hm:∃ m:Int,0 < m∧m < 10 ∧ ∀ s,qN gIx (vFz (Q6 (qA (vC (.int 4)) (qA (vC (.int 1)) (qA (vC (.int 9)) qC))))) (qD 1) [some (.int rw'),some (.int wy),some (.ref st.length),some (.int k)] s = .ok (.int m) s:=by
   have:wy=0∨wy=1∨wy=2:=by omega
   rcases this with rfl |rfl |rfl
   ·exact ⟨4,by decide,by decide,fun s=>rfl⟩
   ·exact ⟨1,by decide,by decide,fun s=>rfl⟩
   ·exact ⟨9,by decide,by decide,fun s=>rfl⟩
  obtain ⟨m,hm1,hm2,em⟩:=hm;have key:∃ (b:Bool) (y:Int),qGW a [some (.int rw'),some (.int wy),some (.ref st.length),some (.int k)] (st ++ .l [.int x]::j) = .ok b (st ++ .l [.int y]::j):=by
   by_cases h1:wy=1
   ·exact ⟨true,x,Wy (we (qV (p := .int wy) (q := .int 1) rfl rfl (by rw [zV,BK.mpr h1])))⟩
   ·have t1:=QG (a:=a) (st:=st) (j:=j) (x:=x) (m:=m) hm1 (by omega)
    exact ⟨_,x / m,QY (we (qV (p := .int wy) (q := .int 1) rfl rfl (by rw [zV,AG.mpr h1]))) (we (qV (qK (l:=[.ref st.length,.int m]) (qL rfl (qL (em _) qa)) t1) rfl rfl))⟩
  obtain ⟨b,y,eb⟩:=key;obtain ⟨cs,z,h1,h2,h4,h3⟩:=jd (a:=a) (st:=st) (j:=j) (fi:=fi) (rw':=rw') hw ks y;cases b with
  |true =>
   refine ⟨(rw',k)::cs,z,by rw [AU,AU];omega,fun c hc => ?_,by rw [An];exact h4.cons₂ _,?_⟩
   ·rcases AD.mp hc with q |q
    ·rw [q];exact ⟨rfl,AH⟩
    ·exact ⟨(h2 c q).1,AE _ (h2 c q).2⟩
   ·exact yt (l:=[cP (rw',k)]) trivial (qFn (r':=[some (.int rw'),some (.int wy),some (.ref st.length),some (.int k)]) rfl eb (WA (qL rfl (qL rfl qa)) (sz rfl))) h3
  |false =>
   refine ⟨cs,z,by rw [AU];omega,fun c hc=>⟨(h2 c hc).1,AE _ (h2 c hc).2⟩,h4.cons _,?_⟩
   exact yt (l:=[]) trivial (qEb (r':=[some (.int rw'),some (.int wy),some (.ref st.length),some (.int k)]) rfl eb) h3
def qDv (a:Ad):FS:=(QJ 5 (vFz (z8 (qD 5) (vFz (qt [6,2,0] 1 (Qn (qA (qD 4) qC)) (qq 3) [qGW a] [] (QT (qA (qD 0) (qA (qD 3) qC))))))))
theorem qB4 {a:Ad} {st j:qB} {L wy hi wd:Int} (hw:0≤wy∧wy≤2) (hwd:1≤wd∧wd≤8):∀ (rs:List Int) (x:Int) (fd:List qh) (x6:Option PV),fd.length + 8 * rs.length≤64->rs.Pairwise (· < ·)->(∀ c∈fd,∀ r∈rs,c.1 < r)->fd.Pairwise clt->(∀ c∈fd,In8 c)->(∀ r∈rs,0≤r∧r≤7) ->
  ∃ (y:Int) (fd':List qh) (y6:Option PV),fd'.length≤64∧fd'.Pairwise clt∧(∀ c∈fd',In8 c) ∧
   Q4 (fun _=>True) (wP 6) (qDv a) (rs.map PV.int) [some (.ref st.length),some (.int L),some (.int wy),some (.int hi),some (.int wd),some (.lst (fd.map cP)),x6] (st ++ .l [.int x]::j) = .nx [some (.ref st.length),some (.int L),some (.int wy),some (.int hi),some (.int wd),some (.lst (fd'.map cP)),y6] (st ++ .l [.int y]::j)
 |[],x,fd,x6,h,_,_,hp,hb,_=>⟨x,fd,x6,by simpa using h,hp,hb,WR trivial⟩
 |r::rs,x,fd,x6,h,hr,hlt,hp,hb,hrb=>by
  obtain ⟨cs,y,h1,h2,h4,h3⟩:=jd (a:=a) (st:=st) (j:=j) (fi:=Qn (qA (qD 4) qC)) (rw':=r) hw (wC wd) x;rw [wH] at h1;have hcl:cs.length≤8:=by omega
  rw [AU] at h;have hr0:=hrb r AH;have hcs:cs.Pairwise clt:=by
   have p1:(wC wd).Pairwise (· < ·):=by unfold wC;rw [Br];exact List.pairwise_lt_range.imp fun h=>by omega
   have p2:(cs.map (·.2)).Pairwise (· < ·):=p1.sublist h4;rw [Br] at p2;refine List.Pairwise.imp_of_mem ?_ p2;intro c d hc hd hcd;exact .inr ⟨by rw [(h2 c hc).1,(h2 d hd).1],hcd⟩
  have hcat:(fd++cs).Pairwise clt:=List.pairwise_append.mpr ⟨hp,hcs,fun c hc d hd => .inl (by rw [(h2 d hd).1];exact hlt c hc r AH)⟩
  have hbb:∀ c∈fd++cs,In8 c:=fun c hc=>by
   rcases Ax.mp hc with q |q
   ·exact hb c q
   ·have:=upto_mem.mp (h2 c q).2
    have:=(h2 c q).1
    unfold In8;omega
  obtain ⟨z,fd',y6,q1,q2,q3,q4⟩:=qB4 (a:=a) (st:=st) (j:=j) (L:=L) (hi:=hi) hw hwd rs y (fd++cs) (some (.int r)) (by rw [AZ];omega) (BQ.mp hr).2 (fun c hc r' hr'=>by
   rcases Ax.mp hc with q |q
   ·exact hlt c q r' (AE _ hr')
   ·rw [(h2 c q).1];exact (BQ.mp hr).1 r' hr') hcat hbb fun r' hr'=>hrb r' (AE _ hr')
  refine ⟨z,fd',y6,q1,q2,q3,?_⟩;refine ZZ (r1:=[some (.ref st.length),some (.int L),some (.int wy),some (.int hi),some (.int wd),some (.lst (fd.map cP)),some (.int r)]) trivial rfl ?_ q4;unfold qDv;refine wN (p := .lst ((fd++cs).map cP)) (wk ?_);rw [CF];exact jR (l:=fd.map cP) (m:=cs.map cP) rfl (wk (j7 (w:=⟨(wC wd).map PV.int,fun _=>True⟩) (itN (by omega) (by omega) rfl) h3 (by rw [AI];exact wt (by omega)))) rfl rfl (by rw [AI,AI];exact wt (by omega))
structure Flr (F:List qh):Prop where
 len:F.length≤40
 ris:F.Pairwise clt
 b:∀ c∈F,In8 c
theorem jW {a:Ad} {st j:qB} {fi:FI}:∀ (ks:List PV) (x:Int),∃ (cs:List qh) (y:Int),cs.length=ks.length∧(∀ c∈cs,In8 c)∧qz (fun _=>True) (Qi ⟨fi,qq 1,[]⟩ (Q7 [] (QT (qA (qI (qQ a) (qA (qD 0) (qA (vC (.int 8)) qC))) (qA (qI (qQ a) (qA (qD 0) (qA (vC (.int 8)) qC))) qC)))) [some (.ref st.length),none]) ks (st ++ .l [.int x]::j) = .ok (cs.map cP) (st ++ .l [.int y]::j)
 |[],x=>⟨[],x,rfl,fun c hc=>(AR hc).elim,zz trivial⟩
 |k::ks,x=>by
  have t1:=QG (a:=a) (st:=st) (j:=j) (x:=x) (m:=8) (by decide) (by decide)
  have t2:=QG (a:=a) (st:=st) (j:=j) (x:=x / 8) (m:=8) (by decide) (by decide)
  obtain ⟨cs,y,h1,h2,h3⟩:=jW (a:=a) (st:=st) (j:=j) (fi:=fi) ks (x / 8 / 8);refine ⟨(x % 8,x / 8 % 8)::cs,y,by rw [AU,AU,h1],fun c hc => ?_,?_⟩
  ·rcases AD.mp hc with q |q
   ·rw [q];show 0≤x % 8∧x % 8≤7∧0≤x / 8 % 8∧x / 8 % 8≤7;omega
   ·exact h2 c q
  ·exact yt (l:=[cP (x % 8,x / 8 % 8)]) trivial (qBX (r':=[some (.ref st.length),some k]) rfl (WA (qL (qK (l:=[.ref st.length,.int 8]) rfl t1) (qL (qK (l:=[.ref st.length,.int 8]) rfl t2) qa)) (sz rfl))) h3
theorem qHp {st j:qB} {b o:SO} {i:Nat} (h:i < j.length):(st++b::j).set (st.length + 1 + i) o=st++b::j.set i o:=by rw [CN _ _ (by omega),show st.length + 1 + i - st.length=i + 1 by omega,List.set_cons_succ]
theorem qI8 {l:List qh} {k:Nat}:(l.map cP).eraseIdx k=(l.eraseIdx k).map cP:=by
 induction l generalizing k with
 |nil=>rfl
 |cons c l ih =>
  cases k with
  |zero=>rfl
  |succ k=>rw [An,List.eraseIdx_cons_succ,List.eraseIdx_cons_succ,An,ih]
theorem qFy {a:Ad} {st j:qB} {x L:Int} (hL1:2≤L) (hL2:L≤5):∃ (F:List qh) (y:Int) (g:qB),Flr F∧W7 a [.ref st.length,.int L] (st ++ .l [.int x]::j) = .ok (.tup (F.map cP)) (st ++ .l [.int y]::(j++g)):=by
 have t1:=QG (a:=a) (st:=st) (j:=j) (x:=x) (m:=6) (by decide) (by decide)
 have t2:=QG (a:=a) (st:=st) (j:=j) (x:=x / 6) (m:=8) (by decide) (by decide)
 have t3:=QG (a:=a) (st:=st) (j:=j) (x:=x / 6 / 8) (m:=8) (by decide) (by decide)
 have hwy:=wR (x:=x) (m:=6) (by decide)
 have hhi:=wR (x:=x / 6) (m:=8) (by decide)
 have hwd:=wR (x:=x / 6 / 8) (m:=8) (by decide)
 generalize x % 6=wy at t1 hwy;generalize x / 6 % 8=hi at t2 hhi;generalize x / 6 / 8 % 8=wd at t3 hwd;generalize x / 6 / 8 / 8=y at t3;have pre:∀ {F:PV} {s:qB} {R:FS},R [some (.ref st.length),some (.int L),some (.int wy),some (.int (1 + hi)),some (.int (1 + wd)),none,none] (st ++ .l [.int y]::j) = .rt F s->qU (QJ 2 (qI (qQ a) (qA (qD 0) (qA (vC (.int 6)) qC)))) (qU (jI 3 4 (qA (qN Q3 (vC (.int 1)) (qI (qQ a) (qA (qD 0) (qA (vC (.int 8)) qC)))) (qA (qN Q3 (vC (.int 1)) (qI (qQ a) (qA (qD 0) (qA (vC (.int 8)) qC)))) qC))) R) (QZ 7 [.ref st.length,.int L]) (st ++ .l [.int x]::j) = .rt F s:=fun {F s R} h=>by refine qd (wN (p := .int wy) (qK (l:=[.ref st.length,.int 6]) rfl t1)) ?_;exact qd (qHl (p := .int (1 + hi)) (q := .int (1 + wd)) (qL (qV rfl (qK (l:=[.ref st.length,.int 8]) rfl t2) zg) (qL (qV rfl (qK (l:=[.ref st.length,.int 8]) rfl t3) zg) qa))) h
 by_cases h2:wy > 2
 ·obtain ⟨z,g,i,fd,h3,hij,h4,h5,hb,h6⟩:=qBD (a:=a) (st:=st) (j:=j) (x:=y) hL1 hL2;have hS:∀ q,(st++SO.l [.int q]::(j++g))[st.length + 1 + i]? = some (.l (fd.map cP)):=fun q=>qEX h3;by_cases h7:wy=5
  ·subst h7;have hfl:0 < (fd.length:Int):=by
    have:fd.length≠0:=fun q=>h5 (List.eq_nil_of_length_eq_zero q)
    omega
   have t4:=QG (a:=a) (st:=st) (j:=j++g) (x:=z) (m:=(fd.length:Int)) hfl (by omega)
   have hk:=wR (x:=z) hfl;generalize z % (fd.length:Int)=k at t4 hk;generalize z / (fd.length:Int)=z2 at t4;have hil:i < (j++g).length:=(AQ.mp h3).1;have hkl:k.toNat < fd.length:=by omega
   have hpop:YZ (qD 5) (qI (qQ a) (qA (qD 0) (qA (qI w8 (qA (qD 5) qC)) qC))) [some (.ref st.length),some (.int L),some (.int 5),some (.int (1 + hi)),some (.int (1 + wd)),some (.ref (st.length + 1 + i)),none] (st ++ .l [.int z]::(j++g)) = .ok (cP fd[k.toNat]) (st ++ .l [.int z2]::((j++g).set i (.l ((fd.eraseIdx k.toNat).map cP)))):=by rw [qHM (n:=st.length + 1 + i) (p:=cP fd[k.toNat]) (l:=fd.map cP) rfl (qJv (hS z)) (qK (l:=[.ref st.length,.int (fd.length:Int)]) (qL rfl (qL (qK (qL rfl qa) (Wr (qAp (hS z)) (by rw [AI]))) qa)) t4) (hS z2) ⟨hk.1,by omega⟩ (by rw [BG,AL hkl];rfl),qHp hil,qI8]
   have t5:=QG (a:=a) (st:=st) (j:=(j++g).set i (.l ((fd.eraseIdx k.toNat).map cP))) (x:=z2) (m:=2) (by decide) (by decide)
   have hn:=wR (x:=z2) (m:=2) (by decide)
   obtain ⟨cs,y2,c1,c2,c3⟩:=jW (a:=a) (st:=st) (j:=(j++g).set i (.l ((fd.eraseIdx k.toNat).map cP))) (fi:=Qn (qA (qI (qQ a) (qA (qD 0) (qA (vC (.int 2)) qC))) qC)) ((wC (z2 % 2)).map PV.int) (z2 / 2);rw [AI,wH] at c1;have hS2:∀ q,(st++SO.l [.int q]::(j++g).set i (.l ((fd.eraseIdx k.toNat).map cP)))[st.length + 1 + i]? = some (.l ((fd.eraseIdx k.toNat).map cP)):=fun q=>qEX (A8 hil);have hel:(fd.eraseIdx k.toNat).length=fd.length - 1:=by rw [List.length_eraseIdx_of_lt hkl]
   have hall:(fd.eraseIdx k.toNat++cs).length≤40:=by rw [AZ,hel];omega
   refine ⟨Zi (fd.eraseIdx k.toNat++cs),y2,g.set (i - j.length) (.l ((fd.eraseIdx k.toNat).map cP)),⟨Ac (qAM _) hall,y8 _,fun c hc => ?_⟩,qu rfl ?_⟩
   ·rcases Ax.mp (mem_sddC.mp hc) with q |q
    ·exact hb c (List.mem_of_mem_eraseIdx q)
    ·exact c2 c q
   ·unfold W5;refine pre (qy (QU (we (qV rfl rfl (JU (by decide)))) ?_))
    refine qd (wN (p := .ref (st.length + 1 + i)) (qK (l:=[.ref st.length,.int L]) rfl h6)) ?_;have hcat:z8 (qD 5) (vFz (qt [0] 1 (Qn (qA (qI (qQ a) (qA (qD 0) (qA (vC (.int 2)) qC))) qC)) (qq 1) [] [] (QT (qA (qI (qQ a) (qA (qD 0) (qA (vC (.int 8)) qC))) (qA (qI (qQ a) (qA (qD 0) (qA (vC (.int 8)) qC))) qC))))) [some (.ref st.length),some (.int L),some (.int 5),some (.int (1 + hi)),some (.int (1 + wd)),some (.ref (st.length + 1 + i)),none] (st ++ .l [.int z2]::((j++g).set i (.l ((fd.eraseIdx k.toNat).map cP)))) = .ok ((fd.eraseIdx k.toNat++cs).map cP) (st ++ .l [.int y2]::((j++g).set i (.l ((fd.eraseIdx k.toNat).map cP)))):=by rw [CF];exact jR (l:=(fd.eraseIdx k.toNat).map cP) (m:=cs.map cP) rfl (wk (j7 (w:=⟨(wC (z2 % 2)).map PV.int,fun _=>True⟩) (itN (by omega) (by omega) (qL (qK (l:=[.ref st.length,.int 2]) rfl t5) qa)) c3 (by rw [AI];exact wt (by omega)))) (qBN (hS2 _)) rfl (by rw [AI,AI];exact wt (by rw [hel];omega))
    refine qd (r':=[some (.ref st.length),some (.int L),some (.int 5),some (.int (1 + hi)),some (.int (1 + wd)),some (.lst ((fd.eraseIdx k.toNat++cs).map cP)),none]) (QU (we (qV rfl rfl rfl)) (qd (yB hpop) (wN (wk hcat)))) ?_;rw [show (j++g).set i (.l ((fd.eraseIdx k.toNat).map cP))=j++g.set (i - j.length) (.l ((fd.eraseIdx k.toNat).map cP)) from CN _ _ hij];exact qx (qK (l:=[.lst ((Zi (fd.eraseIdx k.toNat++cs)).map cP)]) (qL (qBR rfl (qBI rfl (by omega))) qa) (W0 rfl))
  ·refine ⟨Zi fd,z,g,⟨Ac (qAM _) h4,y8 _,fun c hc=>hb c (mem_sddC.mp hc)⟩,qu rfl ?_⟩;unfold W5;refine pre (qy (QU (we (qV rfl rfl (JU h2))) ?_));refine qd (wN (p := .ref (st.length + 1 + i)) (qK (l:=[.ref st.length,.int L]) rfl h6)) ?_;refine qd (QV (we (qV (p := .int wy) (q := .int 5) rfl rfl (by rw [zV,AG.mpr h7]))) rfl) ?_
   exact qx (qK (l:=[.lst ((Zi fd).map cP)]) (qL (qBR rfl (qBI (qAp (hS z)) (by omega))) qa) (W0 rfl))
 ·obtain ⟨z,fd,y6,f1,f2,f3,f4⟩:=qB4 (a:=a) (st:=st) (j:=j) (L:=L) (hi:=1 + hi) (wy:=wy) (wd:=1 + wd) (by omega) (by omega) (wC (1 + hi)) y [] none (by rw [B3,wH];omega) (by
   unfold wC;rw [Br];exact List.pairwise_lt_range.imp fun h=>by omega) (fun c hc=>(AR hc).elim) List.Pairwise.nil (fun c hc=>(AR hc).elim) fun r hr=>by have:=upto_mem.mp hr;omega
  have fin:∀ (n:Nat) (s:qB),n≤40->vIf (vTB (qN gLt (qD 2) (vC (.int 2)))) (qBn (qD 5) Qv (Qg (vC (.int 40)))) (qBn (qD 5) Qv (Qg (qI (qQ a) (qA (qD 0) (qA (vC (.int 8)) qC))))) [some (.ref st.length),some (.int L),some (.int wy),some (.int (1 + hi)),some (.int (1 + wd)),some (.lst (fd.map cP)),y6] (st ++ .l [.int z]::j) = .ok (.lst ((fd.take n).map cP)) s->W7 a [.ref st.length,.int L] (st ++ .l [.int x]::j) = .ok (.tup ((fd.take n).map cP)) s:=fun n s hn h=>by
   refine qu rfl ?_;unfold W5;refine pre (qd (QV (we (qV rfl rfl (qBJ h2))) rfl) (qd (wN (p := .lst []) rfl) (qd (YD (itN (L:=1 + hi) (by omega) (by omega) rfl) f4) ?_)))
   exact qx (qK (qL h qa) (W0 rfl))
  have ok:∀ n:Nat,n≤40->Flr (fd.take n):=fun n hn=>⟨by rw [Bl];omega,f2.sublist (List.take_sublist _ _),fun c hc=>f3 c (CV hc)⟩
  by_cases h8:wy < 2
  ·refine ⟨fd.take 40,z,[],ok 40 (AM _),?_⟩;rw [BA];refine fin 40 _ (AM _) (qHP (we (qV rfl rfl (qIO h8))) ?_);rw [qHY (l:=fd.map cP) rfl rfl (wp rfl) rfl,← qH6 (n:=40) (by decide)]
   rfl
  ·have t4:=QG (a:=a) (st:=st) (j:=j) (x:=z) (m:=8) (by decide) (by decide)
   have hn:=wR (x:=z) (m:=8) (by decide)
   refine ⟨fd.take (z % 8).toNat,z / 8,[],ok _ (by omega),?_⟩
   rw [BA];refine fin _ _ (by omega) (qGj (we (qV rfl rfl (qIB h8))) ?_)
   rw [qHY (l:=fd.map cP) rfl rfl (wp (qK (l:=[.ref st.length,.int 8]) rfl t4)) rfl,← qH6 (n:=(z % 8).toNat) (by omega),show (((z % 8).toNat:Nat):Int)=z % 8 by omega]
theorem Jd {a:Ad} (hd:Dist a) {st:qB} {fs:List (Str×Int)}:wq a [.exc a.Z2 fs] st = .ok (.str "! number") st:=by
 have nd:=hd.nd;unfold Ad.kinds at nd;simp only [BD,AD,AR,not_or,BC] at nd;obtain ⟨⟨n0_1,n0_2,n0_3,n0_4,n0_5,n0_6,n0_7,n0_8,n0_9,n0_10⟩,⟨n1_2,n1_3,n1_4,n1_5,n1_6,n1_7,n1_8,n1_9,n1_10⟩,⟨n2_3,n2_4,n2_5,n2_6,n2_7,n2_8,n2_9,n2_10⟩,⟨n3_4,n3_5,n3_6,n3_7,n3_8,n3_9,n3_10⟩,⟨n4_5,n4_6,n4_7,n4_8,n4_9,n4_10⟩,⟨n5_6,n5_7,n5_8,n5_9,n5_10⟩,⟨n6_7,n6_8,n6_9,n6_10⟩,⟨n7_8,n7_9,n7_10⟩,⟨n8_9,n8_10⟩,n9_10,_⟩:=nd;obtain ⟨m0,m1,m2,m3,m4,m5,m6,m7,m8,m9,m10⟩:=jU a;have hx:a.Z2∈wg a:=by unfold wg;simp
 refine We rfl ?_;unfold ZY;rw [Qy (WI (p := .lst [.bl false,.bl true,.bl false,.bl false]) (st':=st) (r:=QZ 3 [.exc a.Z2 fs]) (zh (Z5 (QE (Qp rfl hx m0 (AG.mpr (Ne.symm n0_1))) (QE (Qp rfl hx m1 (Aj _)) (QE (Qp rfl hx m2 (AG.mpr n1_2)) (QE (Qp rfl hx m3 (AG.mpr n1_3)) rfl)))) (by decide)))),
  Qy (WI (p := .lst [.bl false,.bl true,.bl false,.bl false,.bl false,.bl false,.bl false,.bl false]) (st':=st) (zh (JF (l:=[.bl false,.bl true,.bl false,.bl false]) (p := .lst [.bl false,.bl true,.bl false,.bl false]) (st':=st) rfl (zh (Z5 (QE (Qp rfl hx m4 (AG.mpr n1_4)) (QE (Qp rfl hx m5 (AG.mpr n1_5)) (QE (Qp rfl hx m6 (AG.mpr n1_6)) (QE (Qp rfl hx m7 (AG.mpr n1_7)) rfl)))) (by decide))) rfl rfl (by decide)))),
  Qy (WI (p := .lst [.bl false,.bl true,.bl false,.bl false,.bl false,.bl false,.bl false,.bl false,.bl false,.bl false,.bl false]) (st':=st) (zh (JF (l:=[.bl false,.bl true,.bl false,.bl false,.bl false,.bl false,.bl false,.bl false]) (p := .lst [.bl false,.bl true,.bl false,.bl false,.bl false,.bl false,.bl false,.bl false]) (st':=st) rfl (zh (Z5 (QE (Qp rfl hx m8 (AG.mpr n1_8)) (QE (Qp rfl hx m9 (AG.mpr n1_9)) (QE (Qp rfl hx m10 (AG.mpr n1_10)) rfl))) (by decide))) rfl rfl (by decide))))]
 rw [Qy (r':=[some (.exc a.Z2 fs),some (.lst [.bl false,.bl true,.bl false,.bl false,.bl false,.bl false,.bl false,.bl false,.bl false,.bl false,.bl false]),none]) (st':=st) ?_,Qy (F:=QJ 2 _) (r':=[some (.exc a.Z2 fs),some (.lst [.bl false,.bl true,.bl false,.bl false,.bl false,.bl false,.bl false,.bl false,.bl false,.bl false,.bl false]),some (.lst [.str "length",.str "number",.str "bars",.str "box",.str "weights",.str "sorts",.str "turn",.str "place",.str "text",.str "row",.str "many"])]) (st':=st) rfl]
 ·rfl
 ·show Q9 _ _ _ [some (.exc a.Z2 fs),some (.lst [.bl false,.bl true,.bl false,.bl false,.bl false,.bl false,.bl false,.bl false,.bl false,.bl false,.bl false]),none] st=_;rw [qD6 (st':=st) (qJ3 (st':=st) (qA0 (b:=true) (yN (qEi rfl hx))) (Y7 ?_))]
  ·rfl
  ·rw [QS (p := .int 1) (q := .int 1) (st':=st) (st2:=st) ?_ rfl]
   ·rfl
   ·rw [WY (l:=[.lst [.int 0,.int 1,.int 0,.int 0,.int 0,.int 0,.int 0,.int 0,.int 0,.int 0,.int 0]]) (st':=st) (QE (st':=st) (Jc (F:=bit) (bs:=[.bl false,.bl true,.bl false,.bl false,.bl false,.bl false,.bl false,.bl false,.bl false,.bl false,.bl false]) rfl (by decide) (by simp) fun b=>rfl) rfl)]
    rfl
theorem qDj {a:Ad} (hd:Dist a) {st:qB} {fs:List (Str×Int)}:wq a [.exc a.Z11 fs] st = .ok (.str "! many") st:=by
 have nd:=hd.nd;unfold Ad.kinds at nd;simp only [BD,AD,AR,not_or,BC] at nd;obtain ⟨⟨n0_1,n0_2,n0_3,n0_4,n0_5,n0_6,n0_7,n0_8,n0_9,n0_10⟩,⟨n1_2,n1_3,n1_4,n1_5,n1_6,n1_7,n1_8,n1_9,n1_10⟩,⟨n2_3,n2_4,n2_5,n2_6,n2_7,n2_8,n2_9,n2_10⟩,⟨n3_4,n3_5,n3_6,n3_7,n3_8,n3_9,n3_10⟩,⟨n4_5,n4_6,n4_7,n4_8,n4_9,n4_10⟩,⟨n5_6,n5_7,n5_8,n5_9,n5_10⟩,⟨n6_7,n6_8,n6_9,n6_10⟩,⟨n7_8,n7_9,n7_10⟩,⟨n8_9,n8_10⟩,n9_10,_⟩:=nd;obtain ⟨m0,m1,m2,m3,m4,m5,m6,m7,m8,m9,m10⟩:=jU a;have hx:a.Z11∈wg a:=by unfold wg;simp
 refine We rfl ?_;unfold ZY;rw [Qy (WI (p := .lst [.bl false,.bl false,.bl false,.bl false]) (st':=st) (r:=QZ 3 [.exc a.Z11 fs]) (zh (Z5 (QE (Qp rfl hx m0 (AG.mpr (Ne.symm n0_10))) (QE (Qp rfl hx m1 (AG.mpr (Ne.symm n1_10))) (QE (Qp rfl hx m2 (AG.mpr (Ne.symm n2_10))) (QE (Qp rfl hx m3 (AG.mpr (Ne.symm n3_10))) rfl)))) (by decide)))),
  Qy (WI (p := .lst [.bl false,.bl false,.bl false,.bl false,.bl false,.bl false,.bl false,.bl false]) (st':=st) (zh (JF (l:=[.bl false,.bl false,.bl false,.bl false]) (p := .lst [.bl false,.bl false,.bl false,.bl false]) (st':=st) rfl (zh (Z5 (QE (Qp rfl hx m4 (AG.mpr (Ne.symm n4_10))) (QE (Qp rfl hx m5 (AG.mpr (Ne.symm n5_10))) (QE (Qp rfl hx m6 (AG.mpr (Ne.symm n6_10))) (QE (Qp rfl hx m7 (AG.mpr (Ne.symm n7_10))) rfl)))) (by decide))) rfl rfl (by decide)))),
  Qy (WI (p := .lst [.bl false,.bl false,.bl false,.bl false,.bl false,.bl false,.bl false,.bl false,.bl false,.bl false,.bl true]) (st':=st) (zh (JF (l:=[.bl false,.bl false,.bl false,.bl false,.bl false,.bl false,.bl false,.bl false]) (p := .lst [.bl false,.bl false,.bl false,.bl false,.bl false,.bl false,.bl false,.bl false]) (st':=st) rfl (zh (Z5 (QE (Qp rfl hx m8 (AG.mpr (Ne.symm n8_10))) (QE (Qp rfl hx m9 (AG.mpr (Ne.symm n9_10))) (QE (Qp rfl hx m10 (Aj _)) rfl))) (by decide))) rfl rfl (by decide))))]
 rw [Qy (r':=[some (.exc a.Z11 fs),some (.lst [.bl false,.bl false,.bl false,.bl false,.bl false,.bl false,.bl false,.bl false,.bl false,.bl false,.bl true]),none]) (st':=st) ?_,Qy (F:=QJ 2 _) (r':=[some (.exc a.Z11 fs),some (.lst [.bl false,.bl false,.bl false,.bl false,.bl false,.bl false,.bl false,.bl false,.bl false,.bl false,.bl true]),some (.lst [.str "length",.str "number",.str "bars",.str "box",.str "weights",.str "sorts",.str "turn",.str "place",.str "text",.str "row",.str "many"])]) (st':=st) rfl]
 ·rfl
 ·show Q9 _ _ _ [some (.exc a.Z11 fs),some (.lst [.bl false,.bl false,.bl false,.bl false,.bl false,.bl false,.bl false,.bl false,.bl false,.bl false,.bl true]),none] st=_;rw [qD6 (st':=st) (qJ3 (st':=st) (qA0 (b:=true) (yN (qEi rfl hx))) (Y7 ?_))]
  ·rfl
  ·rw [QS (p := .int 1) (q := .int 1) (st':=st) (st2:=st) ?_ rfl]
   ·rfl
   ·rw [WY (l:=[.lst [.int 0,.int 0,.int 0,.int 0,.int 0,.int 0,.int 0,.int 0,.int 0,.int 0,.int 1]]) (st':=st) (QE (st':=st) (Jc (F:=bit) (bs:=[.bl false,.bl false,.bl false,.bl false,.bl false,.bl false,.bl false,.bl false,.bl false,.bl false,.bl true]) rfl (by decide) (by simp) fun b=>rfl) rfl)]
    rfl
theorem Ya {a:Ad} {st:qB} {n:Nat} {i:Int}:qf (n + 1) a [.int i,.int i] st = .ok (.bl true) st:=by
 refine qu (N:=2) (B:=Ql a (qf n a)) rfl ?_;unfold Ql;refine qd (QV (qj (qK (l:=[.int i,.tup [.ty "tuple",.ty "list"]]) rfl rfl)) rfl) (qx ?_);unfold zy;rw [qV (p := .int i) (q := .int i) (s1:=st) (s2:=st) (R := .ok (.bl true) st) rfl rfl (by rw [zV,Aj])]
 rfl
theorem yO {f:PV->Bool} {l:List PV} {st:qB}:Ze [.lst (l.map fun p => .bl (f p))] st = .ok (.bl (l.all f)) st:=by unfold Ze qAo;simp only [asL];rw [qAF];show Rs.ok (PV.bl ((l.map f).all id)) st=_;rw [List.all_map];rfl
theorem Ja:∀ {l m:List PV},l.length=m.length->(Wl l m).length=l.length
 |[],[],_=>rfl
 |[],_::_,h=>by cases h
 |_::_,[],h=>by cases h
 |p::l,q::m,h=>by rw [Wl,AU,AU,Ja (by simpa using h)]
theorem jT {a:Ad} {st:qB} {n:Nat} {l m:List PV} (hlm:l.length=m.length) (hl:l.length≤1000) (h:∀ z∈Wl l m,∃ u v,z = .tup [u,v]∧qf (n + 1) a [u,v] st = .ok (.bl true) st):qf (n + 2) a [.tup l,.tup m] st = .ok (.bl true) st:=by
 refine qu (N:=2) (B:=Ql a (qf (n + 1) a)) rfl ?_;unfold Ql;refine qy (QU (qj (qK (l:=[.tup m,.tup [.ty "tuple",.ty "list"]]) rfl rfl)) (qd (QV (QY (we (qV (qK (l:=[.tup l,.ty "tuple"]) rfl rfl) (qK (l:=[.tup m,.ty "tuple"]) rfl rfl) rfl)) (we (qV (qK (l:=[.tup l,.ty "list"]) rfl rfl) (qK (l:=[.tup m,.ty "list"]) rfl rfl) rfl))) rfl) (qx ?_)));unfold zy;rw [qV (p := .int (l.length:Int)) (q := .int (l.length:Int)) (s1:=st) (s2:=st) (R := .ok (.bl true) st) (qK (l:=[.tup l]) rfl (Wr rfl rfl)) (qK (l:=[.tup m]) rfl (Wr rfl (by rw [hlm]))) (by rw [zV,Aj])]
 show qI Ze _ _ _=_;refine qK (l:=[.lst ((Wl l m).map fun p => .bl ((fun _=>true) p))]) (qL (wk (QI (w:=⟨Wl l m,fun s=>WG s (.tup l)=some l∧WG s (.tup m)=some m⟩) (F:=fun _ => .bl true) rfl ⟨rfl,rfl⟩ (by show (Wl l m).length≤_;rw [Ja hlm];exact Ac hl (by decide)) fun z hz => ?_)) qa) ?_
 ·obtain ⟨u,v,rfl,e⟩:=h z hz;exact ⟨[some u,some v],rfl,qK (l:=[u,v]) rfl e⟩
 ·rw [yO];congr 2;rw [Au];intro p _;rfl
theorem qCZ {a:Ad} {st:qB} {n:Nat} {b:Bool}:qf (n + 1) a [.bl b,.bl b] st = .ok (.bl true) st:=by refine qu (N:=2) (B:=Ql a (qf n a)) rfl ?_;unfold Ql;refine qd (QV (qj (qK (l:=[.bl b,.tup [.ty "tuple",.ty "list"]]) rfl rfl)) rfl) (qx ?_);cases b <;> rfl
theorem j9 {l:List PV}:∀ z∈Wl l l,∃ u,u∈l∧z = .tup [u,u]:=by
 induction l with
 |nil=>intro z hz;cases hz
 |cons p l ih =>
  intro z hz;rw [Wl] at hz;rcases AD.mp hz with rfl |hz
  ·exact ⟨p,AH,rfl⟩
  ·obtain ⟨u,hu,e⟩:=ih z hz;exact ⟨u,AE _ hu,e⟩
theorem qCG {c:qh} (h:clt c c):False:=by unfold clt at h;omega
theorem qDy {c d:qh} (h:clt c d) (h2:clt d c):False:=by unfold clt at h h2;omega
theorem qFT:∀ {F G:List qh},F.Pairwise clt->G.Pairwise clt->(∀ c,c∈F ↔ c∈G)->F=G
 |[],[],_,_,_=>rfl
 |[],d::G,_,_,h=>(AR ((h d).mpr AH)).elim
 |c::F,[],_,_,h=>(AR ((h c).mp AH)).elim
 |c::F,d::G,hF,hG,h=>by
  have hF':=BQ.mp hF;have hG':=BQ.mp hG;have e:c=d:=by
   rcases AD.mp ((h c).mp AH) with q |q
   ·exact q
   ·rcases AD.mp ((h d).mpr AH) with z |z
    ·exact z.symm
    ·exact (qDy (hF'.1 d z) (hG'.1 c q)).elim
  subst e;congr 1;refine qFT hF'.2 hG'.2 fun x=>⟨fun hx => ?_,fun hx => ?_⟩
  ·rcases AD.mp ((h x).mp (AE _ hx)) with q |q
   ·subst q;exact (qCG (hF'.1 x hx)).elim
   ·exact q
  ·rcases AD.mp ((h x).mpr (AE _ hx)) with q |q
   ·subst q;exact (qCG (hG'.1 x hx)).elim
   ·exact q
theorem qGD {F:List qh}:F.Pairwise clt ↔ F=Zi F :=
 ⟨fun h=>qFT h (y8 F) fun c=>mem_sddC.symm,fun h=>by rw [h];exact y8 F⟩
def okP:PV->Bool
 | .tup l=>Nat.ble l.length 1000&&l.all wU
 |p=>wU p
theorem WN {v:PV} (h:okP v=true):wU v=true:=by cases v <;> first |rfl |exact h
def okV:PV->Bool
 | .tup l=>Nat.ble l.length 1000&&l.all okP
 |p=>wU p
theorem ZK {v:PV} (h:okV v=true):wU v=true:=by cases v <;> first |rfl |exact h
theorem ZH {a:Ad} {v:PV} {st:qB} (h:wU v=true):QN (kit a) [v,.ty "tuple"] st = .ok (.bl (match v with | .tup _=>true |_=>false)) st:=by cases v <;> first |rfl |cases h
theorem jn {f g:FE} {r:qv} {st s1:qB} {R:Rs PV} (h:f r st = .ok (.bl true) s1) (h2:g r s1=R):zy f g r st=R:=by unfold zy;rw [h];exact h2
theorem Yt {f g:FE} {r:qv} {st s1:qB} (h:f r st = .ok (.bl false) s1):zy f g r st = .ok (.bl false) s1:=by unfold zy;rw [h];rfl
def wj:PV->Bool
 | .tup [x,y]=>qk 0 7 x&&qk 0 7 y
 |_=>false
theorem JY {l:List PV} {n:Int} {st:qB}:gNe (.int (l.length:Int)) (.int n) st = .ok (.bl (!decide ((l.length:Int)=n))) st:=by
 show Rs.ok (PV.bl (!((l.length:Int)==n))) st=_;by_cases h:(l.length:Int)=n
 ·rw [Af h,BK.mpr h]
 ·rw [AX h,AG.mpr h]
theorem qGY {a:Ad} {v:PV} {st:qB} (h:okP v=true):zL a [v] st = .ok (.bl (wj v)) st:=by
 have e1:=ZH (a:=a) (st:=st) (WN h);cases v with
 |tup l =>
  have e1:QN (kit a) [.tup l,.ty "tuple"] st = .ok (.bl true) st:=e1;have h:(Nat.ble l.length 1000&&l.all wU)=true:=h;rw [Ab,Au] at h;have e2:vTB (qN gNe (qI w8 (qA (qD 0) qC)) (vC (.int 2))) (QZ 1 [.tup l]) st = .ok (!decide ((l.length:Int)=2)) st:=we (qV (qK (l:=[.tup l]) rfl (Wr rfl rfl)) rfl JY);by_cases q:(l.length:Int)=2
  ·rw [Af q] at e2;have e:=QI (caps:=[]) (n:=1) (fi:=QA (qD 0)) (g:=qq 0) (f:=qI (QH a) (qA (qD 0) (qA (vC (.int 0)) (qA (vC (.int 7)) qC)))) (r:=QZ 1 [.tup l]) (st:=st) (w:=⟨l,fun _=>True⟩) (F:=fun p => .bl (qk 0 7 p)) (Qm rfl) trivial (sz h.1) fun p hp=>⟨[some p],rfl,qK rfl (zn (h.2 p hp))⟩;refine qu rfl (qd (QV (QY (w_not (b:=true) (qj (qK (l:=[.tup l,.ty "tuple"]) rfl e1))) e2) rfl) (qx (qK (qL (wk e) qa) ?_)));rw [yO]
   match l,q with
   |[x,y],_=>show Rs.ok (PV.bl (qk 0 7 x&&(qk 0 7 y&&true))) st=_;rw [Ck];rfl
  ·rw [AX q] at e2;refine (qu rfl (qy (QU (QY (w_not (b:=true) (qj (qK (l:=[.tup l,.ty "tuple"]) rfl e1))) e2) (qx rfl)))).trans ?_
   have:wj (.tup l)=false:=by
    unfold wj;split
    ·rename_i x y e;cases e;exact absurd rfl q
    ·rfl
   rw [this]
 |_=>first |(cases h;done) |exact qu rfl (qy (QU (Wy (w_not (b:=false) (qj (qK (l:=[_,.ty "tuple"]) rfl e1)))) (qx rfl)))
def j6 (c d:qh):Bool:=if c.1=d.1 then decide (c.2 < d.2) else decide (c.1 < d.1)
theorem cltB_iff {c d:qh}:j6 c d=true ↔ clt c d:=by
 unfold j6 clt;by_cases h:c.1=d.1
 ·rw [AF h,BR];omega
 ·rw [AJ h,BR];omega
theorem qKJ {c d:qh} {st:qB}:qCn (cP c) (cP d) st = .ok (.bl (j6 c d)) st:=by
 show (if Yu (cP c) (cP d)=true then (match plts [.int c.1,.int c.2] [.int d.1,.int d.2] with |some r=>Rs.ok (PV.bl r) st |none => .no) else .no)=_;have h0:Yu (cP c) (cP d)=true:=rfl;rw [AF h0]
 have:plts [.int c.1,.int c.2] [.int d.1,.int d.2]=some (j6 c d):=by
  show (if (c.1==d.1)=true then (if (c.2==d.2)=true then some false else some (decide (c.2 < d.2))) else some (decide (c.1 < d.1)))=_;unfold j6;by_cases h:c.1=d.1
  ·rw [AF (BK.mpr h),AF h];by_cases h2:c.2=d.2
   ·rw [AF (BK.mpr h2),AX (by omega)]
   ·rw [AJ (by rw [BK];exact h2)]
  ·rw [AJ (by rw [BK];exact h),AJ h]
 rw [this]
theorem qIJ {F:List qh} {i:Nat} {st:qB} (h:i < F.length):gIx (.tup (F.map cP)) (.int (i:Int)) st = .ok (cP F[i]) st:=by
 refine qID rfl ?_;unfold L2.atI;rw [j5 (by omega) (by rw [AI];omega),Option.bind_some,BW,BG,AL h]
 rfl
theorem itR {lo hi:Int} {r:qv} {st s1:qB} {f:FA} (h1:0≤lo) (h2:lo≤1000) (h3:0≤hi) (h4:hi≤1000) (hf:f r st = .ok [.int lo,.int hi] s1):(qAL f) r st = .ok ⟨yC lo hi,fun _=>True⟩ s1:=by unfold qAL;rw [hf];show jp [.int lo,.int hi] s1=_;unfold jp;dsimp only;rw [AF ⟨by omega,by omega,by omega,by omega⟩]
def adj (F:List qh) (p:PV):Bool:=match p with
 | .int k=>j6 (F.getD (k - 1).toNat (0,0)) (F.getD k.toNat (0,0))
 |_=>false
def qAZ (F:List qh):Bool:=(yC 1 (F.length:Int)).all (adj F)
theorem yQ {F:List qh} {i:Nat} (h:i < F.length):F.getD i (0,0)=F[i]:=by rw [Al,AL h];rfl
theorem qCs {a:Ad} {F:List qh} {st:qB} (h40:F.length≤40):ZF a [.tup (F.map cP)] st = .ok (.bl (qAZ F)) st:=by
 have e:=QI (caps:=[0]) (n:=1) (fi:=qAL (qA (vC (.int 1)) (qA (qI w8 (qA (qD 0) qC)) qC))) (g:=qq 1) (f:=qN qCn (qN gIx (qD 0) (qN zM (qD 1) (vC (.int 1)))) (qN gIx (qD 0) (qD 1))) (r:=QZ 1 [.tup (F.map cP)]) (st:=st) (w:=⟨yC 1 (F.length:Int),fun _=>True⟩) (F:=fun p => .bl (adj F p)) (itR (by decide) (by decide) (by omega) (by omega) (qL rfl (qL (qK (l:=[.tup (F.map cP)]) rfl (Wr rfl (by rw [AI]))) qa))) trivial (by unfold yC;rw [AI,List.length_range];exact wt (by omega)) fun p hp=>by
  obtain ⟨i,hi,rfl⟩:=Ag.mp hp;have hi:=BI.mp hi;have h0:i < F.length:=by omega
  have h1:i + 1 < F.length:=by omega
  have g1:gIx (.tup (F.map cP)) (.int (1 + (i:Int) - 1)) st = .ok (cP F[i]) st:=by rw [show (1:Int) + (i:Int) - 1=(i:Int) by omega];exact qIJ h0
  have g2:gIx (.tup (F.map cP)) (.int (1 + (i:Int))) st = .ok (cP F[i + 1]) st:=by rw [show (1:Int) + (i:Int)=((i + 1:Nat):Int) by omega];exact qIJ h1
  refine ⟨[some (.tup (F.map cP)),some (.int (1 + (i:Int)))],rfl,(qV (qV rfl (qV rfl rfl YJ) g1) (qV rfl rfl g2) qKJ).trans ?_⟩;show _=Rs.ok (PV.bl (j6 (F.getD (1 + (i:Int) - 1).toNat (0,0)) (F.getD (1 + (i:Int)).toNat (0,0)))) st;rw [show (1 + (i:Int) - 1).toNat=i by omega,show (1 + (i:Int)).toNat=i + 1 by omega,yQ h0,yQ h1]
 exact qu rfl (qx (qK (qL (wk e) qa) yO))
theorem qI9 {a b c:qh} (h:clt a b) (h2:clt b c):clt a c:=by unfold clt at *;omega
theorem qDo {F:List qh}:qAZ F=true ↔ F.Pairwise clt:=by
 have key:qAZ F=true ↔ ∀ i,(h:i + 1 < F.length)->clt F[i] F[i + 1]:=by
  unfold qAZ;rw [Au];constructor
  ·intro h i hi
   have:=h (.int (1 + (i:Int))) (Ag.mpr ⟨i,BI.mpr (by omega),rfl⟩)
   have this:j6 (F.getD (1 + (i:Int) - 1).toNat (0,0)) (F.getD (1 + (i:Int)).toNat (0,0))=true:=this;rw [show (1 + (i:Int) - 1).toNat=i by omega,show (1 + (i:Int)).toNat=i + 1 by omega,yQ (by omega),yQ hi] at this
   exact cltB_iff.mp this
  ·intro h p hp;obtain ⟨i,hi,rfl⟩:=Ag.mp hp;have hi:=BI.mp hi;have h1:i + 1 < F.length:=by omega
   show j6 (F.getD (1 + (i:Int) - 1).toNat (0,0)) (F.getD (1 + (i:Int)).toNat (0,0))=true;rw [show (1 + (i:Int) - 1).toNat=i by omega,show (1 + (i:Int)).toNat=i + 1 by omega,yQ (by omega),yQ h1]
   exact cltB_iff.mpr (h i h1)
 rw [key,List.pairwise_iff_getElem];constructor
 ·intro h i j hi hj hij;obtain ⟨k,rfl⟩:∃ k,j=i + 1 + k:=⟨j - i - 1,by omega⟩
  induction k with
  |zero=>exact h i hj
  |succ k ih=>exact qI9 (ih (by omega) (by omega)) (h (i + 1 + k) hj)
 ·intro h i hi;exact h i (i + 1) (by omega) hi (by omega)
theorem Wt {lo hi:Int} {p:PV} (h:qk lo hi p=true):∃ i,p = .int i∧lo≤i∧i≤hi:=by
 cases p with
 |int i =>have h:(decide (lo≤i)&&decide (i≤hi))=true:=h;rw [Ab] at h;exact ⟨i,rfl,of_decide_eq_true h.1,of_decide_eq_true h.2⟩
 |_=>cases h
theorem qBt {p:PV} (h:wj p=true):p=cP (unC p)∧In8 (unC p):=by
 unfold wj at h;split at h
 ·rename_i x y;rw [Ab] at h;obtain ⟨i,rfl,i1,i2⟩:=Wt h.1;obtain ⟨j,rfl,j1,j2⟩:=Wt h.2;exact ⟨rfl,i1,i2,j1,j2⟩
 ·cases h
def qES:PV->Bool
 | .tup l=>decide (l.length≤40)&&(l.all wj&&qAZ (l.map unC))
 |_=>false
theorem Yl {l:List PV} (h:l.all wj=true):l=(l.map unC).map cP:=by rw [A1];refine (List.map_id l).symm.trans (CC fun p hp => ?_);exact (qBt (Au.mp h p hp)).1
theorem qEp {a:Ad} {v:PV} {st:qB} (hv:okV v=true):Za a [v] st = .ok (.bl (qES v)) st:=by
 have e1:=ZH (a:=a) (st:=st) (ZK hv);cases v with
 |tup l =>
  have e1:QN (kit a) [.tup l,.ty "tuple"] st = .ok (.bl true) st:=e1;have hv:(Nat.ble l.length 1000&&l.all okP)=true:=hv;rw [Ab,Au] at hv;have eg:vTB (qN gGt (qI w8 (qA (qD 0) qC)) (vC (.int 40))) (QZ 1 [.tup l]) st = .ok (decide ((l.length:Int) > 40)) st:=we (qV (qK (l:=[.tup l]) rfl (Wr (n:=(l.length:Int)) rfl rfl)) rfl qG6);show _=Rs.ok (PV.bl (decide (l.length≤40)&&(l.all wj&&qAZ (l.map unC)))) st;by_cases q:l.length≤40
  ·rw [AX (by omega)] at eg
   rw [Af q,Cm];have e:=QI (caps:=[]) (n:=1) (fi:=QA (qD 0)) (g:=qq 0) (f:=qI (zL a) (qA (qD 0) qC)) (r:=QZ 1 [.tup l]) (st:=st) (w:=⟨l,fun _=>True⟩) (F:=fun p => .bl (wj p)) (Qm rfl) trivial (sz hv.1) fun p hp=>⟨[some p],rfl,qK (l:=[p]) rfl (qGY (hv.2 p hp))⟩;have eb:qI Ze (qA (vFz (qt [] 1 (QA (qD 0)) (qq 0) [] [] (qI (zL a) (qA (qD 0) qC)))) qC) (QZ 1 [.tup l]) st = .ok (.bl (l.all wj)) st:=qK (qL (wk e) qa) yO;refine qu rfl (qd (QV (QY (w_not (b:=true) (qj (qK (l:=[.tup l,.ty "tuple"]) rfl e1))) eg) rfl) (qx ?_));cases hc:l.all wj with
   |false=>rw [hc] at eb;exact Yt eb
   |true =>
    rw [hc] at eb;rw [Cm];have er:=qCs (a:=a) (F:=l.map unC) (st:=st) (by rw [AI];exact q)
    rw [← Yl hc] at er;exact jn eb (qK (l:=[.tup l]) rfl er)
  ·rw [Af (by omega)] at eg
   rw [AX q];exact qu rfl (qy (QU (QY (w_not (b:=true) (qj (qK (l:=[.tup l,.ty "tuple"]) rfl e1))) eg) (qx rfl)))
 |_=>first |(cases hv;done) |exact qu rfl (qy (QU (Wy (w_not (b:=false) (qj (qK (l:=[_,.ty "tuple"]) rfl e1)))) (qx rfl)))
theorem qD8 {a:Ad} {v:PV} {st:qB} (h:wU v=true):w5 a [v] st = .ok (.bl (isInt v)) st:=by cases v <;> first |rfl |cases h
theorem qAU {lo n hi:Int} {r:qv} {st:qB} {f g h:FE} (e1:f r st = .ok (.int lo) st) (e2:g r st = .ok (.int n) st) (e3:h r st = .ok (.int hi) st):zQ gLe gLe f g h r st = .ok (.bl (decide (lo≤n)&&decide (n≤hi))) st:=by
 unfold zQ;rw [e1];show (g r st).bind _=_;rw [e2];show (match (PV.bl (decide (lo≤n))) with | .bl true=>(h r st).bind fun p3 s4=>gLe (.int n) p3 s4 | .bl false=>Rs.ok (.bl false) st |_ => .no)=_;cases decide (lo≤n) with
 |true=>dsimp only;rw [e3];rfl
 |false=>rfl
theorem jg {a:Ad} {l:List PV} {r:qv} {st:qB} {f:FE} (hl:l.length≤1000) (h:∀ p∈l,wU p=true) (hf:f r st = .ok (.tup l) st):qI Ze (qA (vFz (qt [] 1 (QA f) (qq 0) [] [] (qI (w5 a) (qA (qD 0) qC)))) qC) r st = .ok (.bl (l.all isInt)) st:=by
 have e:=QI (caps:=[]) (n:=1) (fi:=QA f) (g:=qq 0) (f:=qI (w5 a) (qA (qD 0) qC)) (r:=r) (st:=st) (w:=⟨l,fun _=>True⟩) (F:=fun p => .bl (isInt p)) (Qm hf) trivial (wt (by show l.length≤_;omega)) fun p hp=>⟨[some p],rfl,qK (l:=[p]) rfl (qD8 (h p hp))⟩
 exact qK (qL (wk e) qa) yO
theorem qC5 {l:List PV} (q:¬ (l.length:Int)=2):wj (.tup l)=false:=by
 unfold wj;split
 ·rename_i x y e;cases e;exact absurd rfl q
 ·rfl
theorem Yg {lo hi i:Int}:qk lo hi (.int i)=(decide (lo≤i)&&decide (i≤hi)):=rfl
theorem qGN {a:Ad} {t p:PV} {st:qB} (hp:okP p=true):YY a [some t,some p] st=if wj p=true then .nx [some t,some p] st else .rt (.bl false) st:=by
 have e1:=ZH (a:=a) (st:=st) (WN hp);unfold YY;cases p with
 |tup l =>
  have e1:QN (kit a) [.tup l,.ty "tuple"] st = .ok (.bl true) st:=e1;have h:(Nat.ble l.length 1000&&l.all wU)=true:=hp;rw [Ab,Au] at h;have hl:l.length≤1000:=Nat.le_of_ble_eq_true h.1;have e2:vTB (qN gNe (qI w8 (qA (qD 1) qC)) (vC (.int 2))) [some t,some (.tup l)] st = .ok (!decide ((l.length:Int)=2)) st:=we (qV (qK (l:=[.tup l]) rfl (Wr rfl rfl)) rfl JY);have e3:=jg (a:=a) (l:=l) (r:=[some t,some (.tup l)]) (st:=st) (f:=qD 1) hl h.2 rfl;by_cases q:(l.length:Int)=2
  ·rw [Af q] at e2;cases hw:l.all isInt with
   |false =>
    rw [hw] at e3
    have:wj (.tup l)=false:=by
     cases hc:wj (.tup l) with
     |false=>rfl
     |true =>
      have:=qBt hc
      have e:l=[.int (unC (.tup l)).1,.int (unC (.tup l)).2]:=by have:=this.1;exact PV.tup.inj this
      rw [e] at hw;exact absurd hw (fun h=>by have h:true=false:=h;cases h)
    rw [this];exact qy (QU (QY (w_not (b:=true) (qj (qK (l:=[.tup l,.ty "tuple"]) rfl e1))) (QY e2 (w_not (b:=false) (qj e3)))) (qx rfl))
   |true =>
    rw [hw] at e3;refine qd (QV (QY (w_not (b:=true) (qj (qK (l:=[.tup l,.ty "tuple"]) rfl e1))) (QY e2 (w_not (b:=true) (qj e3)))) rfl) ?_
    match l,q,hw with
    |[.int i,.int j],_,_ =>
     have c1:vTB (zQ gLe gLe (vC (.int 0)) (qN gIx (qD 1) (vC (.int 0))) (vC (.int 7))) [some t,some (.tup [.int i,.int j])] st = .ok (qk 0 7 (.int i)) st:=we (qAU rfl rfl rfl);have c2:vTB (zQ gLe gLe (vC (.int 0)) (qN gIx (qD 1) (vC (.int 1))) (vC (.int 7))) [some t,some (.tup [.int i,.int j])] st = .ok (qk 0 7 (.int j)) st:=we (qAU rfl rfl rfl);show _=if (qk 0 7 (.int i)&&qk 0 7 (.int j))=true then _ else _;cases h1:qk 0 7 (.int i) with
     |false=>rw [h1] at c1;exact QU (Wy (w_not c1)) (qx rfl)
     |true =>
      rw [h1] at c1;cases h2:qk 0 7 (.int j) with
      |false=>rw [h2] at c2;exact QU (QY (w_not c1) (w_not c2)) (qx rfl)
      |true=>rw [h2] at c2;exact QV (QY (w_not c1) (w_not c2)) rfl
  ·rw [AX q] at e2;rw [qC5 q];exact qy (QU (QY (w_not (b:=true) (qj (qK (l:=[.tup l,.ty "tuple"]) rfl e1))) (Wy e2)) (qx rfl))
 |_=>first |(cases hp;done) |exact qy (QU (Wy (w_not (b:=false) (qj (qK (l:=[_,.ty "tuple"]) rfl e1)))) (qx rfl))
theorem qBy {a:Ad} {t:PV} {st:qB}:∀ (ks:List PV) (x:Option PV),(∀ p∈ks,okP p=true)->(ks.all wj=true -> ∃ y,Q4 (fun _=>True) (wP 1) (YY a) ks [some t,x] st = .nx [some t,y] st)∧(ks.all wj=false->Q4 (fun _=>True) (wP 1) (YY a) ks [some t,x] st = .rt (.bl false) st)
 |[],x,_=>⟨fun _=>⟨x,WR trivial⟩,fun h=>by cases h⟩
 |p::ks,x,hk=>by
  have e:=qGN (a:=a) (t:=t) (st:=st) (hk p AH);obtain ⟨i1,i2⟩:=qBy (a:=a) (t:=t) (st:=st) ks (some p) fun q hq=>hk q (AE _ hq);rw [List.all_cons];cases hc:wj p with
  |false =>rw [hc] at e;exact ⟨fun h=>(by cases h),fun _=>qDg trivial rfl e⟩
  |true =>rw [hc] at e;rw [Cm];refine ⟨fun h => ?_,fun h=>ZZ trivial rfl e (i2 h)⟩;obtain ⟨y,ey⟩:=i1 h;exact ⟨y,ZZ trivial rfl e ey⟩
theorem qEL:∀ F G:List qh,peqs (F.map cP) (G.map cP)=decide (F=G)
 |[],[]=>rfl
 |[],d::G=>rfl
 |c::F,[]=>rfl
 |c::F,d::G=>by
  rw [An,An,peqs,qH4,qEL F G];by_cases h:c=d
  ·by_cases h2:F=G
   ·subst h;subst h2;simp
   ·rw [AX h2,Bt];exact (AX (by simp [h2])).symm
  ·rw [AX h,Ci];exact (AX (by simp [h])).symm
theorem qLN {F G:List qh} {st:qB}:gEq (.lst (F.map cP)) (.lst (G.map cP)) st = .ok (.bl (decide (F=G))) st:=by
 have h1:Yu (.lst (F.map cP)) (.lst (G.map cP))=true:=by show (nrs (F.map cP)&&nrs (G.map cP)&&decide (deps (F.map cP) + 1≤ym))=true;rw [qAD,qAD,Af (Ac (Nat.succ_le_succ (ju F)) (by decide))];rfl
 show (if Yu (.lst (F.map cP)) (.lst (G.map cP))=true then Rs.ok (PV.bl (peqs (F.map cP) (G.map cP))) st else Rs.no)=_;rw [AF h1,qEL]
theorem JH {f:FE} {r:qv} {st s1:qB} {l:List PV} (h:f r st = .ok (.tup l) s1):vFz (yV f) r st = .ok (.lst l) s1:=by unfold vFz yV;rw [h];rfl
theorem qF4 {F:List qh}:qAZ F=decide (F=Zi F):=by rw [Bool.eq_iff_iff,BR,qDo,qGD]
theorem qDH {a:Ad} {v:PV} {st:qB} (hv:okV v=true):Wx a [v] st = .ok (.bl (qES v)) st:=by
 have e1:=ZH (a:=a) (st:=st) (ZK hv);cases v with
 |tup l =>
  have e1:QN (kit a) [.tup l,.ty "tuple"] st = .ok (.bl true) st:=e1;have hv:(Nat.ble l.length 1000&&l.all okP)=true:=hv;rw [Ab,Au] at hv;have eg:vTB (qN gGt (qI w8 (qA (qD 0) qC)) (vC (.int 40))) (QZ 2 [.tup l]) st = .ok (decide ((l.length:Int) > 40)) st:=we (qV (qK (l:=[.tup l]) rfl (Wr (n:=(l.length:Int)) rfl rfl)) rfl qG6);show _=Rs.ok (PV.bl (decide (l.length≤40)&&(l.all wj&&qAZ (l.map unC)))) st;by_cases q:l.length≤40
  ·rw [AX (by omega)] at eg
   rw [Af q,Cm];obtain ⟨i1,i2⟩:=qBy (a:=a) (t := .tup l) (st:=st) l none hv.2;refine qu rfl (qd (QV (QY (w_not (b:=true) (qj (qK (l:=[.tup l,.ty "tuple"]) rfl e1))) eg) rfl) ?_);cases hc:l.all wj with
   |false=>exact qy (YD (Qm rfl) (i2 hc))
   |true =>
    obtain ⟨y,ey⟩:=i1 hc;have hb:=Yl hc;refine qd (YD (Qm rfl) ey) (qx ?_);have es:=qBI (l:=l.map unC) (q := .tup l) (st:=st) (by rw [← hb];rfl) (by rw [AI];omega)
    refine qV (JH rfl) (qBR rfl es) ?_;rw [Cm,qF4];have ee:=qLN (F:=l.map unC) (G:=Zi (l.map unC)) (st:=st);rw [← hb] at ee;exact ee
  ·rw [Af (by omega)] at eg
   rw [AX q];exact qu rfl (qy (QU (QY (w_not (b:=true) (qj (qK (l:=[.tup l,.ty "tuple"]) rfl e1))) eg) (qx rfl)))
 |_=>first |(cases hv;done) |exact qu rfl (qy (QU (Wy (w_not (b:=false) (qj (qK (l:=[_,.ty "tuple"]) rfl e1)))) (qx rfl)))
def qDF:PV->Bool
 | .tup [x,y,w]=>qk (-40) 40 x&&(qk (-40) 40 y&&qk 0 1 w)
 |_=>false
theorem qAH {l:List PV} (q:¬ (l.length:Int)=3):qDF (.tup l)=false:=by
 unfold qDF;split
 ·rename_i x y w e;cases e;exact absurd rfl q
 ·rfl
theorem qIw {a:Ad} {v:PV} {st:qB} (hv:okV v=true):YR a [v] st = .ok (.bl (qDF v)) st:=by
 have e1:=ZH (a:=a) (st:=st) (ZK hv);cases v with
 |tup l =>
  have e1:QN (kit a) [.tup l,.ty "tuple"] st = .ok (.bl true) st:=e1;have hv:(Nat.ble l.length 1000&&l.all okP)=true:=hv;rw [Ab,Au] at hv;have e2:vTB (qN gNe (qI w8 (qA (qD 0) qC)) (vC (.int 3))) (QZ 4 [.tup l]) st = .ok (!decide ((l.length:Int)=3)) st:=we (qV (qK (l:=[.tup l]) rfl (Wr rfl rfl)) rfl JY);by_cases q:(l.length:Int)=3
  ·rw [Af q] at e2;refine qu rfl (qd (QV (QY (w_not (b:=true) (qj (qK (l:=[.tup l,.ty "tuple"]) rfl e1))) e2) rfl) ?_)
   match l,q,hv with
   |[x,y,w],_,hv =>
    have px:=WN (hv.2 x (by simp))
    have py:=WN (hv.2 y (by simp))
    have pw:=WN (hv.2 w (by simp))
    refine qd (qFa (r1:=[some (.tup [x,y,w]),some x,some y,some w]) rfl rfl) ?_;have c1:=qj (qK (fa:=qA (qD 1) (qA (yH (vC (.int 40))) (qA (vC (.int 40)) qC))) (r:=[some (.tup [x,y,w]),some x,some y,some w]) (st:=st) (l:=[x,.int (-40),.int 40]) rfl (zn (a:=a) (lo := -40) (hi:=40) (st:=st) px));have c2:=qj (qK (fa:=qA (qD 2) (qA (yH (vC (.int 40))) (qA (vC (.int 40)) qC))) (r:=[some (.tup [x,y,w]),some x,some y,some w]) (st:=st) (l:=[y,.int (-40),.int 40]) rfl (zn (a:=a) (lo := -40) (hi:=40) (st:=st) py));show _=RS.rt (PV.bl (qk (-40) 40 x&&(qk (-40) 40 y&&qk 0 1 w))) st;cases h1:qk (-40) 40 x with
    |false=>rw [h1] at c1;exact qy (QU (Wy (w_not c1)) (qx rfl))
    |true =>
     rw [h1] at c1;cases h2:qk (-40) 40 y with
     |false=>rw [h2] at c2;exact qy (QU (QY (w_not c1) (w_not c2)) (qx rfl))
     |true =>rw [h2] at c2;exact qd (QV (QY (w_not c1) (w_not c2)) rfl) (qx (qK (l:=[w,.int 0,.int 1]) rfl (zn pw)))
  ·rw [AX q] at e2;rw [qAH q];exact qu rfl (qy (QU (QY (w_not (b:=true) (qj (qK (l:=[.tup l,.ty "tuple"]) rfl e1))) e2) (qx rfl)))
 |_=>first |(cases hv;done) |exact qu rfl (qy (QU (Wy (w_not (b:=false) (qj (qK (l:=[_,.ty "tuple"]) rfl e1)))) (qx rfl)))
theorem qDu {i:Int} {st:qB} {r:qv} {f:FE} (h:f r st = .ok (.int i) st):qN gLe (qI qBU (qA f qC)) (vC (.int 40)) r st = .ok (.bl (qk (-40) 40 (.int i))) st:=by refine (qV (qK (qL h qa) (show qBU [.int i] st = .ok (.int (if i < 0 then -i else i)) st from rfl)) rfl qJw).trans ?_;rw [Yg];congr 2;rw [Bool.eq_iff_iff,Ab,BR,BR,BR];omega
theorem qK2 {w:Int} {st:qB}:gIn false (.int w) (.tup [.int 0,.int 1]) st = .ok (.bl (qk 0 1 (.int w))) st:=by show Rs.ok (PV.bl ((0==w) || ((1==w) || false))) st=_;rw [Yg];congr 2;rw [Bool.eq_iff_iff,Ab,BR,BR,Bool.or_false,Bool.or_eq_true,BK,BK];omega
theorem qGR {a:Ad} {v:PV} {st:qB} (hv:okV v=true):zZ a [v] st = .ok (.bl (qDF v)) st:=by
 have e1:=ZH (a:=a) (st:=st) (ZK hv);cases v with
 |tup l =>
  have e1:QN (kit a) [.tup l,.ty "tuple"] st = .ok (.bl true) st:=e1;have hv:(Nat.ble l.length 1000&&l.all okP)=true:=hv;rw [Ab,Au] at hv;have hl:l.length≤1000:=Nat.le_of_ble_eq_true hv.1;have e2:vTB (qN gNe (qI w8 (qA (qD 0) qC)) (vC (.int 3))) (QZ 1 [.tup l]) st = .ok (!decide ((l.length:Int)=3)) st:=we (qV (qK (l:=[.tup l]) rfl (Wr rfl rfl)) rfl JY);have e3:=jg (a:=a) (l:=l) (r:=QZ 1 [.tup l]) (st:=st) (f:=qD 0) hl (fun p hp=>WN (hv.2 p hp)) rfl;by_cases q:(l.length:Int)=3
  ·rw [Af q] at e2;cases hw:l.all isInt with
   |false =>
    rw [hw] at e3
    have:qDF (.tup l)=false:=by
     cases hc:qDF (.tup l) with
     |false=>rfl
     |true =>
      match l,q,hc with
      |[x,y,w],_,hc =>have hc:(qk (-40) 40 x&&(qk (-40) 40 y&&qk 0 1 w))=true:=hc;rw [Ab,Ab] at hc;obtain ⟨i,rfl,_⟩:=Wt hc.1;obtain ⟨i,rfl,_⟩:=Wt hc.2.1;obtain ⟨i,rfl,_⟩:=Wt hc.2.2;have hw:true=false:=hw;cases hw
    rw [this];exact qu rfl (qy (QU (QY (w_not (b:=true) (qj (qK (l:=[.tup l,.ty "tuple"]) rfl e1))) (QY e2 (w_not (b:=false) (qj e3)))) (qx rfl)))
   |true =>
    rw [hw] at e3;refine qu rfl (qd (QV (QY (w_not (b:=true) (qj (qK (l:=[.tup l,.ty "tuple"]) rfl e1))) (QY e2 (w_not (b:=true) (qj e3)))) rfl) (qx ?_))
    match l,q,hw with
    |[.int i,.int j,.int k],_,_ =>
     have c1:=qDu (i:=i) (r:=QZ 1 [.tup [.int i,.int j,.int k]]) (st:=st) (f:=qN gIx (qD 0) (vC (.int 0))) rfl;have c2:=qDu (i:=j) (r:=QZ 1 [.tup [.int i,.int j,.int k]]) (st:=st) (f:=qN gIx (qD 0) (vC (.int 1))) rfl;show _=Rs.ok (PV.bl (qk (-40) 40 (.int i)&&(qk (-40) 40 (.int j)&&qk 0 1 (.int k)))) st;cases h1:qk (-40) 40 (.int i) with
     |false=>rw [h1] at c1;exact Yt c1
     |true =>
      rw [h1] at c1;refine jn c1 ?_;cases h2:qk (-40) 40 (.int j) with
      |false=>rw [h2] at c2;exact Yt c2
      |true=>rw [h2] at c2;exact jn c2 (qV (p := .int k) rfl rfl qK2)
  ·rw [AX q] at e2;rw [qAH q];exact qu rfl (qy (QU (QY (w_not (b:=true) (qj (qK (l:=[.tup l,.ty "tuple"]) rfl e1))) (Wy e2)) (qx rfl)))
 |_=>first |(cases hv;done) |exact qu rfl (qy (QU (Wy (w_not (b:=false) (qj (qK (l:=[_,.ty "tuple"]) rfl e1)))) (qx rfl)))
def swp (c:qh):qh:=(c.2,c.1)
theorem qHu {r:qv} {st:qB} {f:FE} {F:List qh} (h:f r st = .ok (.tup (F.map cP)) st) (hF:F.length≤40):qI wL (qA (Z6 (vFz (qt [] 2 (QA f) (zE 2 (QL (qq 0) (QL (qq 1) zA))) [] [] (QT (qA (qD 1) (qA (qD 0) qC)))))) qC) r st = .ok (.tup ((qDG (F.map swp)).map cP)) st:=by
 let G:PV->PV:=fun p=>cP (swp (unC p));have e:=QI (caps:=[]) (n:=2) (fi:=QA f) (g:=zE 2 (QL (qq 0) (QL (qq 1) zA))) (f:=QT (qA (qD 1) (qA (qD 0) qC))) (r:=r) (st:=st) (w:=⟨F.map cP,fun _=>True⟩) (F:=G) (Qm h) trivial (by rw [AI];exact wt (by omega)) fun p hp=>by obtain ⟨c,_,rfl⟩:=Ag.mp hp;exact ⟨[some (.int c.1),some (.int c.2)],rfl,WA (qL rfl (qL rfl qa)) (sz rfl)⟩
 have e2:(F.map cP).map G=(F.map swp).map cP:=by rw [A1,A1];rfl
 exact qK (qL (qI0 (wk e) (qJO (l:=F.map swp) (by show some ((F.map cP).map G)=_;rw [e2]) (by rw [AI];omega))) qa) (W0 rfl)
theorem qDa {a:Ad} {F:List qh} {st:qB} (hF:F.length≤40):ZW a [.tup (F.map cP)] st = .ok (.tup ((qDG (F.map swp)).map cP)) st :=
 qu rfl (qx (qHu rfl hF))
theorem qE0:∀ l:List Int,wm qDd (l.map PV.int)=some l
 |[]=>rfl
 |i::l=>by rw [An,wm,qE0 l];rfl
def low (l:List Int):Int:=l.min?.getD 0
theorem JL {ns:List Int} {st:qB} (h:ns≠[]):Zj [.lst (ns.map PV.int)] st = .ok (.int (low ns)) st:=by
 unfold Zj;simp only [asL,qE0];unfold low;cases hm:ns.min? with
 |none=>exact absurd (List.min?_eq_none_iff.mp hm) h
 |some m=>rfl
def mvd (F:List qh):List qh:=F.map fun c=>(c.1 - low (F.map (·.1)),c.2 - low (F.map (·.2)))
theorem qJ5 {r:qv} {st:qB} {f:FE} {F:List qh} {i j:Nat} {u l:Int} (h:f r st = .ok (.tup (F.map cP)) st) (hF:F.length≤40) (hi:Wz [i,j] 2 r=[some (.int u),some (.int l),none,none]):qI wL (qA (vFz (qt [i,j] 2 (QA f) (zE 2 (QL (qq 2) (QL (qq 3) zA))) [] [] (QT (qA (qN zM (qD 2) (qD 0)) (qA (qN zM (qD 3) (qD 1)) qC))))) qC) r st = .ok (.tup ((F.map fun c=>(c.1 - u,c.2 - l)).map cP)) st:=by
 let G:PV->PV:=fun p=>cP ((unC p).1 - u,(unC p).2 - l);have e:=QI (caps:=[i,j]) (n:=2) (fi:=QA f) (g:=zE 2 (QL (qq 2) (QL (qq 3) zA))) (f:=QT (qA (qN zM (qD 2) (qD 0)) (qA (qN zM (qD 3) (qD 1)) qC))) (r:=r) (st:=st) (w:=⟨F.map cP,fun _=>True⟩) (F:=G) (Qm h) trivial (by rw [AI];exact wt (by omega)) fun p hp=>by obtain ⟨c,_,rfl⟩:=Ag.mp hp;exact ⟨[some (.int u),some (.int l),some (.int c.1),some (.int c.2)],by rw [hi];rfl,WA (qL (qV rfl rfl YJ) (qL (qV rfl rfl YJ) qa)) (sz rfl)⟩
 have e2:(F.map cP).map G=(F.map fun c=>(c.1 - u,c.2 - l)).map cP:=by rw [A1,A1];rfl
 rw [← e2];exact qK (qL (wk e) qa) (W0 rfl)
theorem qIX {r:qv} {st:qB} {f:FE} {F:List qh} (h:f r st = .ok (.tup (F.map cP)) st) (hF:F.length≤40):vFz (qt [] 2 (QA f) (zE 2 (QL (qq 0) (QL (qq 1) zA))) [] [] (qD 0)) r st = .ok (.lst ((F.map (·.1)).map PV.int)) st:=by
 have e:=QI (caps:=[]) (n:=2) (fi:=QA f) (g:=zE 2 (QL (qq 0) (QL (qq 1) zA))) (f:=qD 0) (r:=r) (st:=st) (w:=⟨F.map cP,fun _=>True⟩) (F:=fun p => .int (unC p).1) (Qm h) trivial (by rw [AI];exact wt (by omega)) fun p hp=>by obtain ⟨c,_,rfl⟩:=Ag.mp hp;exact ⟨[some (.int c.1),some (.int c.2)],rfl,rfl⟩
 have e2:(F.map cP).map (fun p=>PV.int (unC p).1)=(F.map (·.1)).map PV.int:=by rw [A1,A1];rfl
 rw [← e2];exact wk e
theorem qIZ {r:qv} {st:qB} {f:FE} {F:List qh} (h:f r st = .ok (.tup (F.map cP)) st) (hF:F.length≤40):vFz (qt [] 2 (QA f) (zE 2 (QL (qq 0) (QL (qq 1) zA))) [] [] (qD 1)) r st = .ok (.lst ((F.map (·.2)).map PV.int)) st:=by
 have e:=QI (caps:=[]) (n:=2) (fi:=QA f) (g:=zE 2 (QL (qq 0) (QL (qq 1) zA))) (f:=qD 1) (r:=r) (st:=st) (w:=⟨F.map cP,fun _=>True⟩) (F:=fun p => .int (unC p).2) (Qm h) trivial (by rw [AI];exact wt (by omega)) fun p hp=>by obtain ⟨c,_,rfl⟩:=Ag.mp hp;exact ⟨[some (.int c.1),some (.int c.2)],rfl,rfl⟩
 have e2:(F.map cP).map (fun p=>PV.int (unC p).2)=(F.map (·.2)).map PV.int:=by rw [A1,A1];rfl
 rw [← e2];exact wk e
theorem qE1 {a:Ad} {F:List qh} {st:qB} (hF:F.length≤40):jq a [.tup (F.map cP)] st = .ok (.tup ((mvd F).map cP)) st:=by
 cases F with
 |nil=>exact qu rfl (qy (QU (w_not (b:=false) rfl) (qx rfl)))
 |cons c F =>refine qu rfl (qd (QV (w_not (b:=true) rfl) rfl) (qd (wN (qK (qL (qIX rfl hF) qa) (JL (by simp)))) (qd (wN (qK (qL (qIZ rfl hF) qa) (JL (by simp)))) (qx (qJ5 rfl hF rfl)))))
theorem qJe {r:qv} {st:qB} {F:List qh} (h3:r[3]? = some (some (.tup (F.map cP)))) (hF:F.length≤40):vFz (qt [3] 1 (QA (QT (qA (vC (.int 0)) (qA (vC (.int 1)) qC)))) (qq 1) [] [] (qI Zj (qA (qDb (vFz (qt [1] 1 (QA (qD 0)) (qq 1) [] [] (qN gIx (qD 1) (qD 0)))) (vFz (Q6 (qA (vC (.int 0)) qC)))) qC))) r st = .ok (.lst [.int (low (F.map (·.1))),.int (low (F.map (·.2)))]) st:=by
 have hc:Wz [3] 1 r=[some (.tup (F.map cP)),none]:=by unfold Wz;show [(r[3]?).join]++_=_;rw [h3];rfl
 let G:PV->PV:=fun p=>match p with
  | .int 0 => .int (low (F.map (·.1)))
  |_ => .int (low (F.map (·.2)))
 have key:∀ (i:Int) (g:qh->Int),(∀ (c:qh) (S:qB),gIx (cP c) (.int i) S = .ok (.int (g c)) S)->qI Zj (qA (qDb (vFz (qt [1] 1 (QA (qD 0)) (qq 1) [] [] (qN gIx (qD 1) (qD 0)))) (vFz (Q6 (qA (vC (.int 0)) qC)))) qC) [some (.tup (F.map cP)),some (.int i)] st = .ok (.int (low (F.map g))) st:=by
  intro i g hg;have e:=QI (caps:=[1]) (n:=1) (fi:=QA (qD 0)) (g:=qq 1) (f:=qN gIx (qD 1) (qD 0)) (r:=[some (.tup (F.map cP)),some (.int i)]) (st:=st) (w:=⟨F.map cP,fun _=>True⟩) (F:=fun p => .int (g (unC p))) (Qm rfl) trivial (by rw [AI];exact wt (by omega)) fun p hp=>by obtain ⟨c,_,rfl⟩:=Ag.mp hp;exact ⟨[some (.int i),some (cP c)],rfl,qV rfl rfl (hg c st)⟩
  have e2:(F.map cP).map (fun p=>PV.int (g (unC p)))=(F.map g).map PV.int:=by rw [A1,A1];rfl
  have e3:=wk e;rw [e2] at e3;cases F with
  |nil=>refine qK (l:=[.lst [.int 0]]) (qL ?_ qa) rfl;unfold qDb;rw [e3];rfl
  |cons c F=>refine qK (l:=[.lst (((c::F).map g).map PV.int)]) (qL ?_ qa) (JL (by simp));unfold qDb;rw [e3];rfl
 refine wk (QI (w:=⟨[.int 0,.int 1],fun _=>True⟩) (F:=G) (Qm rfl) trivial (sz rfl) fun p hp => ?_);rw [hc];simp only [AD,AR,BC] at hp;rcases hp with rfl |rfl
 ·exact ⟨_,rfl,key 0 (·.1) fun c S=>rfl⟩
 ·exact ⟨_,rfl,key 1 (·.2) fun c S=>rfl⟩
theorem qDl {a:Ad} {st:qB} {n:Nat} {c:qh}:qf (n + 2) a [cP c,cP c] st = .ok (.bl true) st :=
 jT rfl (show 2≤1000 by decide) fun z hz=>by obtain ⟨u,hu,rfl⟩:=j9 z hz;refine ⟨u,u,rfl,?_⟩;simp only [AD,AR,BC] at hu;rcases hu with rfl |rfl <;> exact Ya
theorem Zc {a:Ad} {st:qB} {F:List qh} (h:F.length≤1000):qf 3 a [.tup (F.map cP),.tup (F.map cP)] st = .ok (.bl true) st :=
 jT (n:=1) rfl (by rw [AI];exact h) fun z hz=>by obtain ⟨u,hu,rfl⟩:=j9 z hz;obtain ⟨c,_,rfl⟩:=Ag.mp hu;exact ⟨_,_,rfl,qDl⟩
theorem jw {l:List PV} {i:Int} {st:qB} (h0:0≤i) (h1:i < l.length):∃ p,p∈l∧gIx (.lst l) (.int i) st = .ok p st:=by
 have hi:i.toNat < l.length:=by omega
 refine ⟨l[i.toNat],CB hi,qID rfl ?_⟩;unfold L2.atI;rw [j5 h0 h1];exact AL hi
theorem W3 {l:List PV} {lo hi:Option Int} {p:PV} (h:p∈wl l lo hi):p∈l:=by unfold wl at h;exact CU (CV h)
theorem wn {l:List PV} {lo hi:Option Int}:(wl l lo hi).length≤l.length:=by unfold wl;rw [Bl,CS];omega
theorem qFD {l:List PV} {lo hi:Option Int} {s:Int} {p:PV} (h:p∈HT.cutS l lo hi s):p∈l:=by unfold HT.cutS at h;obtain ⟨m,_,e⟩:=Bw.mp h;exact Ar e
theorem qEI:∀ n:Fin 42,Builtin.Slice.slicePlaces (Builtin.Slice.sliceAdjust none none (-1) (n.val:Nat)).1 (Builtin.Slice.sliceAdjust none none (-1) (n.val:Nat)).2 (-1)≤100:=by decide +kernel
theorem qAO {l:List PV} (h:l.length≤41):(HT.cutS l none none (-1)).length≤100:=by unfold HT.cutS;refine Ac (List.length_filterMap_le _ _) ?_;rw [List.length_range];exact qEI ⟨l.length,by omega⟩
theorem Zo {f:FE} {lo hi:FO} {r:qv} {st s1 s2 s3:qB} {l:List PV} {p q:Option Int} (h:f r st = .ok (.tup l) s1) (h1:lo r s1 = .ok p s2) (h2:hi r s2 = .ok q s3):ZL f lo hi r st = .ok (.tup (wl l p q)) s3:=by unfold ZL;rw [h];show (lo r s1).bind _=_;rw [h1];show (hi r s2).bind _=_;rw [h2];rfl
theorem qIb {f:FE} {r:qv} {st s1:qB} {l:List PV} (h:f r st = .ok (.tup l) s1) (hl:l.length≤41):qCi f Qv Qv (Qg (yH (vC (.int 1)))) r st = .ok (.tup (HT.cutS l none none (-1))) s1:=by unfold qCi;rw [h];show (if (-1:Int) < 0∧(HT.cutS l none none (-1)).length≤sizeLine then Rs.ok (PV.tup (HT.cutS l none none (-1))) s1 else Rs.no)=_;rw [AF ⟨by decide,Ac (qAO hl) (by decide)⟩]
theorem ZB {l m:List PV} {st:qB} (h:l.length + m.length≤1000):Wc (.tup l) (.tup m) st = .ok (.tup (l++m)) st:=by unfold Wc;exact AF (Ac h (by decide))
theorem qBF {l:List PV} (hl:l.length≤1000) (h:∀ p∈l,wU p=true):okP (.tup l)=true:=by show (Nat.ble l.length 1000&&l.all wU)=true;rw [Ab,Au];exact ⟨Nat.ble_eq_true_of_le hl,h⟩
theorem Ww {l:List PV} (hl:l.length≤1000) (h:∀ p∈l,okP p=true):okV (.tup l)=true:=by show (Nat.ble l.length 1000&&l.all okP)=true;rw [Ab,Au];exact ⟨Nat.ble_eq_true_of_le hl,h⟩
theorem qEw {a:Ad} {st j:qB} {x:Int}:∃ v,okV v=true∧ZI a [.ref st.length] (st ++ .l [.int x]::j) = .ok v (st ++ .l [.int (x / 16)]::j):=by
 have t1:=QG (a:=a) (st:=st) (j:=j) (x:=x) (m:=16) (by decide) (by decide)
 have hx:=wR (x:=x) (m:=16) (by decide)
 let l:List PV:=[.non,.bl true,.int 7,.str "",.str "0",.tup [],.lst [],.dct,.tup [.int 1,.int 2],.tup [.int 0],.tup [.int 1,.int 0,.int 0],.int (-1),.tup [.int 0,.int 0],.lst [.tup [.int 0,.int 0]],.bl false,.tup [.tup [.int 0,.int 0],.tup [.int 0,.int 1]]];obtain ⟨p,hp,e⟩:=jw (l:=l) (i:=x % 16) (st:=st ++ .l [.int (x / 16)]::j) hx.1 hx.2;refine ⟨p,Au.mp (show l.all okV=true from rfl) p hp,qu rfl (qd (wN (p := .lst l) rfl) (qx (qV rfl (qK (l:=[.ref st.length,.int 16]) rfl t1) e)))⟩
theorem WV {P:PV->Prop} {l m:List PV} (h1:∀ p∈l,P p) (h2:∀ p∈m,P p):∀ p∈l++m,P p:=fun p hp=>(Ax.mp hp).elim (h1 p) (h2 p)
theorem Zm {P:PV->Prop} {q:PV} (h:P q):∀ p∈[q],P p:=fun p hp=>by rw [At.mp hp];exact h
def qCv (W:List PV) (t:Int) (p:PV):List PV:=wl W none (some t)++[p]++wl W (some (t + 1)) none
theorem qAi {W:List PV} {t:Int} {p:PV}:(qCv W t p).length≤2 * W.length + 1:=by unfold qCv;have a1:=wn (l:=W) (lo:=none) (hi:=some t);have a2:=wn (l:=W) (lo:=some (t + 1)) (hi:=none);rw [AZ,AZ,Aq];omega
theorem Jv {P:PV->Prop} {W:List PV} {t:Int} {p:PV} (h1:∀ q∈W,P q) (h2:P p):∀ q∈qCv W t p,P q:=WV (WV (fun q hq=>h1 q (W3 hq)) (Zm h2)) (fun q hq=>h1 q (W3 hq))
theorem qCR {W:List PV} {t:Int} {p:PV} {f g:FE} {h:FE} {r:qv} {st:qB} (hW:W.length≤41) (h1:f r st = .ok (.tup W) st) (h2:g r st = .ok (.int t) st) (h3:h r st = .ok p st):qN Wc (qN Wc (ZL f Qv (Qg g)) (QT (qA h qC))) (ZL f (Qg (qN Q3 g (vC (.int 1)))) Qv) r st = .ok (.tup (qCv W t p)) st:=by have a1:=wn (l:=W) (lo:=none) (hi:=some t);have a2:=wn (l:=W) (lo:=some (t + 1)) (hi:=none);exact qV (qV (Zo h1 rfl (wp h2)) (WA (qL h3 qa) (sz rfl)) (ZB (by rw [Aq];omega))) (Zo h1 (wp (qV h2 rfl zg)) rfl) (ZB (by rw [AZ,Aq];omega))
theorem jB {F:List qh}:∀ p∈F.map cP,okP p=true:=fun p hp=>by obtain ⟨c,_,rfl⟩:=Ag.mp hp;rfl
theorem qKs {α:Type} {P:α->Prop} {a b c d e f g:α} (h1:P a) (h2:P b) (h3:P c) (h4:P d) (h5:P e) (h6:P f) (h7:P g):∀ p∈[a,b,c,d,e,f,g],P p:=fun p hp=>by simp only [AD,AR,BC] at hp;rcases hp with rfl |rfl |rfl |rfl |rfl |rfl |rfl <;> assumption
theorem qJ6 {α:Type} {P:α->Prop} {a b c:α} (h1:P a) (h2:P b) (h3:P c):∀ p∈[a,b,c],P p:=fun p hp=>by simp only [AD,AR,BC] at hp;rcases hp with rfl |rfl |rfl <;> assumption
theorem qGJ {l:List PV} {i:Int} {st:qB} {n:Nat} (hs:st[n]? = some (.l l)) (h0:0≤i) (h1:i < l.length):∃ p,p∈l∧gIx (.ref n) (.int i) st = .ok p st:=by
 have hi:i.toNat < l.length:=by omega
 refine ⟨l[i.toNat],CB hi,qID (qAp hs) ?_⟩;unfold L2.atI;rw [j5 h0 h1];exact AL hi
theorem YC {a:Ad} {st j:qB} {fi:FI} {i:Nat} {l:List PV} (hl:l.length=12) (hj:j[i]? = some (.l l)):∀ (ks:List PV) (x:Int),∃ (cs:List PV) (y:Int),cs.length=ks.length∧(∀ c∈cs,c∈l)∧qz (fun _=>True) (Qi ⟨fi,qq 2,[]⟩ (Q7 [] (qN gIx (qD 0) (qI (qQ a) (qA (qD 1) (qA (vC (.int 12)) qC))))) [some (.ref (st.length + 1 + i)),some (.ref st.length),none]) ks (st ++ .l [.int x]::j) = .ok cs (st ++ .l [.int y]::j)
 |[],x=>⟨[],x,rfl,fun c hc=>(by cases hc),zz trivial⟩
 |k::ks,x=>by
  have t:=QG (a:=a) (st:=st) (j:=j) (x:=x) (m:=12) (by decide) (by decide)
  have hx:=wR (x:=x) (m:=12) (by decide)
  obtain ⟨p,hp,e⟩:=qGJ (l:=l) (i:=x % 12) (st:=st ++ .l [.int (x / 12)]::j) (n:=st.length + 1 + i) (qEX hj) hx.1 (by rw [hl];exact hx.2)
  obtain ⟨cs,y,h1,h2,h3⟩:=YC (a:=a) (st:=st) (j:=j) (fi:=fi) hl hj ks (x / 12);refine ⟨p::cs,y,by rw [AU,AU,h1],fun c hc => ?_,yt trivial (qBX rfl (qV rfl (qK (l:=[.ref st.length,.int 12]) rfl t) e)) h3⟩
  rcases AD.mp hc with rfl |hc
  ·exact hp
  ·exact h2 c hc
def w41:List PV:=(wC 41).map fun k=>cP (k / 8,k % 8)
theorem qBs:w41.length=41:=by unfold w41;rw [AI,wH];rfl
theorem qEx:∀ p∈w41,okP p=true:=fun p hp=>by obtain ⟨c,_,rfl⟩:=Ag.mp hp;rfl
theorem qKO {r:qv} {st:qB}:qI wL (qA (vFz (qt [] 1 (Qn (qA (vC (.int 41)) qC)) (qq 0) [] [] (QT (qA (qN yo (qD 0) (vC (.int 8))) (qA (qN ZM (qD 0) (vC (.int 8))) qC))))) qC) r st = .ok (.tup w41) st:=by
 let G:PV->PV:=fun p=>match p with
  | .int k=>cP (k / 8,k % 8)
  |_=>p
 have e:=QI (caps:=[]) (n:=1) (fi:=Qn (qA (vC (.int 41)) qC)) (g:=qq 0) (f:=QT (qA (qN yo (qD 0) (vC (.int 8))) (qA (qN ZM (qD 0) (vC (.int 8))) qC))) (r:=r) (st:=st) (w:=⟨(wC 41).map PV.int,fun _=>True⟩) (F:=G) (itN (by decide) (by decide) rfl) trivial (by rw [AI,wH];exact wt (by decide)) fun p hp=>by obtain ⟨k,_,rfl⟩:=Ag.mp hp;exact ⟨[some (.int k)],rfl,WA (qL (qV rfl rfl (qHv ⟨by decide,by decide⟩)) (qL (qV rfl rfl (qHy (by decide))) qa)) (sz rfl)⟩
 have e2:((wC 41).map PV.int).map G=w41:=by rw [A1];rfl
 rw [← e2];exact qK (qL (wk e) qa) (W0 rfl)
theorem qG0 {st j:qB} {b o p:SO}:(st++b::(j++[o])).set (st.length + 1 + j.length) p=st++b::(j++[p]):=by rw [qHp (by rw [AZ,Aq];omega),CN _ _ (AM _),Nat.sub_self];rfl
theorem jv {st j:qB} {b o:SO}:(st++b::(j++[o]))[st.length + 1 + j.length]? = some o:=qEX (by simp)
theorem qHO {st j:qB} {b:SO}:(st++b::j).length=st.length + 1 + j.length:=by rw [AZ,AU];omega
theorem qGP {st j:qB} {b o:SO}:(st++b::j)++[o]=st++b::(j++[o]):=by rw [A4];rfl
theorem qAE {i:Nat} {fl:FL} {r:qv} {S st j:qB} {b:SO} {l:List PV} (h:fl r S = .ok l (st++b::j)):W9 i fl r S = .nx (r.set i (some (.ref (st.length + 1 + j.length)))) (st++b::(j++[.l l])):=by rw [qBc h,qHO,qGP]
theorem qAc {fo f:FE} {r:qv} {st j:qB} {b b':SO} {l:List PV} {p:PV} (h:fo r (st++b::(j++[.l l])) = .ok (.ref (st.length + 1 + j.length)) (st++b::(j++[.l l]))) (h2:f r (st++b::(j++[.l l])) = .ok p (st++b'::(j++[.l l]))) (hl:l.length≤1000):zK fo f r (st++b::(j++[.l l])) = .nx r (st++b'::(j++[.l (l++[p])])):=by rw [qFq h (qJv jv) h2 jv (CD hl (by decide)),qG0]
theorem qDA {a:Ad} {st j:qB} {x:Int} {F:List qh} (hF:F.length≤40):∃ (vs:List PV) (y:Int) (g:qB),vs.length=7∧(∀ v∈vs,okV v=true)∧zS a [.ref st.length,.tup (F.map cP)] (st ++ .l [.int x]::j) = .ok (.lst vs) (st ++ .l [.int y]::(j++g)):=by
 have hW:(F.map cP).length≤41:=by rw [AI];omega
 have t1:=QG (a:=a) (st:=st) (j:=j) (x:=x) (m:=(F.length:Int) + 1) (by omega) (by omega)
 have i1:=wR (x:=x) (m:=(F.length:Int) + 1) (by omega)
 generalize x % ((F.length:Int) + 1)=at' at t1 i1;generalize x / ((F.length:Int) + 1)=x1 at t1
 -- the cell
 obtain ⟨k,rfl⟩:∃ k:Nat,at'=(k:Int):=⟨at'.toNat,by omega⟩
 have hk:k < (F++[((0,0):qh)]).length:=by rw [AZ,Aq];omega
 let c:qh:=(F++[((0,0):qh)])[k];have ec:∀ S:qB,gIx (.tup (F.map cP++[cP (0,0)])) (.int (k:Int)) S = .ok (cP c) S:=fun S=>by
  have:=qIJ (F:=F++[((0,0):qh)]) (i:=k) (st:=S) hk
  rw [CF] at this;exact this
 generalize c=c at ec
 -- something odd
 have t2:=QG (a:=a) (st:=st) (j:=j) (x:=x1) (m:=9) (by decide) (by decide)
 have i2:=wR (x:=x1) (m:=9) (by decide)
 let l9:List PV:=[.int 8,.int (-1),.bl true,.non,.str "0",.tup [.int 0],.int (10 ^ 39),.int 0,.int 7];obtain ⟨o,ho,e9⟩:=jw (l:=l9) (i:=x1 % 9) (st:=st ++ .l [.int (x1 / 9)]::j) i2.1 i2.2;have hoP:okP o=true:=Au.mp (show l9.all okP=true from rfl) o ho;have hoPl:wU o=true:=WN hoP;generalize x1 / 9=x2 at t2 e9;let n7:List PV:=[.tup [o,.int c.2],.tup [.int c.1,o],.lst [.int c.1,.int c.2],.tup [.int c.1,.int c.2,.int 0],.tup (wl [.int c.1,.int c.2] none (some 1)),o,cP c];have h7:∀ p∈n7,okP p=true:=qKs (qBF (show 2≤1000 by decide) fun p hp=>by
   simp only [AD,AR,BC] at hp;rcases hp with rfl |rfl
   ·exact hoPl
   ·rfl) (qBF (show 2≤1000 by decide) fun p hp=>by
   simp only [AD,AR,BC] at hp;rcases hp with rfl |rfl
   ·rfl
   ·exact hoPl) rfl rfl (qBF (Ac wn (show 2≤1000 by decide)) fun p hp=>by
   have:=W3 hp
   simp only [AD,AR,BC] at this;rcases this with rfl |rfl <;> rfl) hoP rfl
 let W:=F.map cP;have hWl:W.length≤41:=hW;have hWo:∀ p∈W,okP p=true:=jB;let F1:PV->PV:=fun p => .tup (qCv W (k:Int) p);let l8:PV := .tup (wl W none (some (k:Int))++wl W (some (k:Int)) (some ((k:Int) + 1))++wl W (some (k:Int)) none);let l3:List PV:=[.tup (HT.cutS W none none (-1)),.lst W,.tup (W++[cP (7,7)])];have c1:=wn (l:=W) (lo:=none) (hi:=some (k:Int));have c2:=wn (l:=W) (lo:=some (k:Int)) (hi:=some ((k:Int) + 1));have c3:=wn (l:=W) (lo:=some (k:Int)) (hi:=none);have c4:=qAO (l:=W) hWl;obtain ⟨u,hu,eu⟩:=qEw (a:=a) (st:=st) (j:=j++[.l (n7.map F1++[l8])]++[.l (n7.map F1++[l8]++l3)]) (x:=x2);let l12:List PV:=n7.map F1++[l8]++l3++[u];have h12:∀ p∈l12,okV p=true:=by
  refine WV (WV (WV ?_ (Zm ?_)) ?_) (Zm hu)
  ·intro p hp;obtain ⟨z,hz,rfl⟩:=Ag.mp hp;exact Ww (by have:=qAi (W:=W) (t:=(k:Int)) (p:=z);omega) (Jv hWo (h7 z hz))
  ·exact Ww (by rw [AZ,AZ];omega) (WV (WV (fun q hq=>hWo q (W3 hq)) (fun q hq=>hWo q (W3 hq))) (fun q hq=>hWo q (W3 hq)))
  ·exact qJ6 (Ww (by omega) fun q hq=>hWo q (qFD hq)) rfl (Ww (by rw [AZ,Aq];omega) (WV hWo (Zm rfl)))
 let J:qB:=j++[.l (n7.map F1++[l8])]++[.l l12];have hJ:J[j.length + 1]? = some (.l l12):=by show ((j++[_])++[_])[j.length + 1]? = _;rw [Aw (by rw [AZ,Aq];omega),AZ,Aq,Nat.sub_self];rfl
 obtain ⟨cs,y,q1,q2,q3⟩:=YC (a:=a) (st:=st) (j:=J) (fi:=Qn (qA (vC (.int 4)) qC)) (i:=j.length + 1) (l:=l12) rfl hJ ((wC 4).map PV.int) (x2 / 16);have hw:∀ lo hi,okV (.tup (wl w41 lo hi))=true:=fun lo hi=>Ww (by have:=wn (l:=w41) (lo:=lo) (hi:=hi);rw [qBs] at this;omega) fun p hp=>qEx p (W3 hp)
 refine ⟨cs++[.tup w41,.tup (wl w41 none (some 40)),.tup (wl w41 (some 1) none)],y,[.l (n7.map F1++[l8]),.l l12],by rw [AZ,q1];rfl,WV (fun p hp=>h12 p (q2 p hp)) (qJ6 (Ww (by rw [qBs];decide) qEx) (hw _ _) (hw _ _)),?_⟩
 rw [show j++[SO.l (n7.map F1++[l8]),.l l12]=J by show _=(j++[_])++[_];rw [A4];rfl]
 refine qu rfl ?_;unfold Zr;refine qd (wN (qK (l:=[.ref st.length,.int ((F.length:Int) + 1)]) (qL rfl (qL (qV (qK (l:=[.tup (F.map cP)]) rfl (Wr rfl (by rw [AI]))) rfl zg) qa)) t1)) ?_
 refine qd (wN (qV (qV rfl (WA (qL (WA (qL rfl (qL rfl qa)) (sz rfl)) qa) (sz rfl)) (ZB (by rw [Aq];omega))) rfl (ec _))) ?_
 refine qd (wN (qV (p := .lst l9) rfl (qK (l:=[.ref st.length,.int 9]) rfl t2) e9)) ?_;refine qd (wN (p := .lst n7) (wk (YF (qL (WA (qL rfl (qL (qV rfl rfl rfl) qa)) (sz rfl)) (qL (WA (qL (qV rfl rfl rfl) (qL rfl qa)) (sz rfl)) (qL (JH rfl) (qL (qV rfl (WA (qL rfl qa) (sz rfl)) (ZB (show 2 + 1≤1000 by decide))) (qL (Zo rfl rfl (wp rfl)) (qL rfl (qL rfl qa))))))) (sz rfl)))) ?_
 refine qd (qAE (QI (w:=⟨n7,fun _=>True⟩) (F:=F1) (ze rfl) trivial (sz rfl) fun p hp=>⟨[some (.tup (F.map cP)),some (.int (k:Int)),some p],rfl,qCR hW rfl rfl rfl⟩)) ?_;refine qd (qAc (b' := .l [.int x2]) rfl (qV (qV (Zo rfl rfl (wp rfl)) (Zo rfl (wp rfl) (wp (qV rfl rfl zg))) (ZB (show (wl W none (some (k:Int))).length + (wl W (some (k:Int)) (some ((k:Int) + 1))).length≤1000 by omega))) (Zo rfl (wp rfl) rfl) (ZB (show (wl W none (some (k:Int))++wl W (some (k:Int)) (some ((k:Int) + 1))).length + (wl W (some (k:Int)) none).length≤1000 by rw [AZ];omega))) (show 7≤1000 by decide)) ?_
 refine qd (qAE (jR (l:=n7.map F1++[l8]) (m:=l3) rfl (wk (YF (qL (qIb rfl hW) (qL (JH rfl) (qL (qV rfl (WA (qL (WA (qL rfl (qL rfl qa)) (sz rfl)) qa) (sz rfl)) (ZB (by rw [Aq];omega))) qa))) (sz rfl))) (qBN jv) rfl (sz rfl))) ?_
 refine qd (qAc (b' := .l [.int (x2 / 16)]) rfl (qK (l:=[.ref st.length]) rfl eu) (show 11≤1000 by decide)) ?_
 refine qd (wN qKO) ?_;have q4:=j7 (caps:=[6,0]) (n:=1) (w:=⟨(wC 4).map PV.int,fun _=>True⟩) (r:=[some (.ref st.length),some (.tup (F.map cP)),some (.int (k:Int)),some (cP c),some o,some (.lst n7),some (.ref (st.length + 1 + (j.length + 1))),some (.tup w41)]) (st:=st ++ .l [.int (x2 / 16)]::J) (itN (by decide) (by decide) rfl) q3 (by rw [q1];exact wt (by rw [AI,wH];decide))
 have hjl:(j++[SO.l (n7.map F1++[l8])]).length=j.length + 1:=by rw [AZ,Aq]
 rw [hjl];exact qx (wk (jR (wk q4) (wk (YF (qL rfl (qL (Zo rfl rfl (wp rfl)) (qL (Zo rfl (wp rfl) rfl) qa))) (sz rfl))) rfl rfl (by rw [q1];exact wt (show 4 + 3≤100000 by decide))))
end K01
end
noncomputable section
namespace K01
open PySem EV EX
theorem qCz {a:Ad} {st:qB} {n:Nat} {l m:List PV} (hlm:l.length=m.length) (hl:l.length≤1000) (h:∀ z∈Wl l m,∃ u v,z = .tup [u,v]∧qf (n + 1) a [u,v] st = .ok (.bl true) st):qf (n + 2) a [.lst l,.lst m] st = .ok (.bl true) st:=by
 refine qu (N:=2) (B:=Ql a (qf (n + 1) a)) rfl ?_;unfold Ql;refine qy (QU (qj (qK (l:=[.lst m,.tup [.ty "tuple",.ty "list"]]) rfl rfl)) (qd (QV (QY (we (qV (qK (l:=[.lst l,.ty "tuple"]) rfl rfl) (qK (l:=[.lst m,.ty "tuple"]) rfl rfl) rfl)) (we (qV (qK (l:=[.lst l,.ty "list"]) rfl rfl) (qK (l:=[.lst m,.ty "list"]) rfl rfl) rfl))) rfl) (qx ?_)));unfold zy;rw [qV (p := .int (l.length:Int)) (q := .int (l.length:Int)) (s1:=st) (s2:=st) (R := .ok (.bl true) st) (qK (l:=[.lst l]) rfl (Wr rfl rfl)) (qK (l:=[.lst m]) rfl (Wr rfl (by rw [hlm]))) (by rw [zV,Aj])]
 show qI Ze _ _ _=_;refine qK (l:=[.lst ((Wl l m).map fun p => .bl ((fun _=>true) p))]) (qL (wk (QI (w:=⟨Wl l m,fun s=>WG s (.lst l)=some l∧WG s (.lst m)=some m⟩) (F:=fun _ => .bl true) rfl ⟨rfl,rfl⟩ (by show (Wl l m).length≤_;rw [Ja hlm];exact Ac hl (by decide)) fun z hz => ?_)) qa) ?_
 ·obtain ⟨u,v,rfl,e⟩:=h z hz;exact ⟨[some u,some v],rfl,qK (l:=[u,v]) rfl e⟩
 ·rw [yO];congr 2;rw [Au];intro p _;rfl
theorem qEk {a:Ad} {st:qB} {n:Nat} {s:Str}:qf (n + 1) a [.str s,.str s] st = .ok (.bl true) st:=by refine qu (N:=2) (B:=Ql a (qf n a)) rfl ?_;unfold Ql;refine qd (QV (qj (qK (l:=[.str s,.tup [.ty "tuple",.ty "list"]]) rfl rfl)) rfl) (qx ?_);refine jn (qV (p := .str s) (q := .str s) (s1:=st) (s2:=st) (R := .ok (.bl true) st) rfl rfl ?_) rfl;show Rs.ok (PV.bl (s==s)) st=_;rw [Aj]
def R8:List Int:=[1,2,3,4,5,6,7,8]
theorem yY {h:Int} (m:h∈R8):1≤h∧h≤8:=by simp only [R8,AD,AR,BC] at m;omega
theorem qKo {x:Int}:1 + x % 8∈R8:=by
 have h:x % 8=0∨x % 8=1∨x % 8=2∨x % 8=3∨x % 8=4∨x % 8=5∨x % 8=6∨x % 8=7:=by omega
 rcases h with h |h |h |h |h |h |h |h <;> rw [h] <;> decide
def qC2 (h w:Int):List qh:=(wC h).flatMap fun r=>(wC w).map fun c=>(r,c)
def Y0 (h w:Int):List qh:=(wC (h * w)).map fun k=>(k / w,k % w)
theorem qGo:(R8.all fun h=>R8.all fun w=>decide (qC2 h w=Y0 h w)&&(if h * w > 40 then okI " are more than " (h * w) 40 else true))=true:=by decide +kernel
theorem JX {h w:Int} (h1:h∈R8) (h2:w∈R8):qC2 h w=Y0 h w∧(if h * w > 40 then okI " are more than " (h * w) 40 else true)=true:=by have e:=qGo;simp only [Au,Ab,BR] at e;exact e h h1 w h2
theorem ZQ {a:Ad} {v:PV} {st:qB} (h:wU v=true):Qw a [v,.int 1,.int 8] st=if qk 1 8 v=true then .ok .non st else .ex ⟨a.Z2,[]⟩ st:=by unfold Qw QM;rw [AF (show [v,PV.int 1,.int 8].length=3 from rfl)];unfold ZS Q9 wF Qd;rw [WY (l:=[v,.int 1,.int 8]) (st':=st) rfl,zn h];cases hw:qk 1 8 v <;> rfl
theorem Yv {a:Ad} {v:PV} {st:qB} (h:wU v=true) (hw:qk 1 8 v=true):Qw a [v,.int 1,.int 8] st = .ok .non st:=by rw [ZQ h,AF hw]
theorem qE2 {a:Ad} {v:PV} {st:qB} (h:wU v=true) (hw:qk 1 8 v=false):Qw a [v,.int 1,.int 8] st = .ex ⟨a.Z2,[]⟩ st:=by rw [ZQ h,hw];rfl
theorem in8 {h:Int} (m:h∈R8):qk 1 8 (.int h)=true:=by have:=yY m;simp [qk,this.1,this.2]
theorem Zd {h w:Int} {r:qv} {st:qB} {f g:FE} (m:h∈R8) (e1:f r st = .ok (.int h) st) (e2:g r st = .ok (.int w) st):qN Wd f g r st = .ok (.int (h * w)) st:=qV e1 e2 (qI7 (by have:=yY m;omega))
theorem qGr {fi:FI} {g:FG} {rest:FL} {r r':qv} {st:qB} {p:PV} {R:Rs (List PV)} (h:g p r=some r') (h2:rest r' st=R):Qi ⟨fi,g,[]⟩ rest r p st=R:=by unfold Qi;dsimp only;rw [h];exact h2
theorem qE5 {h w:Int} {r:qv} {st:qB} (h1:h∈R8) (h2:w∈R8) (r0:r[0]? = some (some (.int h))) (r1:r[1]? = some (some (.int w))):qt [1] 2 (Qn (qA (qD 0) qC)) (qq 1) [] [⟨(Qn (qA (qD 0) qC)),(qq 2),[]⟩] (QT (qA (qD 1) (qA (qD 2) qC))) r st = .ok ((qC2 h w).map cP) st:=by
 have b1:=yY h1;have b2:=yY h2;have hc:Wz [1] 2 r=[some (.int w),none,none]:=by unfold Wz;show [(r[1]?).join]++_=_;rw [r1];rfl
 have e:qz (fun _=>True) (Qi ⟨Qn (qA (qD 0) qC),qq 1,[]⟩ (Q7 [⟨(Qn (qA (qD 0) qC)),(qq 2),[]⟩] (QT (qA (qD 1) (qA (qD 2) qC)))) [some (.int w),none,none]) ((wC h).map PV.int) st = .ok (((wC h).map PV.int).flatMap fun p=>((wC w).map PV.int).flatMap fun q=>[.tup [p,q]]) st:=by
  refine Wa trivial fun p hp => ?_;refine qGr rfl ?_;show ((Qn (qA (qD 0) qC)) [some (.int w),some p,none] st).bind _=_;rw [itN (L:=w) (by omega) (by omega) rfl]
  show qz _ _ _ _=_;refine Wa trivial fun q hq => ?_;exact qBX rfl (WA (qL rfl (qL rfl qa)) (sz rfl))
 have e2:(((wC h).map PV.int).flatMap fun p=>((wC w).map PV.int).flatMap fun q=>[.tup [p,q]])=(qC2 h w).map cP:=by unfold qC2;rw [List.flatMap_map,List.map_flatMap];congr 1;funext r;rw [List.flatMap_map,A1,← List.map_eq_flatMap];rfl
 rw [e2] at e;have hl:((qC2 h w).map cP).length≤sizeLine:=by
  rw [AI,(JX h1 h2).1];unfold Y0;rw [AI,wH]
  have:h * w≤8 * 8:=Int.mul_le_mul b1.2 b2.2 (by omega) (by omega)
  exact wt (by omega)
 exact j7 (w:=⟨(wC h).map PV.int,fun _=>True⟩) (itN (L:=h) (by omega) (by omega) (qL (qFl r0) qa)) (by rw [hc];exact e) hl
theorem qJN {a:Ad} {h w:Int} {st:qB} (h1:h∈R8) (h2:w∈R8) (hw:¬ h * w > 40):Qj a [.int h,.int w] st = .ok (.tup ((Y0 h w).map cP)) st:=by refine qu rfl ?_;unfold W1;rw [← (JX h1 h2).1];exact qd (yB (qK rfl (Yv rfl (in8 h1)))) (qd (yB (qK rfl (Yv rfl (in8 h2)))) (qd (QV (we (qV (Zd h1 rfl rfl) rfl (qBJ hw))) rfl) (qx (qK (qL (wk (qE5 h1 h2 rfl rfl)) qa) (W0 rfl)))))
theorem qFX {a:Ad} {h w:Int} {st:qB} (h1:h∈R8) (h2:w∈R8) (hw:h * w > 40):Qj a [.int h,.int w] st = .ex ⟨a.Z11,[("many",h * w),("most",40)]⟩ st:=by have e:=(JX h1 h2).2;rw [AF hw] at e;refine yI rfl ?_;unfold W1;refine qd (yB (qK rfl (Yv rfl (in8 h1)))) (qd (yB (qK rfl (Yv rfl (in8 h2)))) (Yd (QU (we (qV (Zd h1 rfl rfl) rfl (JU hw))) ?_)));unfold Z0;rw [qL (Zd (w:=w) h1 rfl rfl) rfl];show (if okI " are more than " (h * w) 40=true then RS.ex ⟨a.Z11,[("many",h * w),("most",40)]⟩ st else .no)=_;rw [AF e]
theorem qEv {a:Ad} {p q:PV} {st:qB} (hp:wU p=true) (np:qk 1 8 p=false):Qj a [p,q] st = .ex ⟨a.Z2,[]⟩ st :=
 yI rfl (Yd (jM (qK rfl (qE2 hp np))))
theorem qDz {a:Ad} {p q:PV} {st:qB} (hp:wU p=true) (ip:qk 1 8 p=true) (hq:wU q=true) (nq:qk 1 8 q=false):Qj a [p,q] st = .ex ⟨a.Z2,[]⟩ st :=
 yI rfl (qd (yB (qK rfl (Yv hp ip))) (Yd (jM (qK rfl (qE2 hq nq)))))
theorem qIi {a:Ad} {p q z:PV} {st:qB} (e:Qj a [p,q] st = .ok z st):Qs a [p,q] st = .ok z st:=by refine qu rfl ?_;unfold W6 YI;rw [qx (qK (l:=[p,q]) rfl e)]
theorem qEg {a:Ad} {p q z:PV} {st:qB} {x:Exc} (e:Qj a [p,q] st = .ex x st)
  (h:(if x.cls∈[a.Z11] then qAb 2 3 (qm (vFz (Q6 (qA (qI (wq a) (qA (qD 2) qC)) (qA (yZ a.Z11 "many" (qD 2)) (qA (yZ a.Z11 "most" (qD 2)) qC)))))) x st else if x.cls∈ZJ a then qAb 2 3 (qm (qI (wq a) (qA (qD 2) qC))) x st else .no) = .rt z st):Qs a [p,q] st = .ok z st:=by refine qu rfl ?_;unfold W6 YI;rw [qEs (qK (l:=[p,q]) rfl e)];exact h
theorem qF6 {a:Ad} (hd:Dist a):a.Z2 ∉ [a.Z11]:=by have nd:=hd.nd;unfold Ad.kinds at nd;simp only [BD,AD,AR,not_or,BC] at nd;obtain ⟨_,⟨_,_,_,_,_,_,_,_,n1⟩,_⟩:=nd;exact fun z=>(AD.mp z).elim n1 fun y=>(AR y).elim
theorem YL {a:Ad} (hd:Dist a) {p q:PV} {st:qB} (e:Qj a [p,q] st = .ex ⟨a.Z2,[]⟩ st):Qs a [p,q] st = .ok (.str "! number") st:=by
 refine qEg e ?_;rw [AJ (qF6 hd),AF (show a.Z2∈ZJ a by unfold ZJ;simp)]
 unfold qAb;rw [qx (p := .str "! number") (s1:=st) (qK (l:=[.exc a.Z2 []]) (s1:=st) rfl (Jd hd))]
theorem qEc {C:Addr} {n:Str} {f:FE} {r:qv} {st s1:qB} {p:PV} {i:Int} (h:f r st = .ok p s1) (h2:qCT C n p=some i):yZ C n f r st = .ok (.int i) s1:=by unfold yZ;rw [h];show (match qCT C n p with |some i=>Rs.ok (PV.int i) s1 |none => .no)=_;rw [h2]
theorem gx {C:Addr} {n:Str} {fs:List (Str×Int)} {i:Int} (h:fs.lookup n=some i):qCT C n (.exc C fs)=some i:=(AF rfl).trans h
theorem qFF {a:Ad} (hd:Dist a) {p q:PV} {st:qB} {m n:Int} (e:Qj a [p,q] st = .ex ⟨a.Z11,[("many",m),("most",n)]⟩ st):Qs a [p,q] st = .ok (.lst [.str "! many",.int m,.int n]) st:=by refine qEg e ?_;rw [AF (show a.Z11∈[a.Z11] from AH)];unfold qAb;rw [qx (p := .lst [.str "! many",.int m,.int n]) (s1:=st) (wk (YF (qL (qK (l:=[.exc a.Z11 [("many",m),("most",n)]]) (s1:=st) rfl (qDj hd)) (qL (qEc (p := .exc a.Z11 [("many",m),("most",n)]) (s1:=st) rfl (gx rfl)) (qL (qEc (p := .exc a.Z11 [("many",m),("most",n)]) (s1:=st) rfl (gx rfl)) qa))) (sz rfl)))]
theorem qJ4 {h w:Int} {r:qv} {st:qB} (h1:h∈R8) (h2:w∈R8) (r1:r[1]? = some (some (.int h))) (r2:r[2]? = some (some (.int w))):qI wL (qA (vFz (qt [2] 1 (Qn (qA (qN Wd (qD 1) (qD 2)) qC)) (qq 1) [] [] (QT (qA (qN yo (qD 1) (qD 0)) (qA (qN ZM (qD 1) (qD 0)) qC))))) qC) r st = .ok (.tup ((Y0 h w).map cP)) st:=by
 have b1:=yY h1;have b2:=yY h2;have hm:h * w≤8 * 8:=Int.mul_le_mul b1.2 b2.2 (by omega) (by omega)
 have h0:0≤h * w:=Int.mul_nonneg (by omega) (by omega)
 have hc:Wz [2] 1 r=[some (.int w),none]:=by unfold Wz;show [(r[2]?).join]++_=_;rw [r2];rfl
 let G:PV->PV:=fun p=>match p with
  | .int k=>cP (k / w,k % w)
  |_=>p
 have e:=QI (caps:=[2]) (n:=1) (fi:=Qn (qA (qN Wd (qD 1) (qD 2)) qC)) (g:=qq 1) (f:=QT (qA (qN yo (qD 1) (qD 0)) (qA (qN ZM (qD 1) (qD 0)) qC))) (r:=r) (st:=st) (w:=⟨(wC (h * w)).map PV.int,fun _=>True⟩) (F:=G) (itN h0 (by omega) (qL (Zd h1 (qFl r1) (qFl r2)) qa)) trivial (by rw [AI,wH];exact wt (by omega)) fun p hp=>by obtain ⟨k,_,rfl⟩:=Ag.mp hp;exact ⟨[some (.int w),some (.int k)],by rw [hc];rfl,WA (qL (qV rfl rfl (qHv ⟨by omega,by omega⟩)) (qL (qV rfl rfl (qHy (by omega))) qa)) (sz rfl)⟩
 have e2:((wC (h * w)).map PV.int).map G=(Y0 h w).map cP:=by unfold Y0;rw [A1,A1];rfl
 rw [← e2];exact qK (qL (wk e) qa) (W0 rfl)
theorem qED {a:Ad} (hd:Dist a) {st j:qB} {x h w:Int} (h1:h∈R8) (h2:w∈R8):∃ y,zu a [.ref st.length,.int h,.int w] (st ++ .l [.int x]::j) = .ok (.bl true) (st ++ .l [.int y]::j):=by
 have b1:=yY h1;have b2:=yY h2;have hm:h * w≤8 * 8:=Int.mul_le_mul b1.2 b2.2 (by omega) (by omega)
 have t:=QG (a:=a) (st:=st) (j:=j) (x:=x) (m:=8) (by decide) (by decide)
 have hx:=wR (x:=x) (m:=8) (by decide)
 let l8:List PV:=[.int 0,.int 9,.int (-1),.bl true,.non,.str "3",.tup [.int 2],.int (10 ^ 39)];obtain ⟨o,ho,e8⟩:=jw (l:=l8) (i:=x % 8) (st:=st ++ .l [.int (x / 8)]::j) hx.1 hx.2;have ho2:(wU o && !qk 1 8 o)=true:=Au.mp (show (l8.all fun p=>wU p && !qk 1 8 p)=true from rfl) o ho;rw [Ab,Bool.not_eq_true'] at ho2;let D:PV:=if h * w > 40 then .lst [.str "! many",.int (h * w),.int 40] else .tup ((Y0 h w).map cP);have ed:Q9 (vTB (qN gGt (qN Wd (qD 1) (qD 2)) (vC (.int 40)))) (QJ 3 (vFz (Q6 (qA (vC (.str "! many")) (qA (qN Wd (qD 1) (qD 2)) (qA (vC (.int 40)) qC)))))) Qo [some (.ref st.length),some (.int h),some (.int w),some (.tup ((Y0 h w).map cP)),none] (st ++ .l [.int x]::j) = .nx [some (.ref st.length),some (.int h),some (.int w),some D,none] (st ++ .l [.int x]::j):=by
  by_cases q:h * w > 40
  ·simp only [D,AF q];exact QU (we (qV (Zd h1 rfl rfl) rfl (JU q))) (wN (wk (YF (qL rfl (qL (Zd h1 rfl rfl) (qL rfl qa))) (sz rfl))))
  ·simp only [D,AJ q];exact QV (we (qV (Zd h1 rfl rfl) rfl (qBJ q))) rfl
 have ea:∀ S,Qs a [.int h,.int w] S = .ok D S:=fun S=>by
  by_cases q:h * w > 40
  ·simp only [D,AF q];exact qFF hd (qFX h1 h2 q)
  ·simp only [D,AJ q];exact qIi (qJN h1 h2 q)
 have es:∀ S,qf 3 a [D,D] S = .ok (.bl true) S:=fun S=>by
  by_cases q:h * w > 40
  ·simp only [D,AF q];refine qCz (n:=1) rfl (show 3≤1000 by decide) fun z hz => ?_
   obtain ⟨u,hu,rfl⟩:=j9 z hz;refine ⟨u,u,rfl,?_⟩;simp only [AD,AR,BC] at hu;rcases hu with rfl |rfl |rfl
   ·exact qEk
   ·exact Ya
   ·exact Ya
  ·simp only [D,AJ q];exact Zc (by unfold Y0;rw [AI,wH];omega)
 refine ⟨x / 8,qu rfl ?_⟩;unfold yg;refine qd (wN (qJ4 h1 h2 rfl rfl)) (qd ed ?_);refine qd (wN (qV (p := .lst l8) rfl (qK (l:=[.ref st.length,.int 8]) rfl t) e8)) ?_;refine qd (QV (QY (we (qV (qK (l:=[o,.int w]) rfl (YL hd (qEv ho2.1 ho2.2))) rfl rfl)) (we (qV (qK (l:=[.int h,o]) rfl (YL hd (qDz rfl (in8 h1) ho2.1 ho2.2))) rfl rfl))) rfl) ?_;exact qx (qK (l:=[D,D]) (qL (qK (l:=[.int h,.int w]) rfl (ea _)) (qL rfl qa)) (es _))
theorem qGV {a:Ad} {st j:qB} {x:Int}:∃ (vs:List PV) (y:Int),(∀ v∈vs,okV v=true)∧ZX a [.ref st.length] (st ++ .l [.int x]::j) = .ok (.lst vs) (st ++ .l [.int y]::j):=by
 have t1:=QG (a:=a) (st:=st) (j:=j) (x:=x) (m:=81) (by decide) (by decide)
 have t2:=QG (a:=a) (st:=st) (j:=j) (x:=x / 81) (m:=81) (by decide) (by decide)
 have t3:=QG (a:=a) (st:=st) (j:=j) (x:=x / 81 / 81) (m:=2) (by decide) (by decide)
 generalize x % 81=b1 at t1;generalize x / 81 % 81=b2 at t2;generalize x / 81 / 81 % 2=b3 at t3;generalize x / 81 / 81 / 2=x3 at t3;have t4:=QG (a:=a) (st:=st) (j:=j) (x:=x3) (m:=3) (by decide) (by decide)
 generalize x3 % 3=at' at t4;generalize x3 / 3=x4 at t4;have t5:=QG (a:=a) (st:=st) (j:=j) (x:=x4) (m:=11) (by decide) (by decide)
 have i5:=wR (x:=x4) (m:=11) (by decide)
 let l11:List PV:=[.int 41,.int (-41),.int 40,.int (-40),.int 2,.bl true,.non,.str "1",.int (10 ^ 39),.int (-1),.tup [.int 0]];obtain ⟨o,ho,e11⟩:=jw (l:=l11) (i:=x4 % 11) (st:=st ++ .l [.int (x4 / 11)]::j) i5.1 i5.2;have hoP:okP o=true:=Au.mp (show l11.all okP=true from rfl) o ho;generalize x4 / 11=x5 at t5 e11;obtain ⟨u,hu,eu⟩:=qEw (a:=a) (st:=st) (j:=j) (x:=x5);let W:List PV:=[.int (b1 - 40),.int (b2 - 40),.int b3];have hW:∀ p∈W,okP p=true:=fun p hp=>by simp only [W,AD,AR,BC] at hp;rcases hp with rfl |rfl |rfl <;> rfl
 have hWl:W.length≤41:=show 3≤41 by decide
 let vs:List PV:=[.tup W,.tup (qCv W at' o),.tup (wl W none (some 2)),.tup (W++[.int 0]),.lst W,u];have hvs:∀ v∈vs,okV v=true:=fun v hv=>by
  simp only [vs,AD,AR,BC] at hv;rcases hv with rfl |rfl |rfl |rfl |rfl |rfl
  ·exact Ww (show 3≤1000 by decide) hW
  ·exact Ww (by have:=qAi (W:=W) (t:=at') (p:=o);omega) (Jv hW hoP)
  ·exact Ww (by have:=wn (l:=W) (lo:=none) (hi:=some 2);omega) fun q hq=>hW q (W3 hq)
  ·exact Ww (show 4≤1000 by decide) (WV hW (Zm rfl))
  ·rfl
  ·exact hu
 refine ⟨vs,x5 / 16,hvs,qu rfl ?_⟩;unfold YE;refine qd (wN (p := .tup W) (WA (qL (qV (qK (l:=[.ref st.length,.int 81]) rfl t1) rfl YJ) (qL (qV (qK (l:=[.ref st.length,.int 81]) rfl t2) rfl YJ) (qL (qK (l:=[.ref st.length,.int 2]) rfl t3) qa))) (sz rfl))) ?_;refine qd (wN (qK (l:=[.ref st.length,.int 3]) rfl t4)) ?_;refine qd (wN (qV (p := .lst l11) rfl (qK (l:=[.ref st.length,.int 11]) rfl t5) e11)) ?_;exact qx (wk (YF (qL rfl (qL (qCR hWl rfl rfl rfl) (qL (Zo rfl rfl (wp rfl)) (qL (qV rfl (WA (qL rfl qa) (sz rfl)) (ZB (show 3 + 1≤1000 by decide))) (qL (JH rfl) (qL (qK (l:=[.ref st.length]) rfl eu) qa)))))) (sz rfl)))
theorem qEy {a:Ad} {S:qB} {x0 x1 x2 x3 x5 x6:Option PV}:∀ (vs:List PV) (x4:Option PV),(∀ v∈vs,okV v=true) -> ∃ y4,Q4 (fun _=>True) (wP 4) (qHh a) vs [x0,x1,x2,x3,x4,x5,x6] S = .nx [x0,x1,x2,x3,y4,x5,x6] S
 |[],x4,_=>⟨x4,WR trivial⟩
 |v::vs,x4,h=>by have hv:=h v AH;obtain ⟨y,e⟩:=qEy (a:=a) (S:=S) (x0:=x0) (x1:=x1) (x2:=x2) (x3:=x3) (x5:=x5) (x6:=x6) vs (some v) fun u hu=>h u (AE _ hu);exact ⟨y,ZZ trivial rfl (QV (w_not (b:=true) (qj (qK (qL (qK (l:=[v]) rfl (qEp hv)) (qL (qK (l:=[v]) rfl (qDH hv)) qa)) qCZ))) rfl) e⟩
theorem qFK {a:Ad} {S:qB} {x0 x1 x2 x3 x5 x6:Option PV}:∀ (vs:List PV) (x4:Option PV),(∀ v∈vs,okV v=true) -> ∃ y4,Q4 (fun _=>True) (wP 4) (qHn a) vs [x0,x1,x2,x3,x4,x5,x6] S = .nx [x0,x1,x2,x3,y4,x5,x6] S
 |[],x4,_=>⟨x4,WR trivial⟩
 |v::vs,x4,h=>by have hv:=h v AH;obtain ⟨y,e⟩:=qFK (a:=a) (S:=S) (x0:=x0) (x1:=x1) (x2:=x2) (x3:=x3) (x5:=x5) (x6:=x6) vs (some v) fun u hu=>h u (AE _ hu);exact ⟨y,ZZ trivial rfl (QV (w_not (b:=true) (qj (qK (qL (qK (l:=[v]) rfl (qIw hv)) (qL (qK (l:=[v]) rfl (qGR hv)) qa)) qCZ))) rfl) e⟩
theorem qG1 {a:Ad} (hd:Dist a) {ns:List Int} {k:Int} {st:qB} {x2 x3 x4 x5 x6:Option PV} (h0:0≤k):∃ y2 y3 y4 y5 y6 st',Z3 a [some (.lst (ns.map PV.int)),some (.int k),x2,x3,x4,x5,x6] st = .nx [some (.lst (ns.map PV.int)),some (.int k),y2,y3,y4,y5,y6] st':=by
 obtain ⟨x,ex⟩:=qIR (a:=a) (ns:=ns) (k:=k) (st:=st) h0;have t1:=QG (a:=a) (st:=st) (j:=[]) (x:=x) (m:=4) (by decide) (by decide)
 have hL:=wR (x:=x) (m:=4) (by decide)
 have hL1:2≤2 + x % 4:=by omega
 have hL2:2 + x % 4≤5:=by omega
 generalize hLe:2 + x % 4=L at hL1 hL2;obtain ⟨F,y,g,hF,ef⟩:=qFy (a:=a) (st:=st) (j:=[]) (x:=x / 4) hL1 hL2;rw [List.nil_append] at ef;obtain ⟨vs,y1,g1,hvl,hvs,ev⟩:=qDA (a:=a) (st:=st) (j:=g) (x:=y) hF.len;generalize g++g1=G1 at ev;have hFv:okV (.tup (F.map cP))=true:=Ww (by rw [AI];have:=hF.len;omega) jB
 have hall:∀ v∈PV.tup (F.map cP)::vs,okV v=true:=fun v hv=>by
  rcases AD.mp hv with rfl |hv
  ·exact hFv
  ·exact hvs v hv
 obtain ⟨z4,e4⟩:=qEy (a:=a) (S:=st ++ .l [.int y1]::G1) (x0:=some (.lst (ns.map PV.int))) (x1:=some (.int k)) (x2:=some (.ref st.length)) (x3:=some (.tup (F.map cP))) (x5:=x5) (x6:=x6) (PV.tup (F.map cP)::vs) x4 hall;obtain ⟨bs,y2,hbs,eb⟩:=qGV (a:=a) (st:=st) (j:=G1) (x:=y1);obtain ⟨w4,e5⟩:=qFK (a:=a) (S:=st ++ .l [.int y2]::G1) (x0:=some (.lst (ns.map PV.int))) (x1:=some (.int k)) (x2:=some (.ref st.length)) (x3:=some (.tup (F.map cP))) (x5:=x5) (x6:=x6) bs z4 hbs;have t2:=QG (a:=a) (st:=st) (j:=G1) (x:=y2) (m:=8) (by decide) (by decide)
 have t3:=QG (a:=a) (st:=st) (j:=G1) (x:=y2 / 8) (m:=8) (by decide) (by decide)
 obtain ⟨y3,e6⟩:=qED hd (st:=st) (j:=G1) (x:=y2 / 8 / 8) (qKo (x:=y2)) (qKo (x:=y2 / 8));refine ⟨some (.ref st.length),some (.tup (F.map cP)),w4,some (.int (low (F.map (·.1)))),some (.int (low (F.map (·.2)))),st ++ .l [.int y3]::G1,?_⟩;unfold Z3;refine qd (wN (p := .ref st.length) (s1:=st++[.l [.int x]]) (qK (qL rfl (qL rfl qa)) ex)) ?_;refine qd (wN (qK (l:=[.ref st.length,.int L]) (qL rfl (qL (qV rfl (qK (l:=[.ref st.length,.int 4]) rfl t1) (by rw [zg,hLe])) qa)) ef)) ?_
 refine qd (YD (ze (wk (jR (l:=[.tup (F.map cP)]) (m:=vs) (wk (YF (qL rfl qa) (sz rfl))) (qK (l:=[.ref st.length,.tup (F.map cP)]) rfl ev) rfl rfl (by rw [hvl];exact sz rfl)))) e4) ?_
 refine qd (YD (ze (qK (l:=[.ref st.length]) rfl eb)) e5) ?_;refine qd (QV (w_not (b:=true) (qj (qK (qL (qK (l:=[.tup (F.map cP)]) rfl (qDa hF.len)) (qL (qHu rfl hF.len) qa)) (Zc (by rw [qFH,AI];have:=hF.len;omega))))) rfl) ?_
 refine qd (qFa (qJe rfl hF.len) rfl) ?_;refine qd (QV (w_not (b:=true) (qj (qK (qL (qK (l:=[.tup (F.map cP)]) rfl (qE1 hF.len)) (qL (qJ5 rfl hF.len rfl) qa)) (Zc (F:=mvd F) (by unfold mvd;rw [AI];have:=hF.len;omega))))) rfl) ?_
 exact QV (w_not (b:=true) (qj (qK (l:=[.ref st.length,.int (1 + y2 % 8),.int (1 + y2 / 8 % 8)]) (qL rfl (qL (qV rfl (qK (l:=[.ref st.length,.int 8]) rfl t2) zg) (qL (qV rfl (qK (l:=[.ref st.length,.int 8]) rfl t3) zg) qa))) e6))) rfl
theorem Jh {a:Ad} (hd:Dist a) {ns:List Int}:∀ (ks:List Int) (x1 x2 x3 x4 x5 x6:Option PV) (st:qB),(∀ k∈ks,0≤k) -> ∃ e st',Q4 (fun _=>True) (wP 1) (Z3 a) (ks.map PV.int) [some (.lst (ns.map PV.int)),x1,x2,x3,x4,x5,x6] st = .nx e st'
 |[],x1,x2,x3,x4,x5,x6,st,_=>⟨_,st,WR trivial⟩
 |k::ks,x1,x2,x3,x4,x5,x6,st,h=>by obtain ⟨y2,y3,y4,y5,y6,st1,e⟩:=qG1 (a:=a) hd (ns:=ns) (k:=k) (st:=st) (x2:=x2) (x3:=x3) (x4:=x4) (x5:=x5) (x6:=x6) (h k AH);obtain ⟨e',st',e2⟩:=Jh hd (ns:=ns) ks (some (.int k)) y2 y3 y4 y5 y6 st1 fun q hq=>h q (AE _ hq);exact ⟨e',st',ZZ trivial rfl e e2⟩
theorem law_true:∀ (a:Ad) (ns:List Int),Dist a->ns.length≤63->(∀ k∈ns,Builtin.Int.intBits k≤2 ^ 20) -> ∃ st,qAB a [.lst (ns.map PV.int)] [] = .ok (.bl true) st:=by
 intro a ns hd hl hb;obtain ⟨n,hn0,hn4,hn⟩:∃ n:Int,0≤n∧n≤5∧qI qDp (qA (vC (.int 1)) (qA (qI qEE (qA (qI w8 (qA (qD 0) qC)) (qA (vC (.int 5)) qC))) qC)) (QZ 7 [.lst (ns.map PV.int)]) [] = .ok (.int n) []:=by
  refine ⟨if (if (5:Int) < ns.length then 5 else (ns.length:Int)) > 1 then (if (5:Int) < ns.length then 5 else (ns.length:Int)) else 1,?_,?_,?_⟩
  ·split <;> (try split) <;> omega
  ·split <;> (try split) <;> omega
  ·exact qK (qL rfl (qL (qK (l:=[.int ns.length,.int 5]) (qL (qK (qL rfl qa) (Wr (l:=ns.map PV.int) rfl (by rw [AI]))) (qL rfl qa)) rfl) qa)) rfl
 obtain ⟨e,st',h⟩:=Jh hd (wC n) none none none none none none [] fun k hk=>by have:=upto_mem.mp hk;omega
 exact ⟨st',qu rfl (qd (YD (itN hn0 (by omega) (qL hn qa)) h) (qx rfl))⟩
end K01
end
section

end
noncomputable section
namespace K01
open PySem PySem.Spec PyProof.Rows L2 EX EV
theorem qG5 {a:Ad} {x:Addr} {c:Value} {b:Bool} (h:kit a (.ref x) c=some b):x∈wg a:=by
 cases c with
 |ref d =>
  have h:(if x∈wg a∧d∈a.kinds then some (x==d) else none)=some b:=h;split at h
  ·rename_i hx;exact hx.1
  ·cases h
 |type T =>
  have h:(if x∈wg a∧T = "ValueError" then some true else none)=some b:=h;split at h
  ·rename_i hx;exact hx.1
  ·cases h
 |_=>cases h
theorem qCm {K:W.Frag}:∀ p∈kitTab,W.kitOne K (.type p.1.1) (.type p.1.2)=some p.2:=by intro p hp;unfold kitTab at hp;simp only [AD,AR,BC] at hp;rcases hp with rfl |rfl |rfl |rfl |rfl |rfl |rfl |rfl |rfl |rfl |rfl |rfl |rfl |rfl |rfl |rfl |rfl |rfl |rfl |rfl |rfl |rfl |rfl |rfl |rfl |rfl |rfl |rfl <;> rfl
theorem Jk {s T:String} {b:Bool}:∀ {l:List ((String×String)×Bool)},l.lookup (s,T)=some b->((s,T),b)∈l
 |[],h=>by cases h
 |(q,k)::l,h=>by
  rw [Ap] at h;split at h
  ·rename_i e;cases h;rw [eq_of_beq e];exact AH
  ·exact AE _ (Jk h)
theorem qHW {K:W.Frag} {s T:String} {b:Bool} (h:qKF s T=some b):W.kitOne K (.type s) (.type T)=some b:=qCm _ (Jk h)
theorem QO {a:Ad} (h:Dist a):a.Z2≠a.Z1∧a.Z2≠a.Z3∧a.Z2≠a.Z4∧a.Z2≠a.Z5∧a.Z2≠a.Z6∧a.Z2≠a.Z7∧a.Z2≠a.Z8∧a.Z2≠a.Z9∧a.Z2≠a.Z10∧a.Z2≠a.Z11:=by have nd:=h.nd;unfold Ad.kinds at nd;simp only [BD,AD,AR,not_or,BC] at nd;refine ⟨?_,?_,?_,?_,?_,?_,?_,?_,?_,?_⟩ <;> (intro z;simp only [z,not_true_eq_false,false_and,and_false] at nd)
theorem QW {a:Ad} (h:Dist a):a.Z11≠a.Z1∧a.Z11≠a.Z2∧a.Z11≠a.Z3∧a.Z11≠a.Z4∧a.Z11≠a.Z5∧a.Z11≠a.Z6∧a.Z11≠a.Z7∧a.Z11≠a.Z8∧a.Z11≠a.Z9∧a.Z11≠a.Z10:=by have nd:=h.nd;unfold Ad.kinds at nd;simp only [BD,AD,AR,not_or,BC] at nd;refine ⟨?_,?_,?_,?_,?_,?_,?_,?_,?_,?_⟩ <;> (intro z;simp only [z,not_true_eq_false,false_and,and_false] at nd)
def jt (e:DictEntry):Bool:=match e.key with
 | .str _ _=>true
 |_=>false
theorem yy {K:W.Frag} {N:Addr} {c:Value} {dd:Option Addr} {es:Array DictEntry} {ep:Nat} {sl:Array (Option Value)} (h:K.lookup N=some ⟨c,dd,.dict es ep,sl⟩) (hl:es.toList.all jt=true):W.nsOkIn K N=true:=by unfold W.nsOkIn;rw [show List.lookup N K=_ from h];show (es.all fun e=>match e.key with | .str _ _=>true |_=>false)=true;rw [← Array.all_toList];exact hl
theorem qB6 {K:W.Frag} {B:Addr} {cdB:ClassData} {cB:Value} {dB:Option Addr} {slB:Array (Option Value)} (hB:K.lookup B=some ⟨cB,dB,.cls cdB,slB⟩) (hnB:W.nsOkIn K cdB.ns=true) (hiB:W.nsIn K cdB.ns "__init__" = some none):W.tailIn K bmV (.ref B::bmV)=true:=by rw [W.tailIn.eq_2,show List.lookup B K=_ from hB];dsimp only;rw [hnB,hiB];rfl
theorem qFv {K:W.Frag} {C:Addr} {dd:Option Addr} {cd:ClassData} {sl:Array (Option Value)} {c:Value} (h:K.lookup C=some ⟨c,dd,.cls cd,sl⟩):W.clsIn K C=some cd:=by unfold W.clsIn;rw [show List.lookup C K=_ from h]
theorem qIN {K:W.Frag} {C B:Addr} {dd:Option Addr} {cd cdB:ClassData} {sl:Array (Option Value)} {k0 k1 k2 k3 k5:Option Value} {cB:Value} {dB:Option Addr} {slB:Array (Option Value)} (hC:K.lookup C=some ⟨.type "type",dd,.cls cd,sl⟩) (hm:cd.mro = .ref C :: .ref B::bmV)
  (hs:sl.toList=[k0,k1,k2,k3,some (.builtin "ValueError.__new__"),k5]) (hD:cd.hasDel=false) (hn:W.nsOkIn K cd.ns=true) (hi:W.nsIn K cd.ns "__init__" = some none) (hB:K.lookup B=some ⟨cB,dB,.cls cdB,slB⟩) (hnB:W.nsOkIn K cdB.ns=true) (hiB:W.nsIn K cdB.ns "__init__" = some none) :
  W.excIn K C bmV "ValueError.__new__" = true:=by have t:=qB6 hB hnB hiB;obtain ⟨nm,bs,mro,ns,qn,hd,sn,sb,ab,co,del⟩:=cd;obtain ⟨sl⟩:=sl;have hm:mro=_:=hm;have hs:sl=_:=hs;have hD:del=false:=hD;subst hm;subst hs;subst hD;unfold W.excIn;rw [show List.lookup C K=_ from hC];show (C==C&&("ValueError.__new__" == "ValueError.__new__") && !false&&W.tailIn K bmV (.ref B::bmV)&&W.nsOkIn K ns&&(W.nsIn K ns "__init__" == some none))=true;rw [t,show W.nsOkIn K ns=true from hn,show W.nsIn K ns "__init__" = some none from hi];simp
theorem qHE {P:Program} {w:World} {K:W.Frag} {mg:Str->Option Value} {base:Heap} {CX:CXT} {k:Nat} {f:Addr} {fd:FuncData} {ps:List Str} {sp sp':Sp} (F:FnOk P w K mg base CX k f fd ps sp) (h:∀ vs H Q E,sp' vs H Q E->sp vs H Q E):FnOk P w K mg base CX k f fd ps sp' :=
 ⟨fun vs H Q E q=>F.len vs H Q E (h vs H Q E q),fun A outer s H args us vs Q E hr e b v q=>F.run A outer s H args us vs Q E hr e b v (h vs H Q E q)⟩
def spL (K:W.Frag):Sp:=fun vs H Q E => ∀ a,Dist a->spG K 1 (qAB a) vs H Q E
theorem all_mk {l:W.OpenLaw} {w:World} {K:W.Frag} {h:Heap} {mg:Str->Option Value} {fa:Addr} (X:K.In h) (G:h.Ns mainGlobals mg) (hfa:mg "law" = some (.ref fa))
  {c_Z0 c_Z1 c_Z2 c_Z3 c_Z4 c_Z5 c_Z6 c_Z7 c_Z8 c_Z9 c_Z10 c_Z11 ff0 ff1 ff2 ff3 ff4 ff5 ff6 ff7 ff8 ff9 ff10 ff11 ff12 ff13 ff14 ff15 ff16 ff17 ff18 ff19 ff20 ff21 ff22 ff23 ff24 ff25 ff26:Addr}
  {t_MOST_CELLS:Tok}
  {t_LAST_LINE:Tok}
  {t_FURTHEST:Tok}
  {t_ACROSS:Tok}
  {t_DOWN:Tok}
  {ddB:Option Addr} {cdB:ClassData} {slB:Array (Option Value)}
  {NB:Addr} {cNB:Value} {dNB:Option Addr} {esB:Array DictEntry} {epB:Nat} {sNB:Array (Option Value)}
  {xdd_Z2:Option Addr} {xcd_Z2:ClassData} {xsl_Z2:Array (Option Value)} {xk0_Z2 xk1_Z2 xk2_Z2 xk3_Z2 xk5_Z2:Option Value} {xN_Z2:Addr} {xc_Z2:Value} {xd2_Z2:Option Addr} {xes_Z2:Array DictEntry} {xep_Z2:Nat} {xs2_Z2:Array (Option Value)}
  {xdd_Z11:Option Addr} {xcd_Z11:ClassData} {xsl_Z11:Array (Option Value)} {xk0_Z11 xk1_Z11 xk2_Z11 xk3_Z11 xk5_Z11:Option Value} {xN_Z11:Addr} {xc_Z11:Value} {xd2_Z11:Option Addr} {xes_Z11:Array DictEntry} {xep_Z11:Nat} {xs2_Z11:Array (Option Value)}
  {fi_Z11:Addr} {iod_Z11 ian_Z11:Option Addr} {isl_Z11:Array (Option Value)} {ioc_Z11 ikV_Z11 idc_Z11 ipm_Z11 icd_Z11 ict_Z11:Value}
  (aa0:W.nsIn K mainGlobals "is_whole" = some (some (.ref ff0)))
  (ll0:K.lookup ff0=some ⟨oc0,od0,.func (W.fnOf "is_whole" "is_whole" (qg WL) (qY WL) (qJ WL) .none kV0 dc0 pm0 an0 cd0 ct0),sl0⟩)
  (dd0:W.codeIn K cd0 "is_whole" = true)
  (kk0:W.keepIn K (.ref ff0)=true)
  (aa1:W.nsIn K mainGlobals "is_whole_within" = some (some (.ref ff1)))
  (ll1:K.lookup ff1=some ⟨oc1,od1,.func (W.fnOf "is_whole_within" "is_whole_within" (qg Qc) (qY Qc) (qJ Qc) .none kV1 dc1 pm1 an1 cd1 ct1),sl1⟩)
  (dd1:W.codeIn K cd1 "is_whole_within" = true)
  (kk1:W.keepIn K (.ref ff1)=true)
  (aa2:W.nsIn K mainGlobals "is_rising" = some (some (.ref ff2)))
  (ll2:K.lookup ff2=some ⟨oc2,od2,.func (W.fnOf "is_rising" "is_rising" (qg w6) (qY w6) (qJ w6) .none kV2 dc2 pm2 an2 cd2 ct2),sl2⟩)
  (dd2:W.codeIn K cd2 "is_rising" = true)
  (kk2:W.keepIn K (.ref ff2)=true)
  (aa3:W.nsIn K mainGlobals "need_number" = some (some (.ref ff3)))
  (ll3:K.lookup ff3=some ⟨oc3,od3,.func (W.fnOf "need_number" "need_number" (qg wI) (qY wI) (qJ wI) .none kV3 dc3 pm3 an3 cd3 ct3),sl3⟩)
  (dd3:W.codeIn K cd3 "need_number" = true)
  (kk3:W.keepIn K (.ref ff3)=true)
  (aa4:W.nsIn K mainGlobals "is_cell" = some (some (.ref ff4)))
  (ll4:K.lookup ff4=some ⟨oc4,od4,.func (W.fnOf "is_cell" "is_cell" (qg Wj) (qY Wj) (qJ Wj) .none kV4 dc4 pm4 an4 cd4 ct4),sl4⟩)
  (dd4:W.codeIn K cd4 "is_cell" = true)
  (kk4:W.keepIn K (.ref ff4)=true)
  (aa5:W.nsIn K mainGlobals "is_floor" = some (some (.ref ff5)))
  (ll5:K.lookup ff5=some ⟨oc5,od5,.func (W.fnOf "is_floor" "is_floor" (qg WJ) (qY WJ) (qJ WJ) .none kV5 dc5 pm5 an5 cd5 ct5),sl5⟩)
  (dd5:W.codeIn K cd5 "is_floor" = true)
  (kk5:W.keepIn K (.ref ff5)=true)
  (aa6:W.nsIn K mainGlobals "box_floor" = some (some (.ref ff6)))
  (ll6:K.lookup ff6=some ⟨oc6,od6,.func (W.fnOf "box_floor" "box_floor" (qg wQ) (qY wQ) (qJ wQ) .none kV6 dc6 pm6 an6 cd6 ct6),sl6⟩)
  (dd6:W.codeIn K cd6 "box_floor" = true)
  (kk6:W.keepIn K (.ref ff6)=true)
  (aa7:W.nsIn K mainGlobals "mirrored" = some (some (.ref ff7)))
  (ll7:K.lookup ff7=some ⟨oc7,od7,.func (W.fnOf "mirrored" "mirrored" (qg WM) (qY WM) (qJ WM) .none kV7 dc7 pm7 an7 cd7 ct7),sl7⟩)
  (dd7:W.codeIn K cd7 "mirrored" = true)
  (kk7:W.keepIn K (.ref ff7)=true)
  (aa8:W.nsIn K mainGlobals "moved" = some (some (.ref ff8)))
  (ll8:K.lookup ff8=some ⟨oc8,od8,.func (W.fnOf "moved" "moved" (qg ZG) (qY ZG) (qJ ZG) .none kV8 dc8 pm8 an8 cd8 ct8),sl8⟩)
  (dd8:W.codeIn K cd8 "moved" = true)
  (kk8:W.keepIn K (.ref ff8)=true)
  (aa9:W.nsIn K mainGlobals "is_bar" = some (some (.ref ff9)))
  (ll9:K.lookup ff9=some ⟨oc9,od9,.func (W.fnOf "is_bar" "is_bar" (qg Wm) (qY Wm) (qJ Wm) .none kV9 dc9 pm9 an9 cd9 ct9),sl9⟩)
  (dd9:W.codeIn K cd9 "is_bar" = true)
  (kk9:W.keepIn K (.ref ff9)=true)
  (aa10:W.nsIn K mainGlobals "_law_cell" = some (some (.ref ff10)))
  (ll10:K.lookup ff10=some ⟨oc10,od10,.func (W.fnOf "_law_cell" "_law_cell" (qg WF) (qY WF) (qJ WF) .none kV10 dc10 pm10 an10 cd10 ct10),sl10⟩)
  (dd10:W.codeIn K cd10 "_law_cell" = true)
  (kk10:W.keepIn K (.ref ff10)=true)
  (aa11:W.nsIn K mainGlobals "_law_box" = some (some (.ref ff11)))
  (ll11:K.lookup ff11=some ⟨oc11,od11,.func (W.fnOf "_law_box" "_law_box" (qg Wi) (qY Wi) (qJ Wi) .none kV11 dc11 pm11 an11 cd11 ct11),sl11⟩)
  (dd11:W.codeIn K cd11 "_law_box" = true)
  (kk11:W.keepIn K (.ref ff11)=true)
  (aa12:W.nsIn K mainGlobals "_law_take" = some (some (.ref ff12)))
  (ll12:K.lookup ff12=some ⟨oc12,od12,.func (W.fnOf "_law_take" "_law_take" (qg WT) (qY WT) (qJ WT) .none kV12 dc12 pm12 an12 cd12 ct12),sl12⟩)
  (dd12:W.codeIn K cd12 "_law_take" = true)
  (kk12:W.keepIn K (.ref ff12)=true)
  (aa13:W.nsIn K mainGlobals "_law_whole" = some (some (.ref ff13)))
  (ll13:K.lookup ff13=some ⟨oc13,od13,.func (W.fnOf "_law_whole" "_law_whole" (qg ww) (qY ww) (qJ ww) .none kV13 dc13 pm13 an13 cd13 ct13),sl13⟩)
  (dd13:W.codeIn K cd13 "_law_whole" = true)
  (kk13:W.keepIn K (.ref ff13)=true)
  (aa14:W.nsIn K mainGlobals "_law_odd" = some (some (.ref ff14)))
  (ll14:K.lookup ff14=some ⟨oc14,od14,.func (W.fnOf "_law_odd" "_law_odd" (qg Wh) (qY Wh) (qJ Wh) .none kV14 dc14 pm14 an14 cd14 ct14),sl14⟩)
  (dd14:W.codeIn K cd14 "_law_odd" = true)
  (kk14:W.keepIn K (.ref ff14)=true)
  (aa15:W.nsIn K mainGlobals "_law_kind" = some (some (.ref ff15)))
  (ll15:K.lookup ff15=some ⟨oc15,od15,.func (W.fnOf "_law_kind" "_law_kind" (qg WQ) (qY WQ) (qJ WQ) .none kV15 dc15 pm15 an15 cd15 ct15),sl15⟩)
  (dd15:W.codeIn K cd15 "_law_kind" = true)
  (kk15:W.keepIn K (.ref ff15)=true)
  (aa16:W.nsIn K mainGlobals "_law_same" = some (some (.ref ff16)))
  (ll16:K.lookup ff16=some ⟨oc16,od16,.func (W.fnOf "_law_same" "_law_same" (qg WH) (qY WH) (qJ WH) .none kV16 dc16 pm16 an16 cd16 ct16),sl16⟩)
  (dd16:W.codeIn K cd16 "_law_same" = true)
  (kk16:W.keepIn K (.ref ff16)=true)
  (aa17:W.nsIn K mainGlobals "_law_cover" = some (some (.ref ff17)))
  (ll17:K.lookup ff17=some ⟨oc17,od17,.func (W.fnOf "_law_cover" "_law_cover" (qg wx) (qY wx) (qJ wx) .none kV17 dc17 pm17 an17 cd17 ct17),sl17⟩)
  (dd17:W.codeIn K cd17 "_law_cover" = true)
  (kk17:W.keepIn K (.ref ff17)=true)
  (aa18:W.nsIn K mainGlobals "_law_put" = some (some (.ref ff18)))
  (ll18:K.lookup ff18=some ⟨oc18,od18,.func (W.fnOf "_law_put" "_law_put" (qg Wg) (qY Wg) (qJ Wg) .none kV18 dc18 pm18 an18 cd18 ct18),sl18⟩)
  (dd18:W.codeIn K cd18 "_law_put" = true)
  (kk18:W.keepIn K (.ref ff18)=true)
  (aa19:W.nsIn K mainGlobals "_law_floor" = some (some (.ref ff19)))
  (ll19:K.lookup ff19=some ⟨oc19,od19,.func (W.fnOf "_law_floor" "_law_floor" (qg wz) (qY wz) (qJ wz) .none kV19 dc19 pm19 an19 cd19 ct19),sl19⟩)
  (dd19:W.codeIn K cd19 "_law_floor" = true)
  (kk19:W.keepIn K (.ref ff19)=true)
  (aa20:W.nsIn K mainGlobals "_law_is_floor" = some (some (.ref ff20)))
  (ll20:K.lookup ff20=some ⟨oc20,od20,.func (W.fnOf "_law_is_floor" "_law_is_floor" (qg Q0) (qY Q0) (qJ Q0) .none kV20 dc20 pm20 an20 cd20 ct20),sl20⟩)
  (dd20:W.codeIn K cd20 "_law_is_floor" = true)
  (kk20:W.keepIn K (.ref ff20)=true)
  (aa21:W.nsIn K mainGlobals "_law_is_bar" = some (some (.ref ff21)))
  (ll21:K.lookup ff21=some ⟨oc21,od21,.func (W.fnOf "_law_is_bar" "_law_is_bar" (qg wX) (qY wX) (qJ wX) .none kV21 dc21 pm21 an21 cd21 ct21),sl21⟩)
  (dd21:W.codeIn K cd21 "_law_is_bar" = true)
  (kk21:W.keepIn K (.ref ff21)=true)
  (aa22:W.nsIn K mainGlobals "_law_others" = some (some (.ref ff22)))
  (ll22:K.lookup ff22=some ⟨oc22,od22,.func (W.fnOf "_law_others" "_law_others" (qg wZ) (qY wZ) (qJ wZ) .none kV22 dc22 pm22 an22 cd22 ct22),sl22⟩)
  (dd22:W.codeIn K cd22 "_law_others" = true)
  (kk22:W.keepIn K (.ref ff22)=true)
  (aa23:W.nsIn K mainGlobals "_law_bars" = some (some (.ref ff23)))
  (ll23:K.lookup ff23=some ⟨oc23,od23,.func (W.fnOf "_law_bars" "_law_bars" (qg WO) (qY WO) (qJ WO) .none kV23 dc23 pm23 an23 cd23 ct23),sl23⟩)
  (dd23:W.codeIn K cd23 "_law_bars" = true)
  (kk23:W.keepIn K (.ref ff23)=true)
  (aa24:W.nsIn K mainGlobals "_law_asked" = some (some (.ref ff24)))
  (ll24:K.lookup ff24=some ⟨oc24,od24,.func (W.fnOf "_law_asked" "_law_asked" (qg wS) (qY wS) (qJ wS) .none kV24 dc24 pm24 an24 cd24 ct24),sl24⟩)
  (dd24:W.codeIn K cd24 "_law_asked" = true)
  (kk24:W.keepIn K (.ref ff24)=true)
  (aa25:W.nsIn K mainGlobals "_law_boxed" = some (some (.ref ff25)))
  (ll25:K.lookup ff25=some ⟨oc25,od25,.func (W.fnOf "_law_boxed" "_law_boxed" (qg wu) (qY wu) (qJ wu) .none kV25 dc25 pm25 an25 cd25 ct25),sl25⟩)
  (dd25:W.codeIn K cd25 "_law_boxed" = true)
  (kk25:W.keepIn K (.ref ff25)=true)
  (aa26:W.nsIn K mainGlobals "law" = some (some (.ref ff26)))
  (ll26:K.lookup ff26=some ⟨oc26,od26,.func (W.fnOf "law" "law" (qg zi) (qY zi) (qJ zi) .none kV26 dc26 pm26 an26 cd26 ct26),sl26⟩)
  (dd26:W.codeIn K cd26 "law" = true)
  (kk26:W.keepIn K (.ref ff26)=true)
  (n_ValueError:W.nsIn K mainGlobals "ValueError" = some none)
  (n_abs:W.nsIn K mainGlobals "abs" = some none)
  (n_all:W.nsIn K mainGlobals "all" = some none)
  (n_bool:W.nsIn K mainGlobals "bool" = some none)
  (n_int:W.nsIn K mainGlobals "int" = some none)
  (n_isinstance:W.nsIn K mainGlobals "isinstance" = some none)
  (n_len:W.nsIn K mainGlobals "len" = some none)
  (n_list:W.nsIn K mainGlobals "list" = some none)
  (n_max:W.nsIn K mainGlobals "max" = some none)
  (n_min:W.nsIn K mainGlobals "min" = some none)
  (n_range:W.nsIn K mainGlobals "range" = some none)
  (n_set:W.nsIn K mainGlobals "set" = some none)
  (n_sorted:W.nsIn K mainGlobals "sorted" = some none)
  (n_sum:W.nsIn K mainGlobals "sum" = some none)
  (n_tuple:W.nsIn K mainGlobals "tuple" = some none)
  (n_zip:W.nsIn K mainGlobals "zip" = some none)
  (g_MOST_CELLS:W.nsIn K mainGlobals "MOST_CELLS" = some (some (.int 40 t_MOST_CELLS)))
  (g_LAST_LINE:W.nsIn K mainGlobals "LAST_LINE" = some (some (.int 7 t_LAST_LINE)))
  (g_FURTHEST:W.nsIn K mainGlobals "FURTHEST" = some (some (.int 40 t_FURTHEST)))
  (g_ACROSS:W.nsIn K mainGlobals "ACROSS" = some (some (.int 0 t_ACROSS)))
  (g_DOWN:W.nsIn K mainGlobals "DOWN" = some (some (.int 1 t_DOWN)))
  (q_Z0:W.nsIn K mainGlobals "BarError" = some (some (.ref c_Z0)))
  (q_Z1:W.nsIn K mainGlobals "NoLength" = some (some (.ref c_Z1)))
  (q_Z2:W.nsIn K mainGlobals "NoNumber" = some (some (.ref c_Z2)))
  (q_Z3:W.nsIn K mainGlobals "NoBars" = some (some (.ref c_Z3)))
  (q_Z4:W.nsIn K mainGlobals "NoBox" = some (some (.ref c_Z4)))
  (q_Z5:W.nsIn K mainGlobals "NoWeights" = some (some (.ref c_Z5)))
  (q_Z6:W.nsIn K mainGlobals "NoSorts" = some (some (.ref c_Z6)))
  (q_Z7:W.nsIn K mainGlobals "NoTurn" = some (some (.ref c_Z7)))
  (q_Z8:W.nsIn K mainGlobals "NoPlace" = some (some (.ref c_Z8)))
  (q_Z9:W.nsIn K mainGlobals "NoText" = some (some (.ref c_Z9)))
  (q_Z10:W.nsIn K mainGlobals "NoRow" = some (some (.ref c_Z10)))
  (q_Z11:W.nsIn K mainGlobals "TooMany" = some (some (.ref c_Z11)))
  (oB:K.lookup c_Z0=some ⟨.type "type",ddB,.cls cdB,slB⟩)
  (nB:cdB.ns=NB)
  (oNB:K.lookup NB=some ⟨cNB,dNB,.dict esB epB,sNB⟩)
  (eNB:esB.toList.all jt=true)
  (iNB:W.nsIn K NB "__init__" = some none)
  (bB:W.mroIn K c_Z0 (.type "BaseException")=some true)
  (xl_Z2:K.lookup c_Z2=some ⟨.type "type",xdd_Z2,.cls xcd_Z2,xsl_Z2⟩)
  (xm_Z2:xcd_Z2.mro = .ref c_Z2 :: .ref c_Z0::bmV)
  (xs_Z2:xsl_Z2.toList=[xk0_Z2,xk1_Z2,xk2_Z2,xk3_Z2,some (.builtin "ValueError.__new__"),xk5_Z2])
  (xd_Z2:xcd_Z2.hasDel=false)
  (xn_Z2:xcd_Z2.ns=xN_Z2)
  (xo_Z2:K.lookup xN_Z2=some ⟨xc_Z2,xd2_Z2,.dict xes_Z2 xep_Z2,xs2_Z2⟩)
  (xe_Z2:xes_Z2.toList.all jt=true)
  (xi_Z2:W.nsIn K xN_Z2 "__init__" = some none)
  (e_Z2:W.mroIn K c_Z2 (.ref c_Z0)=some true)
  (v_Z2:W.kitOne K (.ref c_Z2) (.type "ValueError")=some true)
  (w_Z2_Z1:W.kitOne K (.ref c_Z2) (.ref c_Z1)=some false)
  (w_Z2_Z2:W.kitOne K (.ref c_Z2) (.ref c_Z2)=some true)
  (w_Z2_Z3:W.kitOne K (.ref c_Z2) (.ref c_Z3)=some false)
  (w_Z2_Z4:W.kitOne K (.ref c_Z2) (.ref c_Z4)=some false)
  (w_Z2_Z5:W.kitOne K (.ref c_Z2) (.ref c_Z5)=some false)
  (w_Z2_Z6:W.kitOne K (.ref c_Z2) (.ref c_Z6)=some false)
  (w_Z2_Z7:W.kitOne K (.ref c_Z2) (.ref c_Z7)=some false)
  (w_Z2_Z8:W.kitOne K (.ref c_Z2) (.ref c_Z8)=some false)
  (w_Z2_Z9:W.kitOne K (.ref c_Z2) (.ref c_Z9)=some false)
  (w_Z2_Z10:W.kitOne K (.ref c_Z2) (.ref c_Z10)=some false)
  (w_Z2_Z11:W.kitOne K (.ref c_Z2) (.ref c_Z11)=some false)
  (ga_Z2:W.findIn K (.ref c_Z2) "__getattribute__" = some (some (.builtin "BaseException.__getattribute__")))
  (gn_Z2:W.findIn K (.ref c_Z2) "__getattr__" = some none)
  (fo_Z2:∀ od,W.findObj K c_Z2 od "__class__" = some (.bind (.builtin "getset_descriptor.__get__") (.builtin "object.__class__")))
  (mo_Z2:W.mroIn K c_Z2 (.type "object")=some true)
  (mb_Z2:W.mroIn K c_Z2 (.type "BaseException")=some true)
  (xl_Z11:K.lookup c_Z11=some ⟨.type "type",xdd_Z11,.cls xcd_Z11,xsl_Z11⟩)
  (xm_Z11:xcd_Z11.mro = .ref c_Z11 :: .ref c_Z0::bmV)
  (xs_Z11:xsl_Z11.toList=[xk0_Z11,xk1_Z11,xk2_Z11,xk3_Z11,some (.builtin "ValueError.__new__"),xk5_Z11])
  (xd_Z11:xcd_Z11.hasDel=false)
  (xn_Z11:xcd_Z11.ns=xN_Z11)
  (xo_Z11:K.lookup xN_Z11=some ⟨xc_Z11,xd2_Z11,.dict xes_Z11 xep_Z11,xs2_Z11⟩)
  (xe_Z11:xes_Z11.toList.all jt=true)
  (xi_Z11:W.nsIn K xN_Z11 "__init__" = some (some (.ref fi_Z11)))
  (il_Z11:K.lookup fi_Z11=some ⟨ioc_Z11,iod_Z11,.func (W.fnOf "__init__" "TooMany.__init__" (qg Q1) (qY Q1) (qJ Q1) .none ikV_Z11 idc_Z11 ipm_Z11 ian_Z11 icd_Z11 ict_Z11),isl_Z11⟩)
  (id_Z11:W.codeIn K icd_Z11 "TooMany.__init__" = true)
  (ik_Z11:W.keepIn K (.ref fi_Z11)=true)
  (if_Z11:W.isFn K (.ref fi_Z11)=true)
  (kp_Z11:W.keepIn K (.ref c_Z11)=true)
  (sa_Z11:W.findIn K (.ref c_Z11) "__setattr__" = some (some (.builtin "object.__setattr__")))
  (hd_Z11:xcd_Z11.hasDict=true)
  (hh_Z11:W.hasDictIn K c_Z11=true)
  (na_Z11_many:W.findIn K (.ref c_Z11) "many" = some none)
  (na_Z11_most:W.findIn K (.ref c_Z11) "most" = some none)
  (re_Z11:W.readsIn K c_Z0 (.type "type")=true)
  (fc_Z11:W.findCls K (.ref c_Z0) (.type "type") "__init__" = some (.val (.builtin "ValueError.__init__")))
  (sg_Z11:W.specialIn K (.ref c_Z0) "__getattribute__" = some (some (.builtin "type.__getattribute__")))
  (ms_Z11:W.mroIn K c_Z11 (.ref c_Z11)=some true)
  (mu_Z2_Z11:W.mroIn K c_Z2 (.ref c_Z11)=some false)
  (e_Z11:W.mroIn K c_Z11 (.ref c_Z0)=some true)
  (v_Z11:W.kitOne K (.ref c_Z11) (.type "ValueError")=some true)
  (w_Z11_Z1:W.kitOne K (.ref c_Z11) (.ref c_Z1)=some false)
  (w_Z11_Z2:W.kitOne K (.ref c_Z11) (.ref c_Z2)=some false)
  (w_Z11_Z3:W.kitOne K (.ref c_Z11) (.ref c_Z3)=some false)
  (w_Z11_Z4:W.kitOne K (.ref c_Z11) (.ref c_Z4)=some false)
  (w_Z11_Z5:W.kitOne K (.ref c_Z11) (.ref c_Z5)=some false)
  (w_Z11_Z6:W.kitOne K (.ref c_Z11) (.ref c_Z6)=some false)
  (w_Z11_Z7:W.kitOne K (.ref c_Z11) (.ref c_Z7)=some false)
  (w_Z11_Z8:W.kitOne K (.ref c_Z11) (.ref c_Z8)=some false)
  (w_Z11_Z9:W.kitOne K (.ref c_Z11) (.ref c_Z9)=some false)
  (w_Z11_Z10:W.kitOne K (.ref c_Z11) (.ref c_Z10)=some false)
  (w_Z11_Z11:W.kitOne K (.ref c_Z11) (.ref c_Z11)=some true)
  (ga_Z11:W.findIn K (.ref c_Z11) "__getattribute__" = some (some (.builtin "BaseException.__getattribute__")))
  (gn_Z11:W.findIn K (.ref c_Z11) "__getattr__" = some none)
  (fo_Z11:∀ od,W.findObj K c_Z11 od "__class__" = some (.bind (.builtin "getset_descriptor.__get__") (.builtin "object.__class__")))
  (mo_Z11:W.mroIn K c_Z11 (.type "object")=some true)
  (mb_Z11:W.mroIn K c_Z11 (.type "BaseException")=some true)
  (ds:Dist ⟨c_Z0,c_Z1,c_Z2,c_Z3,c_Z4,c_Z5,c_Z6,c_Z7,c_Z8,c_Z9,c_Z10,c_Z11,fi_Z11,ff0,ff1,ff2,ff3,ff4,ff5,ff6,ff7,ff8,ff9,ff10,ff11,ff12,ff13,ff14,ff15,ff16,ff17,ff18,ff19,ff20,ff21,ff22,ff23,ff24,ff25,ff26⟩) :
  ∃ fd:FuncData,(∀ (s:Shared) (v:Value),BindsTo s fd ⟨[v],[]⟩ [("_law_script",v)]) ∧ ∀ base:Heap,K.In base->base.Ns mainGlobals mg->FnOk l.prog w K mg base (CXF l.prog w) 8 fa fd ["_law_script"] (spL K):=by
 have e:ff26=fa:=Value.ref.inj (Ai ((AY X G aa26).symm.trans hfa));subst e;have V:Env K mg ⟨c_Z0,c_Z1,c_Z2,c_Z3,c_Z4,c_Z5,c_Z6,c_Z7,c_Z8,c_Z9,c_Z10,c_Z11,fi_Z11,ff0,ff1,ff2,ff3,ff4,ff5,ff6,ff7,ff8,ff9,ff10,ff11,ff12,ff13,ff14,ff15,ff16,ff17,ff18,ff19,ff20,ff21,ff22,ff23,ff24,ff25,ff26⟩:=by
  refine { kit:=⟨fun t c b hk => ?_,fun x c b hk => ?_⟩,n_ValueError:=Av X G n_ValueError,n_abs:=Av X G n_abs,n_all:=Av X G n_all,n_bool:=Av X G n_bool,n_int:=Av X G n_int,n_isinstance:=Av X G n_isinstance,n_len:=Av X G n_len,n_list:=Av X G n_list,n_max:=Av X G n_max,n_min:=Av X G n_min,n_range:=Av X G n_range,n_set:=Av X G n_set,n_sorted:=Av X G n_sorted,n_sum:=Av X G n_sum,n_tuple:=Av X G n_tuple,n_zip:=Av X G n_zip,c_MOST_CELLS:=⟨_,AY X G g_MOST_CELLS⟩,c_LAST_LINE:=⟨_,AY X G g_LAST_LINE⟩,c_FURTHEST:=⟨_,AY X G g_FURTHEST⟩,c_ACROSS:=⟨_,AY X G g_ACROSS⟩,c_DOWN:=⟨_,AY X G g_DOWN⟩,k_Z0:=AY X G q_Z0,k_Z1:=AY X G q_Z1,k_Z2:=AY X G q_Z2,k_Z3:=AY X G q_Z3,k_Z4:=AY X G q_Z4,k_Z5:=AY X G q_Z5,k_Z6:=AY X G q_Z6,k_Z7:=AY X G q_Z7,k_Z8:=AY X G q_Z8,k_Z9:=AY X G q_Z9,k_Z10:=AY X G q_Z10,k_Z11:=AY X G q_Z11,x_Z2:=qIN xl_Z2 xm_Z2 xs_Z2 xd_Z2 (by rw [xn_Z2];exact yy xo_Z2 xe_Z2) (by rw [xn_Z2];exact xi_Z2) oB (by rw [nB];exact yy oNB eNB) (by rw [nB];exact iNB),e_Z2:=e_Z2,xf_Z11:=⟨_,QR (st:=Q1) il_Z11 id_Z11 ik_Z11⟩,xm_Z11:=⟨⟨_,_,_,_,_,_,_,_,_,xl_Z11,xm_Z11,xs_Z11,xd_Z11,qB6 oB (by rw [nB];exact yy oNB eNB) (by rw [nB];exact iNB),by rw [xn_Z11];exact yy xo_Z11 xe_Z11,by rw [xn_Z11];exact xi_Z11⟩,if_Z11,kp_Z11,⟨sa_Z11,⟨_,qFv xl_Z11,hd_Z11,by rw [xm_Z11];rfl⟩,mo_Z11⟩⟩,xk_Z11:=⟨ga_Z11,gn_Z11,fo_Z11,mo_Z11,mb_Z11⟩,xh_Z11:=hh_Z11,xa_Z11_many:=na_Z11_many,xa_Z11_most:=na_Z11_most,xr_Z11:=re_Z11,xc_Z11:=fc_Z11,xg_Z11:=sg_Z11,o_Z11:=⟨_,_,_,xl_Z11⟩,b_Z11:=mb_Z11,e_Z11:=e_Z11,s_Z11:=ms_Z11,u_Z2_Z11:=mu_Z2_Z11,o_Z0:=⟨_,_,_,oB⟩,b_Z0:=bB,m_is_whole:=AY X G aa0,f_is_whole:=⟨_,QR (st:=WL) ll0 dd0 kk0⟩,m_is_whole_within:=AY X G aa1,f_is_whole_within:=⟨_,QR (st:=Qc) ll1 dd1 kk1⟩,m_is_rising:=AY X G aa2,f_is_rising:=⟨_,QR (st:=w6) ll2 dd2 kk2⟩,m_need_number:=AY X G aa3,f_need_number:=⟨_,QR (st:=wI) ll3 dd3 kk3⟩,m_is_cell:=AY X G aa4,f_is_cell:=⟨_,QR (st:=Wj) ll4 dd4 kk4⟩,m_is_floor:=AY X G aa5,f_is_floor:=⟨_,QR (st:=WJ) ll5 dd5 kk5⟩,m_box_floor:=AY X G aa6,f_box_floor:=⟨_,QR (st:=wQ) ll6 dd6 kk6⟩,m_mirrored:=AY X G aa7,f_mirrored:=⟨_,QR (st:=WM) ll7 dd7 kk7⟩,m_moved:=AY X G aa8,f_moved:=⟨_,QR (st:=ZG) ll8 dd8 kk8⟩,m_is_bar:=AY X G aa9,f_is_bar:=⟨_,QR (st:=Wm) ll9 dd9 kk9⟩,m_law_cell:=AY X G aa10,f_law_cell:=⟨_,QR (st:=WF) ll10 dd10 kk10⟩,m_law_box:=AY X G aa11,f_law_box:=⟨_,QR (st:=Wi) ll11 dd11 kk11⟩,m_law_take:=AY X G aa12,f_law_take:=⟨_,QR (st:=WT) ll12 dd12 kk12⟩,m_law_whole:=AY X G aa13,f_law_whole:=⟨_,QR (st:=ww) ll13 dd13 kk13⟩,m_law_odd:=AY X G aa14,f_law_odd:=⟨_,QR (st:=Wh) ll14 dd14 kk14⟩,m_law_kind:=AY X G aa15,f_law_kind:=⟨_,QR (st:=WQ) ll15 dd15 kk15⟩,m_law_same:=AY X G aa16,f_law_same:=⟨_,QR (st:=WH) ll16 dd16 kk16⟩,m_law_cover:=AY X G aa17,f_law_cover:=⟨_,QR (st:=wx) ll17 dd17 kk17⟩,m_law_put:=AY X G aa18,f_law_put:=⟨_,QR (st:=Wg) ll18 dd18 kk18⟩,m_law_floor:=AY X G aa19,f_law_floor:=⟨_,QR (st:=wz) ll19 dd19 kk19⟩,m_law_is_floor:=AY X G aa20,f_law_is_floor:=⟨_,QR (st:=Q0) ll20 dd20 kk20⟩,m_law_is_bar:=AY X G aa21,f_law_is_bar:=⟨_,QR (st:=wX) ll21 dd21 kk21⟩,m_law_others:=AY X G aa22,f_law_others:=⟨_,QR (st:=wZ) ll22 dd22 kk22⟩,m_law_bars:=AY X G aa23,f_law_bars:=⟨_,QR (st:=WO) ll23 dd23 kk23⟩,m_law_asked:=AY X G aa24,f_law_asked:=⟨_,QR (st:=wS) ll24 dd24 kk24⟩,m_law_boxed:=AY X G aa25,f_law_boxed:=⟨_,QR (st:=wu) ll25 dd25 kk25⟩,m_law:=AY X G aa26,f_law:=⟨_,QR (st:=zi) ll26 dd26 kk26⟩ }
  ·have hnd:=ds.nd;unfold kit at hk;split at hk
   ·exact qHW hk
   ·split at hk
    ·rename_i x d hx;cases hk;have hx1:=hx.1;have hx2:=hx.2;unfold wg at hx1;unfold Ad.kinds at hx2;simp only [AD,AR,BC] at hx1 hx2;rcases hx1 with e1 |e1
     ·rcases hx2 with e2 |e2 |e2 |e2 |e2 |e2 |e2 |e2 |e2 |e2 |e2
      ·rw [e1,e2,show (c_Z2==c_Z1)=false from AG.mpr (QO ds).1];exact w_Z2_Z1
      ·rw [e1,e2,Aj];exact w_Z2_Z2
      ·rw [e1,e2,show (c_Z2==c_Z3)=false from AG.mpr (QO ds).2.1];exact w_Z2_Z3
      ·rw [e1,e2,show (c_Z2==c_Z4)=false from AG.mpr (QO ds).2.2.1];exact w_Z2_Z4
      ·rw [e1,e2,show (c_Z2==c_Z5)=false from AG.mpr (QO ds).2.2.2.1];exact w_Z2_Z5
      ·rw [e1,e2,show (c_Z2==c_Z6)=false from AG.mpr (QO ds).2.2.2.2.1];exact w_Z2_Z6
      ·rw [e1,e2,show (c_Z2==c_Z7)=false from AG.mpr (QO ds).2.2.2.2.2.1];exact w_Z2_Z7
      ·rw [e1,e2,show (c_Z2==c_Z8)=false from AG.mpr (QO ds).2.2.2.2.2.2.1];exact w_Z2_Z8
      ·rw [e1,e2,show (c_Z2==c_Z9)=false from AG.mpr (QO ds).2.2.2.2.2.2.2.1];exact w_Z2_Z9
      ·rw [e1,e2,show (c_Z2==c_Z10)=false from AG.mpr (QO ds).2.2.2.2.2.2.2.2.1];exact w_Z2_Z10
      ·rw [e1,e2,show (c_Z2==c_Z11)=false from AG.mpr (QO ds).2.2.2.2.2.2.2.2.2];exact w_Z2_Z11
     ·rcases hx2 with e2 |e2 |e2 |e2 |e2 |e2 |e2 |e2 |e2 |e2 |e2
      ·rw [e1,e2,show (c_Z11==c_Z1)=false from AG.mpr (QW ds).1];exact w_Z11_Z1
      ·rw [e1,e2,show (c_Z11==c_Z2)=false from AG.mpr (QW ds).2.1];exact w_Z11_Z2
      ·rw [e1,e2,show (c_Z11==c_Z3)=false from AG.mpr (QW ds).2.2.1];exact w_Z11_Z3
      ·rw [e1,e2,show (c_Z11==c_Z4)=false from AG.mpr (QW ds).2.2.2.1];exact w_Z11_Z4
      ·rw [e1,e2,show (c_Z11==c_Z5)=false from AG.mpr (QW ds).2.2.2.2.1];exact w_Z11_Z5
      ·rw [e1,e2,show (c_Z11==c_Z6)=false from AG.mpr (QW ds).2.2.2.2.2.1];exact w_Z11_Z6
      ·rw [e1,e2,show (c_Z11==c_Z7)=false from AG.mpr (QW ds).2.2.2.2.2.2.1];exact w_Z11_Z7
      ·rw [e1,e2,show (c_Z11==c_Z8)=false from AG.mpr (QW ds).2.2.2.2.2.2.2.1];exact w_Z11_Z8
      ·rw [e1,e2,show (c_Z11==c_Z9)=false from AG.mpr (QW ds).2.2.2.2.2.2.2.2.1];exact w_Z11_Z9
      ·rw [e1,e2,show (c_Z11==c_Z10)=false from AG.mpr (QW ds).2.2.2.2.2.2.2.2.2];exact w_Z11_Z10
      ·rw [e1,e2,Aj];exact w_Z11_Z11
    ·cases hk
   ·split at hk
    ·rename_i x T hx;cases hk;have hx1:=hx.1;have hx2:=hx.2;subst hx2;unfold wg at hx1;simp only [AD,AR,BC] at hx1;rcases hx1 with e1 |e1
     ·rw [e1];exact v_Z2
     ·rw [e1];exact v_Z11
    ·cases hk
   ·cases hk
  ·have hm:=qG5 hk;unfold wg at hm;simp only [AD,AR,BC] at hm;rcases hm with e1 |e1
   ·rw [e1];exact ⟨ga_Z2,gn_Z2,fo_Z2,mo_Z2,mb_Z2⟩
   ·rw [e1];exact ⟨ga_Z11,gn_Z11,fo_Z11,mo_Z11,mb_Z11⟩
 refine ⟨W.fnOf "law" "law" (qg zi) (qY zi) (qJ zi) .none kV26 dc26 pm26 an26 cd26 ct26,fun s v => .of_eq rfl,fun base _ _ => ?_⟩;exact qHE (qJs V (QR (st:=zi) ll26 dd26 kk26)) fun vs H Q E q=>q _ ds
theorem qEJ {l:W.OpenLaw} {n k:Nat} {q:Program} {loose:List Str} {XP:(Str->Option Value)->Heap->Prop} {YP:World->Heap->Prop} {d:DefRec} {K:Params->W.Frag} {CX:World->CXT} {sp:World->Sp} {x:Str}
  (hn:l.most=some n) (hn2:n≤sizeLine) (hdf:d.params.defaults=[]) (hr:Room k callerA)
  (hY:∀ (w:World) (h:Heap),YP w h->(K w.params).In h)
  (F:∀ (w:World) (mg:Str->Option Value) (fa:Addr) (h:Heap),(K w.params).In h->h.Ns mainGlobals mg->XP mg h->mg d.name=some (.ref fa) ->
   ∃ fd:FuncData,(∀ (s:Shared) (u:Value),BindsTo s fd ⟨[u],[]⟩ [(x,u)]) ∧
    ∀ base:Heap,(K w.params).In base->base.Ns mainGlobals mg->FnOk l.prog w (K w.params) mg base (CX w) k fa fd [x] (sp w))
  (hsp:∀ (w:World) (H:Hp) (a:Addr) (ns:List Int),ns.length≤n->(∀ k∈ns,Builtin.Int.intBits k≤2 ^ 20)->qJP H->SqL (K w.params) H a (ns.map V.int)->sp w [.ref a] H (fun v _=>v = .bl true) fun _ _ _=>False)
  (hCX:∀ (w:World) (H:Hp) (s:Shared) (e:Value) (s':Shared),CX w [] H s (fun _ _ _=>False) e s'->False) :
  W.WalkO q loose XP YP l.row.toRowW d [] (fun f vs=>PySem.call f vs):=by refine Att.attach_callB hn hdf fun w s₀ s₁ mg mb fa o pm cd doc a vs ns G Y ho hd hcd hmg hobj hints hlen hbits hg => ?_;have KX:=hY w _ Y;obtain ⟨fd,hb,hF⟩:=F w mg fa _ KX G.T.g G.X hmg;exact qEU KX G.T.g G.T.b G.T.builtins G.T.nolimit hg hobj hints (Ac hlen hn2) hr hF hb (fun H hO hS=>hsp w H a ns hlen hbits hO hS) fun H e s'=>hCX w H s₁ e s'
theorem zq {K:W.Frag} {H:Hp} {b:Bz}:∀ ns:List Int,RVs K H b (ns.map PV.int) (ns.map V.int)
 |[]=>RVs.nil
 |n::ns=>RVs.cons Qx (zq ns)
theorem qEP (key:∀ (a:Ad) (ns:List Int),Dist a->ns.length≤63->(∀ k∈ns,Builtin.Int.intBits k≤2 ^ 20) -> ∃ st,qAB a [.lst (ns.map PV.int)] [] = .ok (.bl true) st) {K:W.Frag} {H:Hp} {a:Addr} {ns:List Int} (hl:ns.length≤63) (hb:∀ k∈ns,Builtin.Int.intBits k≤2 ^ 20) (hS:SqL K H a (ns.map V.int)):spL K [.ref a] H (fun v _=>v = .bl true) fun _ _ _=>False:=by
 intro ad hd;obtain ⟨st,e⟩:=key ad ns hd hl hb;refine ⟨rfl,⟨[],[]⟩,[.lst (ns.map PV.int)],[],⟨rfl,List.nodup_nil,fun i x h=>by simp at h,fun a ha=>(AR ha).elim,fun a ha=>(AR ha).elim⟩,RVs.cons ?_ RVs.nil,?_⟩
 ·unfold RV;exact ⟨a,_,rfl,hS.imp (fun h=>⟨h,AR,AR⟩) id,zq ns⟩
 ·rw [e];intro v H' b' _ _ r;unfold RV at r;exact r
theorem walk31 (key:∀ (a:Ad) (ns:List Int),Dist a->ns.length≤63->(∀ k∈ns,Builtin.Int.intBits k≤2 ^ 20) -> ∃ st,qAB a [.lst (ns.map PV.int)] [] = .ok (.bl true) st) {l:W.OpenLaw} {q:Program} {loose:List Str} {XP:(Str->Option Value)->Heap->Prop} {YP:World->Heap->Prop} {d:DefRec} {K:Params->W.Frag} (hn:l.most=some 63) (hdf:d.params.defaults=[])
  (hY:∀ (w:World) (h:Heap),YP w h->(K w.params).In h)
  (F:∀ (w:World) (mg:Str->Option Value) (fa:Addr) (h:Heap),(K w.params).In h->h.Ns mainGlobals mg->XP mg h->mg d.name=some (.ref fa) ->
   ∃ fd:FuncData,(∀ (s:Shared) (u:Value),BindsTo s fd ⟨[u],[]⟩ [("_law_script",u)]) ∧ ∀ base:Heap,(K w.params).In base->base.Ns mainGlobals mg->FnOk l.prog w (K w.params) mg base (CXF l.prog w) 8 fa fd ["_law_script"] (spL (K w.params))) :
  W.WalkO q loose XP YP l.row.toRowW d [] (fun f vs=>PySem.call f vs) :=
 qEJ (n:=63) (k:=8) (x := "_law_script") (CX:=fun w=>CXF l.prog w) (sp:=fun w=>spL (K w.params)) hn (by decide) hdf ⟨fun _=>rfl,by decide,by decide,rfl⟩ hY F (fun _ _ a ns hl hb _ hS=>qEP key hl hb hS) fun _ _ _ _ _ z=>by obtain ⟨_,_,_,_,_,_,_,_,_,_,_,_,q⟩:=z;exact q
end K01
end
section
namespace PySem.W.Fast
def tw15008910403070520993:=0
def tw14577096725589645050:=0
def tw8405832830326225291:=0
def tw557734081726336223:=0
def tw8909783760976415238:=0
def tw8755933653749806812:=0
def tw14686996100000235993:=0
def tw4569090510022049673:=0
def tw7155340768707163313:=0
def tw8618010692515211114:=0
def tw1777865283805592960:=0
def tw14018253942885813633:=0
def tw13486483179849035856:=0
def tw14048764045526763885:=0
def tw5295054417975625732:=0
def tw5246686560304510849:=0
def tw17439649948620393134:=0
def tw3569555940959337396:=0
def tw9095359094774419747:=0
def tw4119790272480828846:=0
def tw6393792668246163548:=0
def tw1509455203613631430:=0
def tw16423296684559081381:=0
def tw11891577645115540273:=0
def tw14025994411320143926:=0
def tw6727084473518058039:=0
def tw8505406559044628422:=0
def tw6305851949549203180:=0
def tw752622863427729874:=0
def tw11727671131807223666:=0
def tw773024460654004094:=0
def tw6309365072650729881:=0
def tw5050046039480080157:=0
def tw7695011935609884836:=0
def tw4779755977494383167:=0
def tw13665169037867828305:=0
def tw10005069879268509438:=0
def tw5698954611301710405:=0
def tw9932966813134241417:=0
def tw14982816500723481325:=0
def tw16043782443806237734:=0
def tw7149657983873160834:=0
def tw9819314604586749925:=0
def tw15560264204515425279:=0
def tw2877755418138206542:=0
def tw11508785013164047971:=0
def tw2348080692212641955:=0
def tw6032837891696917277:=0
def tw11046293997255643126:=0
def tw16675007508814402447:=0
def tw17392425682831111229:=0
end PySem.W.Fast
open PySem PySem.W PyProof.Rows
set_option maxRecDepth 100000 in
set_option maxHeartbeats 0 in
theorem PySem.Challenge.cw_barfloors_k01_floors_and_bars_holds : PySem.Challenge.rw_barfloors_k01_floors_and_bars.Holds := by
  w_on; o_law; k_head; (case hw => w_witness2)
  k_fill
  refine K01.walk31 K01.law_true (l := PySem.Challenge.rw_barfloors_k01_floors_and_bars) rfl rfl (fun w h Y => PySem.W.kIn_of Y) ?F
  case F =>
    intro w mg fa h KX G XX hmg
    refine' K01.all_mk KX G hmg ?zzA ?zzB ?zzC ?zzD ?zzE ?zzF ?zzG ?zzH ?zzI ?zzJ ?zzK ?zzL ?zzM ?zzN ?zzO ?zzP ?zzQ ?zzR ?zzS ?zzT ?zzU ?zzV ?zzW ?zzX ?zzY ?zzZ ?zza ?zzb ?zzc ?zzd ?zze ?zzf ?zzg ?zzh ?zzi ?zzj ?zzk ?zzl ?zzm ?zzn ?zzo ?zzp ?zzq ?zzr ?zzs ?zzt ?zzu ?zzv ?zzw ?zzx ?zzy ?zzz ?zyA ?zyB ?zyC ?zyD ?zyE ?zyF ?zyG ?zyH ?zyI ?zyJ ?zyK ?zyL ?zyM ?zyN ?zyO ?zyP ?zyQ ?zyR ?zyS ?zyT ?zyU ?zyV ?zyW ?zyX ?zyY ?zyZ ?zya ?zyb ?zyc ?zyd ?zye ?zyf ?zyg ?zyh ?zyi ?zyj ?zyk ?zyl ?zym ?zyn ?zyo ?zyp ?zyq ?zyr ?zys ?zyt ?zyu ?zyv ?zyw ?zyx ?zyy ?zyz ?zxA ?zxB ?zxC ?zxD ?zxE ?zxF ?zxG ?zxH ?zxI ?zxJ ?zxK ?zxL ?zxM ?zxN ?zxO ?zxP ?zxQ ?zxR ?zxS ?zxT ?zxU ?zxV ?zxW ?zxX ?zxY ?zxZ ?zxa ?zxb ?zxc ?zxd ?zxe ?zxf ?zxg ?zxh ?zxi ?zxj ?zxk ?zxl ?zxm ?zxn ?zxo ?zxp ?zxq ?zxr ?zxs ?zxt ?zxu ?zxv ?zxw ?zxx ?zxy ?zxz ?zwA ?zwB ?zwC ?zwD ?zwE ?zwF ?zwG ?zwH ?zwI ?zwJ ?zwK ?zwL ?zwM ?zwN ?zwO ?zwP ?zwQ ?zwR ?zwS ?zwT ?zwU ?zwV ?zwW ?zwX ?zwY ?zwZ ?zwa ?zwb ?zwc ?zwd ?zwe ?zwf ?zwg ?zwh ?zwi ?zwj ?zwk ?zwl ?zwm ?zwn ?zwo ?zwp ?zwq ?zwr ?zws ?zwt ?zwu ?zwv ?zww ?zwx ?zwy ?zwz ?zvA ?zvB ?zvC ?zvD ?zvE ?zvF ?zvG
    (case zzA|zzB|zzC|zzD|zzE|zzF|zzG|zzH|zzI|zzJ|zzK|zzL|zzM|zzN|zzO|zzP|zzQ|zzR|zzS|zzT|zzU|zzV|zzW|zzX|zzY|zzZ|zza|zzb|zzc|zzd|zze|zzf|zzg|zzh|zzi|zzj|zzk|zzl|zzm|zzn|zzo|zzp|zzq|zzr|zzs|zzt|zzu|zzv|zzw|zzx|zzy|zzz|zyA|zyB|zyC|zyD|zyE|zyF|zyG|zyH|zyI|zyJ|zyK|zyL|zyM|zyN|zyO|zyP|zyQ|zyR|zyS|zyT|zyU|zyV|zyW|zyX|zyY|zyZ|zya|zyb|zyc|zyd|zye|zyf|zyg|zyh|zyi|zyj|zyk|zyl|zym|zyn|zyo|zyp|zyq|zyr|zys|zyt|zyu|zyv|zyw|zyx|zyy|zyz|zxA|zxB|zxC|zxD|zxE|zxF|zxG|zxH|zxI|zxJ|zxK|zxL|zxM|zxN|zxO|zxP|zxQ|zxR|zxS|zxT|zxU|zxV|zxW|zxX|zxY|zxZ|zxa|zxb|zxc|zxd|zxe|zxf|zxg|zxh|zxi|zxj|zxk|zxl => k_is)
    (case zxm => rfl)
    (case zxn => k_is)
    (case zxo => rfl)
    (case zxp|zxq|zxr => k_is)
    (case zxs|zxt|zxu|zxv => rfl)
    (case zxw => k_is)
    (case zxx => rfl)
    (case zxy|zxz => k_is)
    (case zwA|zwB|zwC|zwD|zwE|zwF|zwG|zwH|zwI|zwJ|zwK|zwL => rfl)
    (case zwM|zwN => k_is)
    (case zwO => (intro od; rfl))
    (case zwP|zwQ|zwR => k_is)
    (case zwS|zwT|zwU|zwV => rfl)
    (case zwW => k_is)
    (case zwX => rfl)
    (case zwY|zwZ|zwa|zwb|zwc|zwd|zwe => k_is)
    (case zwf => rfl)
    (case zwg|zwh|zwi|zwj|zwk|zwl|zwm|zwn|zwo => k_is)
    (case zwp|zwq|zwr|zws|zwt|zwu|zwv|zww|zwx|zwy|zwz|zvA => rfl)
    (case zvB|zvC => k_is)
    (case zvD => (intro od; rfl))
    (case zvE|zvF => k_is)
    (case zvG => decide)
end
