import PyProof.Rows.All
import Wide.All
import OpenK.AllK
import Wide.FinOn
import PyProof.EqAt
import PyProof.EqKinds
import PyProof.TupleCall
import Lean
import PyProof.NeKinds
import PyProof.Rows.RuleDivmod
import PyProof.Rows.FactsN_divmod
import PyProof.DictItems
import KE.KPairComp
import PyProof.Draws
import PyProof.IsRules
import KE.KDictList
import KE.KItemsList
import PyProof.EnumMake
import PySem.Challenge.RW_barfloors_k91_floors_and_bars_written
theorem AA:type_of% @PySem.wpAny_bind:=@PySem.wpAny_bind
theorem AB:type_of% @List.length_map:=@List.length_map
theorem AC:type_of% @if_pos:=@if_pos
theorem AD:type_of% @List.mem_cons_self:=@List.mem_cons_self
theorem AE:type_of% @PySem.wpAny_pure:=@PySem.wpAny_pure
theorem AF:type_of% @PySem.Heap.get?_push_of_some:=@PySem.Heap.get?_push_of_some
theorem AG:type_of% @List.mem_cons_of_mem:=@List.mem_cons_of_mem
theorem AH:type_of% @if_neg:=@if_neg
theorem AI:type_of% @Nat.le_refl:=@Nat.le_refl
theorem AJ:type_of% @PySem.Heap.lt_size:=@PySem.Heap.lt_size
theorem AK:type_of% @List.map_cons:=@List.map_cons
theorem AL:type_of% @List.mem_cons:=@List.mem_cons
theorem AM:type_of% @List.length_cons:=@List.length_cons
theorem AN:type_of% @List.size_toArray:=@List.size_toArray
theorem AO:type_of% @decide_eq_false:=@decide_eq_false
theorem AQ:type_of% @List.mem_map:=@List.mem_map
theorem AR:type_of% @decide_eq_true:=@decide_eq_true
theorem AS:type_of% @List.getElem?_eq_getElem:=@List.getElem?_eq_getElem
theorem AT:type_of% @PySem.Heap.get?_push_size:=@PySem.Heap.get?_push_size
theorem AU:type_of% @Nat.ne_of_lt:=@Nat.ne_of_lt
theorem AV:type_of% @List.getElem?_eq_some_iff:=@List.getElem?_eq_some_iff
theorem AW:type_of% @Option.some.inj:=@Option.some.inj
theorem AX:type_of% @PySem.W.mg_of:=@PySem.W.mg_of
theorem AY:type_of% @List.mem_singleton:=@List.mem_singleton
theorem AZ:type_of% @PySem.Heap.get?_update_other:=@PySem.Heap.get?_update_other
theorem Aa:type_of% @Nat.le_trans:=@Nat.le_trans
theorem Ab:type_of% @List.length_append:=@List.length_append
theorem Ac:type_of% @List.getElem?_map:=@List.getElem?_map
theorem Ae:type_of% @List.not_mem_nil:=@List.not_mem_nil
theorem Af:type_of% @List.getD_eq_getElem?_getD:=@List.getD_eq_getElem?_getD
theorem Ag:type_of% @List.map_map:=@List.map_map
theorem Ah:type_of% @List.mem_append:=@List.mem_append
theorem Ai:type_of% @Nat.lt_of_lt_of_le:=@Nat.lt_of_lt_of_le
theorem Aj:type_of% @List.zip_cons_cons:=@List.zip_cons_cons
theorem Ak:type_of% @List.getElem?_append_left:=@List.getElem?_append_left
theorem Al:type_of% @Array.getD_eq_getD_getElem?:=@Array.getD_eq_getD_getElem?
theorem Am:type_of% @Bool.and_eq_true:=@Bool.and_eq_true
theorem An:type_of% @List.lookup_cons:=@List.lookup_cons
theorem Ao:type_of% @PySem.W.mg_none_of:=@PySem.W.mg_none_of
theorem Ap:type_of% @Bool.false_ne_true:=@Bool.false_ne_true
theorem Aq:type_of% @List.mem_append_right:=@List.mem_append_right
theorem Ar:type_of% @Array.length_toList:=@Array.length_toList
theorem As:type_of% @PySem.wpAny_holding:=@PySem.wpAny_holding
theorem At:type_of% @PySem.wpAny_callSpecial?_slot:=@PySem.wpAny_callSpecial?_slot
theorem Au:type_of% @PySem.wpAny_newObj_type:=@PySem.wpAny_newObj_type
theorem Av:type_of% @List.append_assoc:=@List.append_assoc
theorem Aw:type_of% @Array.getElem?_eq_getElem:=@Array.getElem?_eq_getElem
theorem Ax:type_of% @PySem.wpAny_field:=@PySem.wpAny_field
theorem Ay:type_of% @PySem.wpAny_call_entry:=@PySem.wpAny_call_entry
theorem Az:type_of% @beq_self_eq_true:=@beq_self_eq_true
theorem A0:type_of% @List.map_congr_left:=@List.map_congr_left
theorem A1:type_of% @List.getElem?_append_right:=@List.getElem?_append_right
theorem A2:type_of% @List.map_append:=@List.map_append
theorem A3:type_of% @List.getLast_mem:=@List.getLast_mem
theorem A4:type_of% @PySem.Heap.get?_update_self:=@PySem.Heap.get?_update_self
theorem A5:type_of% @Nat.le_of_ble_eq_true:=@Nat.le_of_ble_eq_true
theorem A6:type_of% @List.append_nil:=@List.append_nil
theorem A7:type_of% @beq_iff_eq:=@beq_iff_eq
theorem A8:type_of% @PySem.F.slot_tuple_iterator_next:=@PySem.F.slot_tuple_iterator_next
theorem A9:type_of% @PySem.Heap.size_push:=@PySem.Heap.size_push
theorem BA:type_of% @Int.toNat_natCast:=@Int.toNat_natCast
theorem BB:type_of% @Nat.lt_succ_of_lt:=@Nat.lt_succ_of_lt
theorem BC:type_of% @List.length_nil:=@List.length_nil
theorem BD:type_of% @List.pairwise_iff_getElem:=@List.pairwise_iff_getElem
theorem BE:type_of% @PySem.Obj.data_mapFields:=@PySem.Obj.data_mapFields
theorem BF:type_of% @Bool.false_eq_true:=@Bool.false_eq_true
theorem BG:type_of% @Nat.zero_le:=@Nat.zero_le
theorem BH:type_of% @PySem.wpAny_setField:=@PySem.wpAny_setField
theorem BI:type_of% @of_decide_eq_true:=@of_decide_eq_true
theorem BJ:type_of% @PyProof.Rows.callWith_type1:=@PyProof.Rows.callWith_type1
theorem BK:type_of% @List.nodup_cons:=@List.nodup_cons
theorem BL:type_of% @PyProof.Rows.KeyOrd.kle_refl:=@PyProof.Rows.KeyOrd.kle_refl
theorem BM:type_of% @beq_eq_false_iff_ne:=@beq_eq_false_iff_ne
theorem BN:type_of% @PySem.mem_of_lookup:=@PySem.mem_of_lookup
theorem BO:type_of% @Int.toNat_of_nonneg:=@Int.toNat_of_nonneg
theorem BP:type_of% @PySem.wpAny_mono:=@PySem.wpAny_mono
theorem BQ:type_of% @List.all_eq_true:=@List.all_eq_true
theorem BR:type_of% @List.mem_range:=@List.mem_range
theorem BS:type_of% @PySem.wpAny_Call_Name_kw:=@PySem.wpAny_Call_Name_kw
theorem BT:type_of% @PyProof.Rows.slot_tuple_getitem:=@PyProof.Rows.slot_tuple_getitem
theorem BU:type_of% @PySem.sizeLine_eq:=@PySem.sizeLine_eq
theorem BV:type_of% @PySem.codeAny_builtin:=@PySem.codeAny_builtin
theorem BW:type_of% @List.getElem?_set_ne:=@List.getElem?_set_ne
theorem BX:type_of% @List.mem_of_getElem?:=@List.mem_of_getElem?
theorem BY:type_of% @if_false:=@if_false
theorem BZ:type_of% @List.cons.inj:=@List.cons.inj
theorem Ba:type_of% @PySem.wpAny_typeNameOfWhole_keyiter:=@PySem.wpAny_typeNameOfWhole_keyiter
theorem Bb:type_of% @List.map_eq_nil_iff:=@List.map_eq_nil_iff
theorem Bc:type_of% @List.nodup_nil:=@List.nodup_nil
theorem Bd:type_of% @PySem.F.slot_dict_keyiterator_next:=@PySem.F.slot_dict_keyiterator_next
theorem Be:type_of% @PySem.F.plain_max_loop:=@PySem.F.plain_max_loop
theorem Bf:type_of% @List.getElem?_set_self:=@List.getElem?_set_self
theorem Bg:type_of% @List.pairwise_cons:=@List.pairwise_cons
theorem Bh:type_of% @PySem.Obj.isFreed_of_fields:=@PySem.Obj.isFreed_of_fields
theorem Bi:type_of% @List.length_singleton:=@List.length_singleton
theorem Bj:type_of% @beq_false_of_ne:=@beq_false_of_ne
theorem Bk:type_of% @Nat.lt_irrefl:=@Nat.lt_irrefl
theorem Bl:type_of% @Array.getElem?_eq_some_iff:=@Array.getElem?_eq_some_iff
theorem Bm:type_of% @PySem.wpAny_truthy_bool:=@PySem.wpAny_truthy_bool
theorem Bn:type_of% @List.nodup_append:=@List.nodup_append
theorem Bo:type_of% @PySem.Around.under_plainId:=@PySem.Around.under_plainId
theorem Bp:type_of% @PySem.wpAny_seqItems:=@PySem.wpAny_seqItems
theorem Bq:type_of% @List.getElem_mem:=@List.getElem_mem
theorem Br:type_of% @PySem.wpAny_typeNameOf_keyiter:=@PySem.wpAny_typeNameOf_keyiter
theorem Bt:type_of% @or_false:=@or_false
theorem Bu:type_of% @Nat.succ_le_succ:=@Nat.succ_le_succ
theorem Bv:type_of% @PySem.Heap.SameBut.update:=@PySem.Heap.SameBut.update
theorem Bw:type_of% @List.getElem?_replicate:=@List.getElem?_replicate
theorem Bx:type_of% @PySem.wpAny_attempt:=@PySem.wpAny_attempt
theorem By:type_of% @PySem.wpAny_newList:=@PySem.wpAny_newList
theorem B0:type_of% @List.mem_filter:=@List.mem_filter
theorem B1:type_of% @Nat.lt_of_le_of_lt:=@Nat.lt_of_le_of_lt
theorem B2:type_of% @PySem.wpAny_of_eq:=@PySem.wpAny_of_eq
theorem B3:type_of% @congrArg:=@congrArg
theorem B4:type_of% @PyProof.Rows.KeyOrd.kle_of_klt:=@PyProof.Rows.KeyOrd.kle_of_klt
theorem B5:type_of% @Nat.ne_of_gt:=@Nat.ne_of_gt
theorem B6:type_of% @Bool.and_false:=@Bool.and_false
theorem B7:type_of% @Array.getElem?_toList:=@Array.getElem?_toList
theorem B8:type_of% @List.set_append_right:=@List.set_append_right
theorem B9:type_of% @List.length_take:=@List.length_take
theorem CA:type_of% @Nat.le_add_right:=@Nat.le_add_right
theorem CB:type_of% @List.mem_iff_getElem:=@List.mem_iff_getElem
theorem CC:type_of% @PyProof.Rows.KeyOrd.kle_trans:=@PyProof.Rows.KeyOrd.kle_trans
theorem CD:type_of% @decide_eq_decide:=@decide_eq_decide
theorem CF:type_of% @PySem.wpAny_standAt:=@PySem.wpAny_standAt
theorem CG:type_of% @Bool.and_true:=@Bool.and_true
theorem CH:type_of% @Int.lt_irrefl:=@Int.lt_irrefl
theorem CI:type_of% @if_true:=@if_true
theorem CJ:type_of% @Prod.mk.inj:=@Prod.mk.inj
theorem CK:type_of% @List.filterMap_cons:=@List.filterMap_cons
theorem CL:type_of% @List.getElem?_range:=@List.getElem?_range
theorem CM:type_of% @List.length_pos_iff:=@List.length_pos_iff
theorem CN:type_of% @PySem.pushCells_keeps:=@PySem.pushCells_keeps
theorem CP:type_of% @PySem.wpAny_rule:=@PySem.wpAny_rule
theorem CQ:type_of% @PySem.typeIs_str:=@PySem.typeIs_str
theorem CS:type_of% @List.map_id:=@List.map_id
theorem CT:type_of% @PySem.plainId_quiet:=@PySem.plainId_quiet
theorem CU:type_of% @LawfulBEq.eq_of_beq:=@LawfulBEq.eq_of_beq
set_option Elab.async false
set_option linter.all false
set_option maxRecDepth 100000
set_option maxHeartbeats 0
section
namespace EX
open PySem PySem.Spec PyProof.Rows
theorem jo:entryFor table "proto.unchain" = some Builtin.«proto.unchain» := entryFor_of_fast (by kernel_rfl)
def Hnd (A:Around) (h:Heap):Prop := ∀ v,A.handled=some v -> ∃ ea oe vs,v=Value.ref ea∧h.get? ea=some oe∧oe.data = .fields vs∧vs[2]? = some .none
section
variable {prog:Program} {w:World} {A:Around} {E:Value->Shared->Prop} {s:Shared}
theorem qAV {e v:Value} {ea:Addr} {oe:Obj} {vs:Array Value} {Q:Value->Shared->Prop} (ho:s.heap.get? ea=some oe) (hd:oe.data = .fields vs) (h2:vs[2]? = some .none) (hq:Q .none s) :
  wpAny (model prog w) A (runValue (.builtin "proto.unchain" ⟨[e,.ref ea,v,.bool false],[]⟩)) Q E s:=by
 refine wpAny_runValue (BV jo ?_)
 unfold Builtin.«proto.unchain»
 dsimp only
 refine AA (Ax ho hd h2 ?_)
 rw [AC (show (Value.none==Value.none)=true by rfl)]
 refine AA (AE (AE ?_))
 exact hq
theorem Ju {α:Type} {e:Addr} {oe:Obj} {vs:Array Value} {Q:α->Shared->Prop} (hn:Hnd A s.heap) (he:s.heap.get? e=some oe) (hd:oe.data = .fields vs) (hsz:2 < vs.size) (hne:∀ ea,A.handled=some (.ref ea)->ea≠e)
  (h:∀ h' o',Heap.SameBut e s.heap h'->h'.get? e=some o'->o'.cls=oe.cls->E (.ref e) { s with heap:=h' }):wpAny (model prog w) A (raiseNew (.ref e):Sem α) Q E s:=by
 unfold raiseNew
 refine AA (wpAny_handled ?_)
 cases hh:A.handled with
 |none=>exact AA (AE (wpAny_throw (h s.heap oe (.refl ..) he rfl)))
 |some v =>
  obtain ⟨ea,o,ws,rfl,ho,hdo,h2⟩:=hn v hh
  have hne':=hne ea hh
  have hb:(Value.ref ea != Value.ref e)=true:=by
   rw [bne_iff_ne];intro z;cases z;exact hne' rfl
  dsimp only
  rw [AC hb]
  refine AA (As (qAV ho hdo h2 ?_))
  refine AA (BH (x:=Value.ref ea) he hd hsz (wpAny_throw ?_))
  exact h _ _ (Bv ..) (A4 _ he (Bh (BE hd _))) (Obj.cls_mapFields ..)
theorem W3 {α:Type} {Q:α->Shared->Prop} (hn:Hnd A s.heap) (h:∀ h' e,(∀ b o,s.heap.get? b=some o->h'.get? b=some o)->(∃ o',h'.get? e=some o'∧o'.cls = .type "StopIteration")->E (.ref e) { s with heap:=h' }) :
  wpAny (model prog w) A (newExc (.type "StopIteration") [] >>= fun e=>(raiseNew e:Sem α)) Q E s:=by
 refine AA ?_
 unfold newExc newTuple
 refine AA (Au ?_ (by size_fits))
 refine AA (m:=firstArgMember _ _) (B2 (a:=Value.none) (by first |rfl |(simp only [firstArgMember];rfl)) ?_)
 refine Au ?_ (by size_fits)
 have up:∀ {b o},s.heap.get? b=some o->((s.heap.push { cls := .type "tuple",data := .seq ([]:List Value).toArray }).push { cls := .type "StopIteration",data := .fields (#[.ref s.heap.objs.size,.none,.none,.none,.bool false,.none]++ownMembersOf (.type "StopIteration") []) }).get? b=some o:=fun q=>AF _ (AF _ q)
 refine Ju (oe:={ cls := .type "StopIteration",data := .fields (#[.ref s.heap.objs.size,.none,.none,.none,.bool false,.none]++ownMembersOf (.type "StopIteration") []) }) ?_ (AT _ rfl) rfl (by simp [ownMembersOf]) (fun ea hea => ?_) fun h' o' sb ho' hc=>h h' _ (fun b o q => ?_) ⟨o',ho',hc⟩
 ·intro v hv
  obtain ⟨ea,oe,vs,e1,e2,e3⟩:=hn v hv
  exact ⟨ea,oe,vs,e1,up e2,e3⟩
 ·obtain ⟨ea',oe,vs,e1,e2,e3⟩:=hn _ hea
  cases e1
  exact AU (Nat.lt_trans (AJ e2) (by simp))
 ·exact (sb.2 b (AU (Nat.lt_trans (AJ q) (by simp)))).trans (up q)
theorem list_end {it l:Addr} {i:Nat} {items} {Q:Option Value->Shared->Prop} (hn:Hnd A s.heap) (z1:s.heap.IsListIter it l i) (z2:s.heap.IsList l items) (z3:items[i]? = none) (z4:∀ v,A.handled=some v->v ≠ .ref it)
  (hQ:∀ h',(∀ b o,b≠it->s.heap.get? b=some o->h'.get? b=some o)->Q none { s with heap:=h' }):wpAny (model prog w) A (pyNext (.ref it)) Q E s:=by
 obtain ⟨ob,g1,g2,g3⟩:=id z1
 obtain ⟨ol,g4,_,nl,g5⟩:=z2
 unfold pyNext
 refine AA (Bx (At (name:=Str.ofString "__next__") z1.typeIs slot_listiter_next (Ay slot_listiter_next z1.typeIs entry_listiter_next ?_ (args_listiter_next _))))
 change wpAny _ A.in1 (field (Value.ref it) 0 >>= _) _ _ s
 refine AA (Ax g1 g3 (x:=Value.ref l) rfl ?_)
 change wpAny _ A.in1 (if (Value.ref l==Value.none)=true then _ else _) _ _ s
 rw [AH (fun z:(Value.ref l==Value.none)=true=>Ap z)]
 change wpAny _ A.in1 (field (Value.ref it) 1 >>= _) _ _ s
 refine AA (Ax g1 g3 (x:=Value.int i 0) rfl ?_)
 change wpAny _ A.in1 (seqItems? (Value.ref l) >>= _) _ _ s
 refine AA (Bp g4 g5 ?_)
 simp only [BA,z3]
 refine AA (CP (AA (BH g1 g3 (by simp) ?_)))
 refine W3 (A:=A.in1) ?_ fun h' e k ht => ?_
 ·intro v hv
  obtain ⟨ea,oe,vs,e1,e2,e3⟩:=hn v hv
  refine ⟨ea,oe,vs,e1,?_,e3⟩
  have hne:ea≠it:=fun z=>z4 v hv (by rw [e1,z])
  exact (AZ _ _ (Ne.symm hne)).trans e2
 ·refine AA (wpAny_isInstance (T := "StopIteration") (b:=true) ht isSubtype_stop ?_)
  exact AE (hQ _ fun b o' hb q=>k b o' ((AZ _ _ (Ne.symm hb)).trans q))
theorem tuple_end {it l:Addr} {i:Nat} {items} {Q:Option Value->Shared->Prop} (hn:Hnd A s.heap) (z1:s.heap.IsTupleIter it l i) (z2:s.heap.IsTuple l items) (z3:items[i]? = none) (z4:∀ v,A.handled=some v->v ≠ .ref it)
  (hQ:∀ h',(∀ b o,b≠it->s.heap.get? b=some o->h'.get? b=some o)->Q none { s with heap:=h' }):wpAny (model prog w) A (pyNext (.ref it)) Q E s:=by
 obtain ⟨ob,g1,g2,g3⟩:=id z1
 obtain ⟨ol,g4,_,nl,g5⟩:=z2
 unfold pyNext
 refine AA (Bx (At (name:=Str.ofString "__next__") z1.typeIs A8 (Ay A8 z1.typeIs F.entry_tuple_iterator_next ?_ (F.args_tuple_iterator_next_1 _))))
 change wpAny _ A.in1 (field (Value.ref it) 0 >>= _) _ _ s
 refine AA (Ax g1 g3 (x:=Value.ref l) rfl ?_)
 change wpAny _ A.in1 (if (Value.ref l==Value.none)=true then _ else _) _ _ s
 rw [AH (fun z:(Value.ref l==Value.none)=true=>Ap z)]
 change wpAny _ A.in1 (field (Value.ref it) 1 >>= _) _ _ s
 refine AA (Ax g1 g3 (x:=Value.int i 0) rfl ?_)
 change wpAny _ A.in1 (seqItems? (Value.ref l) >>= _) _ _ s
 refine AA (Bp g4 g5 ?_)
 simp only [BA,z3]
 refine AA (CP (AA (BH g1 g3 (by simp) ?_)))
 refine W3 (A:=A.in1) ?_ fun h' e k ht => ?_
 ·intro v hv
  obtain ⟨ea,oe,vs,e1,e2,e3⟩:=hn v hv
  refine ⟨ea,oe,vs,e1,?_,e3⟩
  have hne:ea≠it:=fun z=>z4 v hv (by rw [e1,z])
  exact (AZ _ _ (Ne.symm hne)).trans e2
 ·refine AA (wpAny_isInstance (T := "StopIteration") (b:=true) ht isSubtype_stop ?_)
  exact AE (hQ _ fun b o' hb q=>k b o' ((AZ _ _ (Ne.symm hb)).trans q))
theorem range_end {it:Addr} {x left step:Int} {Q:Option Value->Shared->Prop} (hn:Hnd A s.heap) (z1:IsRangeIter s.heap it x left step) (z2:left≤0)
  (hQ:∀ h',(∀ b o,s.heap.get? b=some o->h'.get? b=some o)->Q none { s with heap:=h' }):wpAny (model prog w) A (pyNext (.ref it)) Q E s:=by
 have z0:s.TypeIs (.ref it) "range_iterator" := ⟨_,z1,rfl⟩
 unfold pyNext
 refine AA (Bx (At (name:=Str.ofString "__next__") z0 F.slot_range_iterator_next (Ay F.slot_range_iterator_next z0 F.entry_range_iterator_next ?_ (F.args_range_iterator_next_1 _))))
 change wpAny _ A.in1 (field (Value.ref it) 0 >>= _) _ _ s
 refine AA (Ax z1 rfl (x:=rawInt x) rfl ?_)
 change wpAny _ A.in1 (field (Value.ref it) 1 >>= _) _ _ s
 refine AA (Ax z1 rfl (x:=rawInt left) rfl ?_)
 change wpAny _ A.in1 (field (Value.ref it) 2 >>= _) _ _ s
 refine AA (Ax z1 rfl (x:=rawInt step) rfl ?_)
 change wpAny _ A.in1 (if left≤0 then _ else _) _ _ s
 rw [AC z2]
 refine AA (CP (AA ?_))
 refine W3 (A:=A.in1) hn fun h' e k ht => ?_
 refine AA (wpAny_isInstance (T := "StopIteration") (b:=true) ht isSubtype_stop ?_)
 exact AE (hQ _ k)
end
end EX
end
section
namespace L2
open PySem PySem.Spec PyProof.Rows
abbrev Key:=Sum Int Str
def Yi:Key->Value->Bool
 | .inl k,v=>Value.isInt k v
 | .inr x,v=>Value.isStrOf x v
def qJS (w:World):Key->Int
 | .inl k=>hashInt k
 | .inr x=>hashStr w x
theorem QT:∀ {k:Key} {v:Value},Yi k v=true->(∃ i t,k=Sum.inl i∧v=Value.int i t)∨(∃ x t,k=Sum.inr x∧v=Value.str x t)
 | .inl i,v,h=>by
  obtain ⟨t,e⟩:=Value.isInt_shape (k:=i) (v:=v) h
  exact .inl ⟨i,t,rfl,e⟩
 | .inr x,v,h=>by
  obtain ⟨t,e⟩:=Value.isStrOf_shape (x:=x) (v:=v) h
  exact .inr ⟨x,t,rfl,e⟩
theorem qBy (i:Int) (t:Tok):Yi (.inl i) (.int i t)=true:=by simp [Yi,Value.isInt]
theorem qCW (x:Str) (t:Tok):Yi (.inr x) (.str x t)=true:=by simp [Yi,Value.isStrOf]
theorem qGX (a b:Int):decide ((Sum.inl a:Key)=Sum.inl b)=(a==b):=by
 by_cases e:a=b
 ·subst e;simp
 ·have h:¬ (Sum.inl a:Key)=Sum.inl b:=fun q=>e (Sum.inl.inj q)
  rw [AO h]
  exact (BM.mpr e).symm
theorem qGc (a b:Str):decide ((Sum.inr a:Key)=Sum.inr b)=decide (a=b):=by
 by_cases e:a=b
 ·subst e;simp
 ·have h:¬ (Sum.inr a:Key)=Sum.inr b:=fun q=>e (Sum.inr.inj q)
  rw [AO h,AO e]
theorem qHK (a:Int) (b:Str):decide ((Sum.inl a:Key)=Sum.inr b)=false:=AO (fun q=>nomatch q)
theorem qGg (a:Str) (b:Int):decide ((Sum.inr a:Key)=Sum.inl b)=false:=AO (fun q=>nomatch q)
def Qo (prog:Program) (w:World):PySem.KeyKind prog w Key where
 is:=Yi
 hash:=qJS w
 inj:=fun v a b ha hb=>by
  rcases QT ha with ⟨i,t,rfl,rfl⟩ |⟨x,t,rfl,rfl⟩
  ·rcases QT hb with ⟨j,u,rfl,e⟩ |⟨y,u,rfl,e⟩
   ·injection e with e1 _;rw [e1]
   ·exact nomatch e
  ·rcases QT hb with ⟨j,u,rfl,e⟩ |⟨y,u,rfl,e⟩
   ·exact nomatch e
   ·injection e with e1 _;rw [e1]
 byValue:=fun k v h=>by
  rcases QT h with ⟨i,t,rfl,rfl⟩ |⟨x,t,rfl,rfl⟩ <;> rfl
 pyHash:=fun hv h=>by
  rcases QT hv with ⟨i,t,rfl,rfl⟩ |⟨x,t,rfl,rfl⟩
  ·exact wpAny_pyHash_int h
  ·exact wpAny_pyHash_str h
 eqBool:=fun hu hv h=>by
  rcases QT hu with ⟨i,t,rfl,rfl⟩ |⟨x,t,rfl,rfl⟩
  ·rcases QT hv with ⟨j,u,rfl,rfl⟩ |⟨y,u,rfl,rfl⟩
   ·rw [qGX] at h;exact wpAny_eqBool_int h
   ·rw [qHK] at h;exact SeqAt.EqAt.int_str i t y u _ _ _ _ h
  ·rcases QT hv with ⟨j,u,rfl,rfl⟩ |⟨y,u,rfl,rfl⟩
   ·rw [qGg] at h;exact SeqAt.EqAt.str_int x t j u _ _ _ _ h
   ·rw [qGc] at h;exact wpAny_eqBool_str h
 «strs» := fun k x t v h=>by
  rcases QT h with ⟨i,u,rfl,e⟩ |⟨y,u,rfl,e⟩
  ·exact nomatch e
  ·injection e with e1 _
   subst e1
   cases v <;> rfl
theorem j0 (prog:Program) (w:World) (i:Int) (t:Tok):(Qo prog w).is (.inl i) (.int i t)=true:=qBy i t
theorem ju (prog:Program) (w:World) (x:Str) (t:Tok):(Qo prog w).is (.inr x) (.str x t)=true:=qCW x t
end L2
namespace L2
open PySem PySem.Spec PyProof.Rows
inductive V where
 |non |bl (b:Bool) |int (i:Int) |str (x:Str) |byt (b:Array UInt8) |flt (b:UInt64) |ref (a:Addr) |ty (n:String)
 deriving DecidableEq
def RelV:V->Value->Prop
 | .non,u=>u=Value.none
 | .bl b,u=>u=Value.bool b
 | .int i,u => ∃ t,u=Value.int i t
 | .str x,u => ∃ t,u=Value.str x t
 | .byt b,u => ∃ t,u=Value.bytes b t
 | .flt b,u => ∃ t,u=Value.float b t
 | .ref a,u=>u=Value.ref a
 | .ty n,u=>u=Value.type n
abbrev Vals:List V->List Value->Prop:=Paired RelV
theorem Vals.length {xs:List V} {us:List Value} (r:Vals xs us):xs.length=us.length:=Paired.length r
theorem Vals.get:∀ {xs:List V} {us:List Value} {i:Nat} {x:V},Vals xs us->xs[i]? = some x -> ∃ u,us[i]? = some u∧RelV x u
 |_,_,_,_,.nil,e=>by simp at e
 |_,_,0,_,.cons r _,e=>by simp at e;subst e;exact ⟨_,rfl,r⟩
 |_,_,i + 1,x,.cons _ t,e=>by
  obtain ⟨u,h1,h2⟩:=Vals.get (i:=i) (x:=x) t (by simpa using e)
  exact ⟨u,by simpa using h1,h2⟩
theorem Vals.set {x:V} {u:Value} (r:RelV x u):∀ {xs:List V} {us:List Value} (i:Nat),Vals xs us->Vals (xs.set i x) (us.set i u)
 |_,_,_,.nil => .nil
 |_,_,0,.cons _ t => .cons r t
 |_,_,i + 1,.cons q t => .cons q (Vals.set r i t)
theorem Vals.append:∀ {xs ys:List V} {us ws:List Value},Vals xs us->Vals ys ws->Vals (xs++ys) (us++ws)
 |_,_,_,_,.nil,s=>s
 |_,_,_,_,.cons r t,s => .cons r (Vals.append t s)
theorem Vals.take:∀ {xs:List V} {us:List Value} (n:Nat),Vals xs us->Vals (xs.take n) (us.take n)
 |_,_,0,_ => .nil
 |_,_,_ + 1,.nil => .nil
 |_,_,n + 1,.cons r t => .cons r (Vals.take n t)
theorem Vals.drop:∀ {xs:List V} {us:List Value} (n:Nat),Vals xs us->Vals (xs.drop n) (us.drop n)
 |_,_,0,r=>r
 |_,_,_ + 1,.nil => .nil
 |_,_,n + 1,.cons _ t=>Vals.drop n t
def RelO:Option V->Option Value->Prop
 |some v,some u=>RelV v u
 |none,none=>True
 |_,_=>False
def KV {κ:Type}:List (κ×V)->List (κ×Value)->Prop:=Paired fun (p:κ×V) (q:κ×Value)=>p.1=q.1∧RelV p.2 q.2
def kV:Key->V
 | .inl i => .int i
 | .inr x => .str x
inductive HO where
 /-- a list -/
 |lst (xs:List V)
 /-- a tuple (never changes) -/
 |tup (xs:List V)
 /-- a dict whose keys are ints and texts;one whose keys are tuples of ints and texts (the empty one is both) -/
 |dK (kvs:List (Key×V)) |dT (kvs:List (List Key×V))
 /-- a set of ints: its members,its size -/
 |set (S:Int->Bool) (n:Nat)
 /-- an instance of the class at C,its dict at dx,its attributes -/
 |ins (C dx:Addr) (fs:List (Str×V))
 /-- the dict of the instance at x -/
 |own (x:Addr)
 /-- the dict of an exception -/
 |xd (fs:List (Str×V))
 /-- a bound method,f of x -/
 |met (f x:Addr)
 /-- a range object lo,lo + 1,.. below hi -/
 |rng (lo hi:Int)
 /-- a thing that is known to the object (the script;a dict while a loop walks it): read,never written while it is so -/
 |frz (o:Obj) (u:HO)
 /-- a code object's table -/
 |tbl (ps:Array Value)
 /-- any other thing,by what is true of its one object (a def of one's own: SetO a S n:=HO.ext fun h => ..) -/
 |ext (φ:Heap->Prop)
abbrev Hp:=Addr->Option HO
def upd (H:Hp) (a:Addr) (o:HO):Hp:=fun b=>if b=a then some o else H b
theorem QL {H:Hp} {a:Addr} {o:HO}:upd H a o a=some o:=by unfold upd;rw [AC rfl]
theorem qP {H:Hp} {a b:Addr} {o:HO} (h:b≠a):upd H a o b=H b:=by unfold upd;rw [AH h]
theorem qIQ {H:Hp} {a b:Addr} {o u:HO} (h:H a=some o) (h':H b=some u) (d:o≠u):a≠b:=by
 intro e;subst e;rw [h] at h';exact d (AW h')
theorem qJ {H:Hp} {a b:Addr} {o:HO} (h:H a=some o) (h':H b=none):a≠b:=by
 intro e;subst e;rw [h] at h';cases h'
section
variable (P:Program) (w:World)
def ObjOk (H:Hp) (h:Heap) (a:Addr):HO->Prop
 | .lst xs=>xs.length≤sizeLine ∧ ∃ (its:List Value) (n:Nat),Vals xs its∧h.get? a=some { cls := .type "list",data := .seq its.toArray n }
 | .tup xs=>xs.length≤sizeLine ∧ ∃ its:List Value,Vals xs its∧IsTup h a its.toArray
 | .dK kvs=>kvs.length≤sizeLine∧(a==sysModules)=false ∧ ∃ vs,KV kvs vs∧h.DictOf (Qo P w) a vs
 | .dT kvs=>kvs.length≤sizeLine∧(a==sysModules)=false ∧ ∃ xs:List (List Key×Addr×Value),
   Paired (fun (p:List Key×V) (q:List Key×Addr×Value)=>p.1=q.1∧H q.2.1=some (.tup (p.1.map kV))∧RelV p.2 q.2.2) kvs xs ∧
   ∃ o es ep,h.get? a=some o∧o.ExactDict∧o.data = .dict es ep∧es.toList=xs.map (entryOfKey (tupleKind (Qo P w)))∧(xs.map (·.1)).Nodup
 | .set S n=>h.SetOf (intKind P w) a S n
 | .ins C dx fs=>H dx=some (.own a)∧fs.length≤1000∧dx≠a∧h.get? a=some (W.instObj C dx) ∧
   ∃ mA,h.Ns1 dx mA∧(∀ f,RelO (fs.lookup f) (mA f))∧PySem.Within mA (fs.map (·.1))
 | .own _ => ∃ o,h.get? a=some o
 | .xd fs => ∃ mA,h.Ns1 a mA ∧ ∀ f,RelO (fs.lookup f) (mA f)
 | .rng lo hi => ∃ t u v,h.get? a=some { cls := .type "range",data := .fields #[.int lo t,.int hi u,.int 1 v] }
 | .frz o u=>h.get? a=some o∧ObjOk H h a u
 | .tbl ps=>h.get? a=some { cls := .none,data := .fields ps }
 | .met f x=>h.get? a=some (W.methodObj (.ref f) (.ref x))
 | .ext φ=>φ h∧(∃ o,h.get? a=some o) ∧ ∀ h1 h2:Heap,φ h1->(∀ o,h1.get? a=some o->h2.get? a=some o)->φ h2
def HOk (H:Hp) (h:Heap):Prop := ∀ a o,H a=some o->ObjOk P w H h a o
end
section
variable {P:Program} {w:World} {H H':Hp} {h h':Heap} {a:Addr} {o:HO}
theorem ObjOk.lt (x:ObjOk P w H h a o):a < h.objs.size:=by
 cases o with
 |lst xs=>obtain ⟨_,_,_,_,e⟩:=x;exact AJ e
 |tup xs=>obtain ⟨_,_,_,p⟩:=x;exact p.lt
 |dK kvs=>obtain ⟨_,_,_,_,o,_,_,e,_⟩:=x;exact AJ e
 |dT kvs=>obtain ⟨_,_,_,_,o,_,_,e,_⟩:=x;exact AJ e
 |set S n=>obtain ⟨o,_,_,_,e,_⟩:=x;exact AJ e
 |ins C dx fs=>obtain ⟨_,_,_,e,_⟩:=x;exact AJ e
 |own y=>obtain ⟨_,e⟩:=x;exact AJ e
 |xd fs=>obtain ⟨_,⟨_,_,_,e,_⟩,_⟩:=x;exact AJ e
 |rng lo hi=>obtain ⟨_,_,_,e⟩:=x;exact AJ e
 |frz ob u=>obtain ⟨e,_⟩:=x;exact AJ e
 |tbl ps=>exact AJ (show h.get? a=some _ from x)
 |met f y=>exact AJ (show h.get? a=some _ from x)
 |ext φ=>obtain ⟨_,⟨_,e⟩,_⟩:=x;exact AJ e
theorem Paired.mapP {α β:Type} {F G:α->β->Prop}:∀ {l₁:List α} {l₂:List β},Paired F l₁ l₂->(∀ a b,F a b->G a b)->Paired G l₁ l₂
 |_,_,.nil,_ => .nil
 |_,_,.cons r t,f => .cons (f _ _ r) (Paired.mapP t f)
theorem ObjOk.stay (x:ObjOk P w H h a o) (k:∀ b u,(b=a∨H b=some (.own a))->h.get? b=some u->h'.get? b=some u)
  (ho:∀ b,H b=some (.own a)->H' b=some (.own a)) (ht:∀ b xs,H b=some (.tup xs)->H' b=some (.tup xs)):ObjOk P w H' h' a o:=by
 induction o with
 |lst xs=>obtain ⟨z,its,n,r,e⟩:=x;exact ⟨z,its,n,r,k _ _ (.inl rfl) e⟩
 |tup xs=>obtain ⟨z,its,r,ob,e,c⟩:=x;exact ⟨z,its,r,ob,k _ _ (.inl rfl) e,c⟩
 |dK kvs=>obtain ⟨z,y,vs,r,ob,es,ep,e,c⟩:=x;exact ⟨z,y,vs,r,ob,es,ep,k _ _ (.inl rfl) e,c⟩
 |dT kvs =>
  obtain ⟨z,y,xs,r,ob,es,ep,e,c⟩:=x
  exact ⟨z,y,xs,Paired.mapP r fun p q z=>⟨z.1,ht _ _ z.2.1,z.2.2⟩,ob,es,ep,k _ _ (.inl rfl) e,c⟩
 |set S n=>obtain ⟨ob,es,ep,t,e,c⟩:=x;exact ⟨ob,es,ep,t,k _ _ (.inl rfl) e,c⟩
 |ins C dx fs =>
  obtain ⟨d,z,ne,e,mA,⟨od,es,ep,e2,c⟩,r⟩:=x
  exact ⟨ho _ d,z,ne,k _ _ (.inl rfl) e,mA,⟨od,es,ep,k _ _ (.inr d) e2,c⟩,r⟩
 |own y=>obtain ⟨ob,e⟩:=x;exact ⟨ob,k _ _ (.inl rfl) e⟩
 |xd fs=>obtain ⟨mA,⟨od,es,ep,e,c⟩,r⟩:=x;exact ⟨mA,⟨od,es,ep,k _ _ (.inl rfl) e,c⟩,r⟩
 |rng lo hi=>obtain ⟨t,u,v,e⟩:=x;exact ⟨t,u,v,k _ _ (.inl rfl) e⟩
 |frz ob u ih=>obtain ⟨e,q⟩:=x;exact ⟨k _ _ (.inl rfl) e,ih q⟩
 |tbl ps =>
  have e:h.get? a=some { cls := .none,data := .fields ps }:=x
  show h'.get? a=some { cls := .none,data := .fields ps }
  exact k a _ (.inl rfl) e
 |met f y =>
  have e:h.get? a=some (W.methodObj (.ref f) (.ref y)):=x
  show h'.get? a=some (W.methodObj (.ref f) (.ref y))
  exact k a _ (.inl rfl) e
 |ext φ=>obtain ⟨p,⟨o,e⟩,st⟩:=x;exact ⟨st _ _ p fun o q=>k _ _ (.inl rfl) q,⟨o,k _ _ (.inl rfl) e⟩,st⟩
theorem HOk.lt (x:HOk P w H h) (e:H a=some o):a < h.objs.size:=(x a o e).lt
theorem HOk.fresh (x:HOk P w H h) (e:h.objs.size≤a):H a=none:=by
 cases q:H a with
 |none=>rfl
 |some u=>exact absurd (Ai (x.lt q) e) (Bk _)
theorem HOk.kept (x:HOk P w H h) (k:∀ b u,h.get? b=some u->h'.get? b=some u):HOk P w H h':=fun a o e =>
 (x a o e).stay (fun b u _ q=>k b u q) (fun _ q=>q) fun _ _ q=>q
theorem HOk.laid (x:HOk P w H h) (k:∀ b u,h.get? b=some u->h'.get? b=some u) (hp:h.objs.size≤a) (new:ObjOk P w (upd H a o) h' a o):HOk P w (upd H a o) h':=fun b u e=>by
 have hn:=x.fresh hp
 by_cases hb:b=a
 ·subst hb;rw [QL] at e;cases e;exact new
 ·rw [qP hb] at e
  exact (x b u e).stay (fun c v _ q=>k c v q) (fun c q=>by rw [qP (qJ q hn)];exact q) fun c xs q=>by rw [qP (qJ q hn)];exact q
end
def Rd (H:Hp) (a:Addr) (u:HO):Prop:=H a=some u ∨ ∃ o,H a=some (.frz o u)
theorem Rd.ok {P:Program} {w:World} {H:Hp} {h:Heap} {a:Addr} {u:HO} (r:Rd H a u) (x:HOk P w H h):ObjOk P w H h a u:=by
 rcases r with r |⟨o,r⟩
 ·exact x a u r
 ·obtain ⟨_,q⟩:=x a _ r
  exact q
def Mut:Option HO->Prop
 |some (.lst _)=>True
 |some (.dK _)=>True
 |some (.dT _)=>True
 |some (.set _ _)=>True
 |some (.ins _ _ _)=>True
 |some (.ext _)=>True
 |_=>False
section
variable {P:Program} {w:World} {H:Hp} {h h':Heap} {x e:Addr} {o':HO}
theorem HOk.write (ok:HOk P w H h) (mu:Mut (H x)) (he:e=x∨H e=some (.own x)) (k:∀ b u,b≠e->h.get? b=some u->h'.get? b=some u) (heo:∃ u,h'.get? e=some u)
  (new:ObjOk P w (upd H x o') h' x o'):HOk P w (upd H x o') h':=fun b u q=>by
 have nown:∀ c y,H c=some (.own y)->c≠x:=fun c y r z=>by subst z;rw [r] at mu;exact mu
 have ntup:∀ c xs,H c=some (.tup xs)->c≠x:=fun c xs r z=>by subst z;rw [r] at mu;exact mu
 by_cases hb:b=x
 ·subst hb;rw [QL] at q;cases q;exact new
 ·rw [qP hb] at q
  by_cases hbe:b=e
  ·have q':H b=some (.own x):=by
    rcases he with z |z
    ·exact absurd (hbe.trans z) hb
    ·rw [hbe];exact z
   rw [q] at q';cases q'
   obtain ⟨v,hv⟩:=heo
   exact ⟨v,by rw [hbe];exact hv⟩
  ·refine (ok b u q).stay (fun c v hc r=>k c v ?_ r) (fun c r=>by rw [qP (nown c b r)];exact r) fun c xs r=>by rw [qP (ntup c xs r)];exact r
   rcases hc with rfl |hc
   ·exact hbe
   ·rintro rfl
    rcases he with z |z
    ·exact nown c b hc z
    ·rw [hc] at z;cases z;exact hb rfl
end
structure Un (fs ex:List Addr) (H H':Hp) (h h':Heap):Prop where
 keep:∀ b o,h.get? b=some o->H b=none->b ∉ fs->b ∉ ex->h'.get? b=some o
 slot:∀ b o,h.get? b=some o->H b=none->b∈fs->b ∉ ex -> ∃ sl,h'.get? b=some { o with slots:=sl }
 free:∀ b o,h.get? b=some o->H b=none->b ∉ ex->H' b=none
 there:∀ b o,h.get? b=some o->b ∉ ex -> ∃ o',h'.get? b=some o'
 tups:∀ b xs,H b=some (.tup xs)->H' b=some (.tup xs)
 frzs:∀ b o u,H b=some (.frz o u)->H' b=some (.frz o u)
 tbls:∀ b ps,H b=some (.tbl ps) -> ∃ more,H' b=some (.tbl (ps++more))
section
variable {fs fs' ex ex':List Addr} {H H1 H2:Hp} {h h1 h2 h':Heap} {a x e:Addr} {o:HO}
theorem Un.any (u:Un fs ex H H1 h h1) {b:Addr} {ob:Obj} (q:h.get? b=some ob) (n:H b=none) (hx:b ∉ ex):∃ sl,h1.get? b=some { ob with slots:=sl }:=by
 by_cases hb:b∈fs
 ·exact u.slot b ob q n hb hx
 ·exact ⟨ob.slots,u.keep b ob q n hb hx⟩
theorem Un.kept (k:∀ b u,h.get? b=some u->h'.get? b=some u):Un fs ex H H h h' :=
 ⟨fun b ob q _ _ _=>k b ob q,fun b ob q _ _ _=>⟨ob.slots,k b ob q⟩,fun _ _ _ n _=>n,fun b ob q _=>⟨ob,k b ob q⟩,fun _ _ q=>q,fun _ _ _ q=>q,fun _ ps q=>⟨#[],by rw [q];simp⟩⟩
theorem Un.refl:Un fs ex H H h h:=Un.kept fun _ _ q=>q
theorem Un.laid (k:∀ b u,h.get? b=some u->h'.get? b=some u) (hp:h.objs.size≤a) (hn:H a=none):Un fs ex H (upd H a o) h h' where
 keep:=fun b u q _ _ _=>k b u q
 slot:=fun b u q _ _ _=>⟨u.slots,k b u q⟩
 free:=fun b u q n _=>by rw [qP (AU (Ai (AJ q) hp))];exact n
 there:=fun b u q _=>⟨u,k b u q⟩
 tups:=fun b xs q=>by rw [qP (qJ q hn)];exact q
 frzs:=fun b u xs q=>by rw [qP (qJ q hn)];exact q
 tbls:=fun b ps q=>⟨#[],by rw [qP (qJ q hn),q];simp⟩
theorem Un.write (mu:Mut (H x)) (he:e=x∨H e=some (.own x)) (k:∀ b u,b≠e->h.get? b=some u->h'.get? b=some u) (heo:∃ u,h'.get? e=some u):Un fs ex H (upd H x o) h h':=by
 have hx:∀ b,H b=none->b≠x:=fun b n z=>by subst z;rw [n] at mu;exact mu
 have hb:∀ b,H b=none->b≠e:=fun b n z=>by
  subst z
  rcases he with r |r
  ·exact hx b n r
  ·rw [n] at r;cases r
 have hm:∀ b u,H b=some u -> ¬ Mut (some u)->b≠x:=fun b u q nm z=>by subst z;rw [q] at mu;exact nm mu
 refine ⟨fun b u q n _ _=>k b u (hb b n) q,fun b u q n _ _=>⟨u.slots,k b u (hb b n) q⟩,fun b u q n _=>by rw [qP (hx b n)];exact n,fun b u q _ => ?_,
  fun b xs q=>by rw [qP (hm b _ q fun z=>z)];exact q,fun b u xs q=>by rw [qP (hm b _ q fun z=>z)];exact q,fun b ps q=>⟨#[],by rw [qP (hm b _ q fun z=>z),q];simp⟩⟩
 by_cases hbe:b=e
 ·subst hbe;exact heo
 ·exact ⟨u,k b u hbe q⟩
end
def trk (h:Heap) (H:Hp):List Addr:=(List.range h.objs.size).filter fun a=>(H a).isSome
def Y0 (h:Heap) (H:Hp):Heap:=W.hideAll h (trk h H)
theorem qCD (h:Heap) (H:Hp):(Y0 h H).objs.size=h.objs.size:=W.hideAll_size _ _
theorem qED {h:Heap} {H:Hp} {b:Addr} {o:Obj} (e:h.get? b=some o) (n:H b=none):(Y0 h H).get? b=some o :=
 W.hideAll_get _ e fun hm=>by
  have q:(H b).isSome=true:=(B0.mp hm).2
  rw [n] at q;simp at q
theorem qEn {h:Heap} {H:Hp} {b:Addr} {o:Obj} (e:(Y0 h H).get? b=some o):h.get? b=some o∧H b=none:=by
 have e':h.get? b=some o:=W.of_hideAll (trk h H) e
 refine ⟨e',?_⟩
 cases q:H b with
 |none=>rfl
 |some x =>
  have hm:b∈trk h H:=B0.mpr ⟨BR.mpr (AJ e'),by simp [q]⟩
  have z:(Y0 h H).get? b=none:=W.hideAll_none (trk h H) hm
  rw [z] at e;cases e
end L2
namespace L2
open PySem PySem.Spec PyProof.Rows
structure Mod (K:W.Frag) (mg:Str->Option Value) (base:Heap):Prop where
 kin:K.In base
 glob:base.Ns mainGlobals mg
 blt:∃ mb,base.Ns builtinsNs mb ∧ ∀ x:Str,x ≠ "__name__" -> mb x=bootBuiltins x
 nolimit:base.NoLimit
structure Cx where
 prog:Program
 w:World
 K:W.Frag
 mg:Str->Option Value
 base:Heap
 A:Around
 N:List Str
 s₀:Shared
 H₀:Hp
 env:Env
 outer:List Env
 stack:List Env
 ex:List Addr
 fn:Str->Bool
 calm:Bool
 pn:List (Addr×Obj)
 xe:Value->Shared->Prop
def frs (l:List Env):List Addr:=l.filterMap (·.frame)
abbrev Cx.fs (X:Cx):List Addr:=frs X.outer
def Vis (sc:Scope) (x:Str):Prop:=sc.names.lookup x=some .local∨sc.names.lookup x=some .cell∨sc.names.lookup x=some .free
def Loc (sc:Scope) (x:Str):Prop:=sc.names.lookup x=some .local∨sc.names.lookup x=some .cell
def qJF (env:Env) (h:Heap) (m:Str->Option Value) (x:Str) (u:Value):Prop :=
 (env.kindOf x=some .local∧m x=some u)∨((env.kindOf x=some .cell∨env.kindOf x=some .free) ∧ ∃ c,env.cells.lookup x=some c∧h.IsCell c (some u))
structure Cx.Ok (X:Cx):Prop where
 mod:Mod X.K X.mg X.base
 kind:X.env.scope.kind = .function
 glob:X.env.globals=mainGlobals
 blt:X.env.builtins=builtinsNs
 above:X.s₀.heap.objs.size≤X.env.locals
 inj:∀ x y c,X.env.cells.lookup x=some c->X.env.cells.lookup y=some c->x=y
 has:∀ x,(X.env.kindOf x=some .cell∨X.env.kindOf x=some .free) -> ∃ c,X.env.cells.lookup x=some c
 cab:∀ x c,X.fn x=true->X.env.cells.lookup x=some c->X.s₀.heap.objs.size≤c
 hd:X.calm=true->X.A.handled=none
 frames:X.A.frames=some X.stack
 stk:X.stack=X.outer∨(X.stack=X.env::X.outer∧X.env.frame=some X.env.locals)
 exf:∀ b∈X.ex,b≠X.env.locals ∧ ∀ x c,X.env.cells.lookup x=some c->c≠b
 bs:∀ b o,X.base.get? b=some o->X.s₀.heap.get? b=some o∧X.H₀ b=none
 bsz:X.base.objs.size≤X.s₀.heap.objs.size
 noex:∀ b o,X.base.get? b=some o->b ∉ X.ex
 exfs:∀ b∈X.ex,b ∉ X.fs
 funs:X.s₀.heap.FunFrames X.base X.outer
 frf:∀ b∈X.fs,X.H₀ b=none
def HndH (A:Around) (H:Hp):Prop := ∀ v,A.handled=some v -> ∃ ea oe u vs,v=Value.ref ea∧H ea=some (.frz oe u)∧oe.data = .fields vs∧vs[2]? = some .none
theorem HndH.none {A:Around} {H:Hp} (h:A.handled=none):HndH A H:=fun v e=>by rw [h] at e;cases e
structure Inv (X:Cx) (pins:List (Addr×Obj)) (σ:List (Option V)) (H:Hp) (s:Shared):Prop where
 ok:X.Ok
 os:s.os=X.s₀.os
 bare:AllBare s.gens
 base:Un X.fs X.ex X.H₀ H X.s₀.heap s.heap
 loc:∃ m,s.heap.Ns X.env.locals m ∧ ∀ (i:Nat) (x:Str) (v:V),X.N[i]? = some x->σ[i]? = some (some v)->Vis X.env.scope x -> ∃ u,RelV v u∧qJF X.env s.heap m x u
 cell:∀ x c,X.env.cells.lookup x=some c -> ∃ v,s.heap.IsCell c v
 free:H X.env.locals=none
 freeC:∀ x c,X.env.cells.lookup x=some c->H c=none
 pin:∀ p∈X.pn++pins,s.heap.get? p.1=some p.2∧H p.1=none∧p.1≠X.env.locals∧p.1 ∉ X.fs ∧ ∀ v,p.2.data ≠ .cell v
 hok:HOk X.prog X.w H s.heap
 len:σ.length=X.N.length
 hnd:HndH X.A H
section
variable {X:Cx} {pins:List (Addr×Obj)} {σ:List (Option V)} {H H':Hp} {s:Shared} {h':Heap}
theorem Cx.Ok.nofr (ok:X.Ok) {b:Addr} {o:Obj} (e:X.base.get? b=some o):b ∉ X.fs:=fun hb=>by
 have:=(ok.funs.mem hb).1
 rw [e] at this;cases this
theorem Inv.bs (I:Inv X pins σ H s):∀ b o,X.base.get? b=some o->s.heap.get? b=some o∧H b=none:=fun b o e =>
 ⟨I.base.keep b o (I.ok.bs b o e).1 (I.ok.bs b o e).2 (I.ok.nofr e) (I.ok.noex b o e),I.base.free b o (I.ok.bs b o e).1 (I.ok.bs b o e).2 (I.ok.noex b o e)⟩
theorem Inv.bk (I:Inv X pins σ H s):∀ b o,X.base.get? b=some o->s.heap.get? b=some o:=fun b o e=>(I.bs b o e).1
theorem Inv.mod (I:Inv X pins σ H s):Mod X.K X.mg X.base:=I.ok.mod
theorem Inv.kIn (I:Inv X pins σ H s):X.K.In s.heap:=I.ok.mod.kin.keeps I.bk
theorem Inv.lt (I:Inv X pins σ H s):X.env.locals < s.heap.objs.size:=let ⟨_,hn,_⟩:=I.loc;hn.lt
theorem Inv.sz (I:Inv X pins σ H s):X.s₀.heap.objs.size≤s.heap.objs.size:=Aa I.ok.above (Nat.le_of_lt I.lt)
theorem Inv.nofs (I:Inv X pins σ H s) {a:Addr} (h:s.heap.objs.size≤a):a ∉ X.fs:=fun hb=>by
 obtain ⟨_,o,ho,_⟩:=I.ok.funs.mem hb
 exact absurd (Ai (AJ ho) (Aa I.sz h)) (Bk _)
theorem Inv.cne (I:Inv X pins σ H s):∀ x c,X.env.cells.lookup x=some c->c≠X.env.locals:=fun x c e z=>by
 obtain ⟨v,o,ho,hd⟩:=I.cell x c e
 obtain ⟨m,⟨o',es,ep,ho',hd',_⟩,_⟩:=I.loc
 rw [z,ho'] at ho;cases ho;rw [hd'] at hd;cases hd
theorem Inv.funs (I:Inv X pins σ H s):s.heap.FunFrames X.base X.outer:=by
 have all:∀ (l:List Env),(∀ b∈frs l,b∈X.fs)->X.s₀.heap.FunFrames X.base l->s.heap.FunFrames X.base l:=by
  intro l
  induction l with
  |nil=>intro _ _;trivial
  |cons env r ih =>
   intro hs hl
   obtain ⟨hk,⟨L,o,hf,hn,ho,hd⟩,hr⟩:=hl
   have hL:L∈X.fs:=hs L (by unfold frs;rw [CK,hf];exact AD)
   obtain ⟨sl,e⟩:=I.base.slot L o ho (I.ok.frf L hL) hL fun z=>I.ok.exfs L z hL
   exact ⟨hk,⟨L,_,hf,hn,e,hd⟩,ih (fun b hb=>hs b (by unfold frs;rw [CK,hf];exact AG _ hb)) hr⟩
 exact all X.outer (fun _ hb=>hb) I.ok.funs
theorem Inv.stack (I:Inv X pins σ H s):s.heap.FunFrames X.base X.stack:=by
 rcases I.ok.stk with e |⟨e,hf⟩
 ·rw [e];exact I.funs
 ·rw [e]
  obtain ⟨m,hn,_⟩:=I.loc
  refine .cons (by rw [I.ok.kind];decide) hf hn ?_ I.funs
  exact Heap.get?_none_of_le (Aa I.ok.bsz I.ok.above)
theorem Inv.stkSub (I:Inv X pins σ H s):∀ b∈frs X.stack,b∈X.env.locals::X.fs:=fun b hb=>by
 rcases I.ok.stk with e |⟨e,hf⟩
 ·rw [e] at hb;exact AG _ hb
 ·rw [e] at hb
  unfold frs at hb
  rw [CK,hf] at hb
  exact hb
theorem Inv.stkFree (I:Inv X pins σ H s):∀ b∈frs X.stack,H b=none:=fun b hb=>by
 rcases AL.mp (I.stkSub b hb) with e |hb
 ·rw [e];exact I.free
 ·obtain ⟨_,o,ho,_⟩:=I.ok.funs.mem hb
  exact I.base.free b o ho (I.ok.frf b hb) fun z=>I.ok.exfs b z hb
theorem Inv.step {g':Array GenState} {t':Nat} {d':Drawn} {ch:List Addr} (I:Inv X pins σ H s)
  (hch:∀ b∈ch,(b∈X.ex∨X.s₀.heap.objs.size≤b)∧b≠X.env.locals∧(∀ x c,X.env.cells.lookup x=some c->c≠b) ∧ ∀ p∈X.pn++pins,p.1≠b)
  (keep:∀ b o,b≠X.env.locals->b ∉ X.fs->b ∉ ch->s.heap.get? b=some o->H b=none->h'.get? b=some o)
  (slot:∀ b o,b≠X.env.locals->b∈X.fs->b ∉ ch->s.heap.get? b=some o->H b=none -> ∃ sl,h'.get? b=some { o with slots:=sl }) (free:∀ b o,b ∉ ch->s.heap.get? b=some o->H b=none->H' b=none)
  (there:∀ b o,b ∉ ch->s.heap.get? b=some o -> ∃ o',h'.get? b=some o')
  (tups:∀ b xs,H b=some (.tup xs)->H' b=some (.tup xs)) (frzs:∀ b o u,H b=some (.frz o u)->H' b=some (.frz o u)) (tbls:∀ b ps,H b=some (.tbl ps) -> ∃ more,H' b=some (.tbl (ps++more)))
  (ns:∀ m,s.heap.Ns X.env.locals m->h'.Ns X.env.locals m) (hok:HOk X.prog X.w H' h') (hg:AllBare g') :
  Inv X pins σ H' { s with heap:=h',gens:=g',drawn:=d',toks:=t' }:=by
 have neL:∀ b o,X.s₀.heap.get? b=some o->b≠X.env.locals:=fun b o e=>AU (Ai (AJ e) I.ok.above)
 have neC:∀ b o,X.s₀.heap.get? b=some o->b ∉ X.ex->b ∉ ch:=fun b o e hx hb=>by
  rcases (hch b hb).1 with z |z
  ·exact hx z
  ·exact absurd (Ai (AJ e) z) (Bk _)
 have cellK:∀ x c,X.env.cells.lookup x=some c -> ∀ v,s.heap.IsCell c v->h'.IsCell c v:=fun x c e v ⟨o,ho,hd⟩=>by
  have nch:c ∉ ch:=fun z=>(hch c z).2.2.1 x c e rfl
  by_cases hc:c∈X.fs
  ·obtain ⟨sl,q⟩:=slot c o (I.cne x c e) hc nch ho (I.freeC x c e)
   exact ⟨_,q,hd⟩
  ·exact ⟨o,keep c o (I.cne x c e) hc nch ho (I.freeC x c e),hd⟩
 refine ⟨I.ok,I.os,hg,⟨fun b o e n hb hx => ?_,fun b o e n hb hx => ?_,fun b o e n hx => ?_,fun b o e hx => ?_,fun b xs e=>tups b xs (I.base.tups b xs e),fun b o xs e=>frzs b o xs (I.base.frzs b o xs e),fun b ps e => ?_⟩,?_,fun x c e => ?_,?_,fun x c e => ?_,fun p hp => ?_,hok,I.len,fun v hv=>(let ⟨ea,oe,u,vs,e1,e2,e3⟩:=I.hnd v hv;⟨ea,oe,u,vs,e1,frzs _ _ _ e2,e3⟩)⟩
 ·exact keep b o (neL b o e) hb (neC b o e hx) (I.base.keep b o e n hb hx) (I.base.free b o e n hx)
 ·obtain ⟨sl,e1⟩:=I.base.slot b o e n hb hx
  obtain ⟨sl',e2⟩:=slot b _ (neL b o e) hb (neC b o e hx) e1 (I.base.free b o e n hx)
  exact ⟨sl',e2⟩
 ·obtain ⟨o',e1⟩:=I.base.there b o e hx
  exact free b o' (neC b o e hx) e1 (I.base.free b o e n hx)
 ·obtain ⟨o',e1⟩:=I.base.there b o e hx
  exact there b o' (neC b o e hx) e1
 ·obtain ⟨m1,e1⟩:=I.base.tbls b ps e
  obtain ⟨m2,e2⟩:=tbls b _ e1
  exact ⟨m1++m2,by rw [e2,Array.append_assoc]⟩
 ·obtain ⟨m,hn,hl⟩:=I.loc
  refine ⟨m,ns m hn,fun i x v e1 e2 e3 => ?_⟩
  obtain ⟨u,r,l⟩:=hl i x v e1 e2 e3
  refine ⟨u,r,?_⟩
  rcases l with l |⟨k,c,e,z⟩
  ·exact .inl l
  ·exact .inr ⟨k,c,e,cellK x c e _ z⟩
 ·obtain ⟨v,z⟩:=I.cell x c e
  exact ⟨v,cellK x c e v z⟩
 ·obtain ⟨m,⟨o,_,_,ho,_⟩,_⟩:=I.loc
  exact free _ o (fun z=>(hch _ z).2.1 rfl) ho I.free
 ·obtain ⟨v,o,ho,hd⟩:=I.cell x c e
  exact free c o (fun z=>(hch c z).2.2.1 x c e rfl) ho (I.freeC x c e)
 ·obtain ⟨e,n,ne,nf,d⟩:=I.pin p hp
  have nch:p.1 ∉ ch:=fun z=>(hch p.1 z).2.2.2 p hp rfl
  exact ⟨keep p.1 p.2 ne nf nch e n,free p.1 p.2 nch e n,ne,nf,d⟩
theorem Inv.un {t':Nat} (I:Inv X pins σ H s) (u:Un X.fs [] H H' s.heap h') (hok:HOk X.prog X.w H' h'):Inv X pins σ H' { s with heap:=h',toks:=t' }:=by
 obtain ⟨m,⟨o,es,ep,ho,r⟩,_⟩:=id I.loc
 obtain ⟨sl,hL⟩:=u.any ho I.free (by simp)
 exact I.step (g':=s.gens) (d':=s.drawn) (ch:=[]) (fun _ z=>nomatch z) (fun b o _ hb _ e n=>u.keep b o e n hb (by simp)) (fun b o _ hb _ e n=>u.slot b o e n hb (by simp)) (fun b o _ e n=>u.free b o e n (by simp)) (fun b o _ e=>u.there b o e (by simp)) u.tups u.frzs u.tbls (fun m' hm=>by
  obtain ⟨o',es',ep',ho',r'⟩:=hm
  rw [ho] at ho';cases ho'
  exact ⟨_,es',ep',hL,r'⟩) hok I.bare
theorem Inv.call {g':Array GenState} {t':Nat} {d':Drawn} {ch:List Addr} (I:Inv X pins σ H s) (u:Un (frs X.stack) ch H H' s.heap h') (hok:HOk X.prog X.w H' h') (hg:AllBare g')
  (hch:∀ b∈ch,(b∈X.ex∨X.s₀.heap.objs.size≤b)∧b≠X.env.locals∧(∀ x c,X.env.cells.lookup x=some c->c≠b) ∧ ∀ p∈X.pn++pins,p.1≠b) :
  Inv X pins σ H' { s with heap:=h',gens:=g',drawn:=d',toks:=t' }:=by
 obtain ⟨m,⟨o,es,ep,ho,r⟩,_⟩:=id I.loc
 obtain ⟨sl,hL⟩:=u.any ho I.free fun z=>(hch _ z).2.1 rfl
 exact I.step (ch:=ch) hch (fun b o hL hb hc e n=>u.keep b o e n (fun z=>(AL.mp (I.stkSub b z)).elim hL hb) hc) (fun b o _ _ hc e n=>u.any e n hc) (fun b o hc e n=>u.free b o e n hc) (fun b o hc e=>u.there b o e hc) u.tups u.frzs u.tbls (fun m' hm=>by
  obtain ⟨o',es',ep',ho',r'⟩:=hm
  rw [ho] at ho';cases ho'
  exact ⟨_,es',ep',hL,r'⟩) hok hg
theorem Inv.turned {t':Nat} {it:Addr} (I:Inv X pins σ H s) (k:∀ b o,b≠it->s.heap.get? b=some o->h'.get? b=some o) (hn:H it=none) (hL:it≠X.env.locals)
  (h1:it∈X.ex∨X.s₀.heap.objs.size≤it) (h2:∀ x c,X.env.cells.lookup x=some c->c≠it) (h3:∀ p∈X.pn++pins,p.1≠it):Inv X pins σ H { s with heap:=h',toks:=t' }:=by
 have nit:∀ b u,H b=some u->b≠it:=fun b u e z=>by rw [z,hn] at e;cases e
 refine I.step (g':=s.gens) (d':=s.drawn) (ch:=[it]) (fun b hb => ?_) (fun b o _ _ hc e _=>k b o (fun z=>hc (by simp [z])) e) (fun b o _ _ hc e _=>⟨o.slots,k b o (fun z=>hc (by simp [z])) e⟩) (fun _ _ _ _ n=>n)
  (fun b o hc e=>⟨o,k b o (fun z=>hc (by simp [z])) e⟩) (fun _ _ e=>e) (fun _ _ _ e=>e) (fun b ps e=>⟨#[],by rw [e];simp⟩) (fun m hm => ?_) (fun b u e => ?_) I.bare
 ·have e:b=it:=by simpa using hb
  subst e
  exact ⟨h1,hL,h2,h3⟩
 ·obtain ⟨o,es,ep,ho,r⟩:=hm
  exact ⟨o,es,ep,k _ o (Ne.symm hL) ho,r⟩
 ·refine (I.hok b u e).stay (fun c v hc q=>k c v ?_ q) (fun _ q=>q) fun _ _ q=>q
  rcases hc with z |z
  ·rw [z];exact nit b u e
  ·exact nit c _ z
theorem Inv.tok (I:Inv X pins σ H s) (t:Nat):Inv X pins σ H { s with toks:=t }:=I.un (h':=s.heap) (t':=t) Un.refl I.hok
theorem Inv.kept {t':Nat} (I:Inv X pins σ H s) (k:∀ b u,s.heap.get? b=some u->h'.get? b=some u):Inv X pins σ H { s with heap:=h',toks:=t' }:=I.un (Un.kept k) (I.hok.kept k)
theorem Inv.laid {a:Addr} {o:HO} {t':Nat} (I:Inv X pins σ H s) (k:∀ b u,s.heap.get? b=some u->h'.get? b=some u) (hp:s.heap.objs.size≤a) (new:ObjOk X.prog X.w (upd H a o) h' a o) :
  Inv X pins σ (upd H a o) { s with heap:=h',toks:=t' }:=I.un (Un.laid k hp (I.hok.fresh hp)) (I.hok.laid k hp new)
theorem Inv.write {x e:Addr} {o:HO} {t':Nat} (I:Inv X pins σ H s) (mu:Mut (H x)) (he:e=x∨H e=some (.own x)) (k:∀ b u,b≠e->s.heap.get? b=some u->h'.get? b=some u) (heo:∃ u,h'.get? e=some u)
  (new:ObjOk X.prog X.w (upd H x o) h' x o):Inv X pins σ (upd H x o) { s with heap:=h',toks:=t' }:=I.un (Un.write mu he k heo) (I.hok.write mu he k heo new)
theorem Inv.pins_of {pins':List (Addr×Obj)} (I:Inv X pins σ H s) (h:∀ p∈pins',s.heap.get? p.1=some p.2∧H p.1=none∧p.1≠X.env.locals∧p.1 ∉ X.fs ∧ ∀ v,p.2.data ≠ .cell v):Inv X pins' σ H s :=
 ⟨I.ok,I.os,I.bare,I.base,I.loc,I.cell,I.free,I.freeC,fun p hp=>(Ah.mp hp).elim (fun z=>I.pin p (List.mem_append_left _ z)) (h p),I.hok,I.len,I.hnd⟩
theorem Jm {N:List Str} (hN:N.Nodup) {i j:Nat} {x:Str} (a:N[i]? = some x) (b:N[j]? = some x):i=j:=by
 obtain ⟨h1,e1⟩:=AV.mp a
 obtain ⟨h2,e2⟩:=AV.mp b
 exact (List.getElem_inj hN).mp (e1.trans e2.symm)
theorem qB4 {M:Model} {A:Around} {E:Value->Shared->Prop} {i:Nat} {x:Str} {v:V} {u:Value} {Q:Unit->Shared->Prop} (I:Inv X pins σ H s) (hN:X.N.Nodup) (hi:X.N[i]? = some x) (hx:Loc X.env.scope x) (r:RelV v u)
  (h:∀ s',Inv X pins (σ.set i (some v)) H s'->(∃ a,Heap.SameBut a s.heap s'.heap∧(a=X.env.locals∨X.env.cells.lookup x=some a))->Q () s') (hf:X.fn x=true∨X.env.scope.names.lookup x=some .local:=by first |exact .inl rfl |exact .inr rfl |assumption):wpAny M A (storeName X.env x u) Q E s:=by
 obtain ⟨m,hn,hl⟩:=id I.loc
 have hcls:(X.env.scope.kind == .class || (X.env.scope.kind == .module&&X.env.locals != X.env.globals))=false:=by rw [I.ok.kind];rfl
 have hiσ:i < σ.length:=by rw [I.len];exact (AV.mp hi).1
 have cne:=I.cne
 have tracked:∀ {a:Addr} {h':Heap},(∃ o,s.heap.get? a=some o∧H a=none)->Heap.SameBut a s.heap h'->HOk X.prog X.w H h':=fun {a h'} ha hs b ob e=>by
  obtain ⟨_,_,hfree⟩:=ha
  refine (I.hok b ob e).stay (fun c w' hc q=>(hs.2 c ?_).trans q) (fun _ q=>q) fun _ _ q=>q
  rintro rfl
  rcases hc with rfl |hc
  ·rw [hfree] at e;cases e
  ·rw [hfree] at hc;cases hc
 rcases hx with hk |hk
 ·refine wpAny_storeName_local hk hn (fun h' hn' hs => ?_) hcls
  obtain ⟨oL,_,_,hoL,_⟩:=id hn
  refine h _ ⟨I.ok,I.os,I.bare,⟨fun b o e n hb hx => ?_,fun b o e n hb hx => ?_,I.base.free,fun b o e hx => ?_,I.base.tups,I.base.frzs,I.base.tbls⟩,⟨_,hn',fun j y v' e1 e2 e3 => ?_⟩,fun y c e => ?_,I.free,I.freeC,fun p hp => ?_,tracked ⟨oL,hoL,I.free⟩ hs,by simpa using I.len,I.hnd⟩ ⟨_,hs,.inl rfl⟩
  ·exact (hs.2 b (AU (Ai (AJ e) I.ok.above))).trans (I.base.keep b o e n hb hx)
  ·obtain ⟨sl,e1⟩:=I.base.slot b o e n hb hx
   exact ⟨sl,(hs.2 b (AU (Ai (AJ e) I.ok.above))).trans e1⟩
  ·obtain ⟨o',e1⟩:=I.base.there b o e hx
   exact ⟨o',(hs.2 b (AU (Ai (AJ e) I.ok.above))).trans e1⟩
  ·by_cases hj:j=i
   ·subst hj
    rw [hi] at e1;cases e1
    rw [Bf hiσ] at e2
    cases e2
    exact ⟨u,r,.inl ⟨hk,by simp⟩⟩
   ·rw [BW (Ne.symm hj)] at e2
    obtain ⟨u',r',q⟩:=hl j y v' e1 e2 e3
    refine ⟨u',r',?_⟩
    rcases q with ⟨k,e⟩ |⟨k,c,e,z⟩
    ·refine .inl ⟨k,?_⟩
     have:y≠x:=fun e=>hj (Jm hN e1 (e ▸ hi))
     simp [this,e]
    ·exact .inr ⟨k,c,e,z.sameBut hs (cne y c e)⟩
  ·obtain ⟨w',z⟩:=I.cell y c e
   exact ⟨w',z.sameBut hs (cne y c e)⟩
  ·obtain ⟨e,n,ne,nf,d⟩:=I.pin p hp
   exact ⟨(hs.2 p.1 ne).trans e,n,ne,nf,d⟩
 ·have hfn:X.fn x=true:=by
   rcases hf with z |z
   ·exact z
   ·rw [z] at hk;cases hk
  obtain ⟨c,hc⟩:=I.ok.has x (.inl hk)
  obtain ⟨w',z⟩:=I.cell x c hc
  refine wpAny_storeName_cell I.ok.kind hk hc z (fun h' hc' hs => ?_)
  obtain ⟨oc,hoc,hocd⟩:=id z
  refine h { s with heap:=h' } ⟨I.ok,I.os,I.bare,⟨fun b o e n hb hx => ?_,fun b o e n hb hx => ?_,I.base.free,fun b o e hx => ?_,I.base.tups,I.base.frzs,I.base.tbls⟩,⟨m,hn.sameBut hs (Ne.symm (cne x c hc)),fun j y v' e1 e2 e3 => ?_⟩,fun y c' e => ?_,I.free,I.freeC,fun p hp => ?_,tracked ⟨oc,hoc,I.freeC x c hc⟩ hs,by simpa using I.len,I.hnd⟩ ⟨c,hs,.inr hc⟩
  ·exact (hs.2 b (AU (Ai (AJ e) (I.ok.cab x c hfn hc)))).trans (I.base.keep b o e n hb hx)
  ·obtain ⟨sl,e1⟩:=I.base.slot b o e n hb hx
   exact ⟨sl,(hs.2 b (AU (Ai (AJ e) (I.ok.cab x c hfn hc)))).trans e1⟩
  ·obtain ⟨o',e1⟩:=I.base.there b o e hx
   exact ⟨o',(hs.2 b (AU (Ai (AJ e) (I.ok.cab x c hfn hc)))).trans e1⟩
  ·by_cases hj:j=i
   ·subst hj
    rw [hi] at e1;cases e1
    rw [Bf hiσ] at e2
    cases e2
    exact ⟨u,r,.inr ⟨.inl hk,c,hc,hc'⟩⟩
   ·rw [BW (Ne.symm hj)] at e2
    obtain ⟨u',r',q⟩:=hl j y v' e1 e2 e3
    refine ⟨u',r',?_⟩
    rcases q with q |⟨k,c',e,z'⟩
    ·exact .inl q
    ·refine .inr ⟨k,c',e,z'.sameBut hs ?_⟩
     rintro rfl
     exact hj (Jm hN e1 (I.ok.inj _ _ _ e hc ▸ hi))
  ·by_cases hcc:c'=c
   ·subst hcc;exact ⟨_,hc'⟩
   ·obtain ⟨w2,z2⟩:=I.cell y c' e
    exact ⟨w2,z2.sameBut hs hcc⟩
  ·obtain ⟨e,n,ne,nf,d⟩:=I.pin p hp
   refine ⟨(hs.2 p.1 ?_).trans e,n,ne,nf,d⟩
   intro q
   rw [q,hoc] at e
   have q':oc=p.2:=AW e
   exact d w' (by rw [← q'];exact hocd)
theorem zK {M:Model} {A:Around} {E:Value->Shared->Prop} {i:Nat} {x:Str} {v:V} {u:Value} {Q:Unit->Shared->Prop} (I:Inv X pins σ H s) (hN:X.N.Nodup) (hi:X.N[i]? = some x) (hx:Loc X.env.scope x) (r:RelV v u)
  (h:∀ s',Inv X pins (σ.set i (some v)) H s'->Q () s') (hf:X.fn x=true∨X.env.scope.names.lookup x=some .local:=by first |exact .inl rfl |exact .inr rfl |assumption):wpAny M A (storeName X.env x u) Q E s :=
 qB4 I hN hi hx r (fun s' I' _=>h s' I') hf
end
abbrev XK:=Value->Option Addr->Hp->Prop
abbrev St:=List (Option V)
abbrev VK:=V->Hp->Prop
abbrev TE:=St->Hp->VK->Prop
abbrev TT:=St->Hp->(Bool->Hp->Prop)->Prop
abbrev TA:=St->Hp->(List V->Hp->Prop)->Prop
structure Ends where
 nx:St->Hp->Prop
 rt:VK
 bk:St->Hp->Prop:=fun _ _=>False
 ct:St->Hp->Prop:=fun _ _=>False
abbrev TS:=Ends->St->Hp->Prop
def EP (X:Cx) (pins:List (Addr×Obj)) (σ:St) (Q:VK) (u:Value) (s':Shared):Prop := ∃ v H',Inv X pins σ H' s'∧RelV v u∧Q v H'
def TP (X:Cx) (pins:List (Addr×Obj)) (σ:St) (Q:Bool->Hp->Prop) (b:Bool) (s':Shared):Prop := ∃ H',Inv X pins σ H' s'∧Q b H'
def AP (X:Cx) (pins:List (Addr×Obj)) (σ:St) (Q:List V->Hp->Prop) (us:List Value) (s':Shared):Prop := ∃ vs H',Inv X pins σ H' s'∧Vals vs us∧Q vs H'
def SP (X:Cx) (pins:List (Addr×Obj)) (D:Ends) (f:Flow) (s':Shared):Prop :=
 match f with
 | .next => ∃ σ' H',Inv X pins σ' H' s'∧D.nx σ' H'
 | .brk => ∃ σ' H',Inv X pins σ' H' s'∧D.bk σ' H'
 | .cont => ∃ σ' H',Inv X pins σ' H' s'∧D.ct σ' H'
 | .ret u => ∃ v σ' H',Inv X pins σ' H' s'∧RelV v u∧D.rt v H'
def PE (X:Cx) (e:Expr) (t:TE):Prop :=
 ∀ (pins:List (Addr×Obj)) (s:Shared) (σ:St) (H:Hp) (Q:VK),Inv X pins σ H s->t σ H Q->wpAny (model X.prog X.w) X.A (eval e X.env) (EP X pins σ Q) X.xe s
def PT (X:Cx) (e:Expr) (t:TT):Prop :=
 ∀ (pins:List (Addr×Obj)) (s:Shared) (σ:St) (H:Hp) (Q:Bool->Hp->Prop),Inv X pins σ H s->t σ H Q->wpAny (model X.prog X.w) X.A (isTrue e X.env (eval e X.env)) (TP X pins σ Q) X.xe s
def PW (X:Cx) (e:Expr) (t:TT):Prop :=
 ∀ (whole:Sem Value) (pins:List (Addr×Obj)) (s:Shared) (σ:St) (H:Hp) (Q:Bool->Hp->Prop),Inv X pins σ H s->t σ H Q->wpAny (model X.prog X.w) X.A (isTrue e X.env whole) (TP X pins σ Q) X.xe s
theorem PW.pt {X:Cx} {e:Expr} {t:TT} (h:PW X e t):PT X e t:=h _
def PA (X:Cx) (es:List Expr) (t:TA):Prop :=
 ∀ (pos:Pos) (pins:List (Addr×Obj)) (s:Shared) (σ:St) (H:Hp) (Q:List V->Hp->Prop),Inv X pins σ H s->t σ H Q->wpAny (model X.prog X.w) X.A (spliced (backTo pos (starEach es X.env))) (AP X pins σ Q) X.xe s
def PS (X:Cx) (st:Stmt) (t:TS):Prop :=
 ∀ (pins:List (Addr×Obj)) (s:Shared) (σ:St) (H:Hp) (D:Ends),Inv X pins σ H s->t D σ H->wpAny (model X.prog X.w) X.A (exec st X.env) (SP X pins D) X.xe s
def PSs (X:Cx) (st:List Stmt) (t:TS):Prop :=
 ∀ (pins:List (Addr×Obj)) (s:Shared) (σ:St) (H:Hp) (D:Ends),Inv X pins σ H s->t D σ H->wpAny (model X.prog X.w) X.A (execs st X.env) (SP X pins D) X.xe s
theorem thn {α:Type} {t:Sem α} {Q Q':α->Shared->Prop} {M:Model} {A:Around} {E:Value->Shared->Prop} {s:Shared} (h:wpAny M A t Q E s) (hQ:∀ a s,Q a s->Q' a s):wpAny M A t Q' E s:=BP h hQ fun _ _ x=>x
end L2
namespace L2
open PySem PySem.Spec PyProof.Rows
section
variable {X:Cx}
def qHp (i:Nat):TE:=fun σ H Q => ∃ v,σ[i]? = some (some v)∧Q v H
def tC (v:V):TE:=fun _ H Q=>Q v H
theorem qHg {i:Nat} {x:Str} {pos:Pos} (hN:X.N[i]? = some x) (hv:Vis X.env.scope x) (hd:(x==("__debug__":Str))=false:=by decide) (hcd:(x==("__classdict__":Str))=false:=by decide):PE X (.Name x pos) (qHp i):=by
 intro pins s σ H Q I h
 obtain ⟨v,e,h⟩:=h
 obtain ⟨m,hn,hl⟩:=I.loc
 obtain ⟨u,r,l⟩:=hl i x v hN e hv
 have fin:EP X pins σ Q u s:=⟨v,H,I,r,h⟩
 rcases l with ⟨hk,hm⟩ |⟨hk,c,hc,hcell⟩
 ·exact wpAny_Name (wpAny_loadName_local I.ok.kind hk hn hm fin) hd
 ·rcases hk with hk |hk
  ·exact wpAny_Name (wpAny_loadName_cell I.ok.kind hk hc hcell fin) hd
  ·exact wpAny_Name (wpAny_loadName_free I.ok.kind hk hc hcell fin hcd) hd
theorem qHk {i j pos}:PE X (.Constant (.int i) j pos) (tC (.int i)):=fun _ _ _ H _ I h=>wpAny_Constant_int ⟨.int i,H,I.tok _,⟨_,rfl⟩,h⟩
theorem qIb {b j pos}:PE X (.Constant (.bool b) j pos) (tC (.bl b)):=fun _ _ _ H _ I h=>Constant_bool ⟨.bl b,H,I,rfl,h⟩
theorem qGY {x j pos}:PE X (.Constant (.str x) j pos) (tC (.str x)):=fun _ _ _ H _ I h=>Calls.Constant_str ⟨.str x,H,I.tok _,⟨_,rfl⟩,h⟩
def Gl (X:Cx) (x:Str):Prop:=X.env.kindOf x=some .globalImplicit
theorem qBh {E:Value->Shared->Prop} {pins:List (Addr×Obj)} {s:Shared} {σ:St} {H:Hp} {x:Str} {u:Value} {pos:Pos} {Q:Value->Shared->Prop} (I:Inv X pins σ H s) (hg:Gl X x) (hm:X.mg x=some u) (h:Q u s)
  (hd:(x==("__debug__":Str))=false:=by decide):wpAny (model X.prog X.w) X.A (eval (.Name x pos) X.env) Q E s :=
 Calls.Name_function_global I.ok.kind hg (Calls.loadGlobal_global (by rw [I.ok.glob];exact I.mod.glob.keeps I.bk) hm h) hd
theorem Wx {E:Value->Shared->Prop} {pins:List (Addr×Obj)} {s:Shared} {σ:St} {H:Hp} {x:Str} {u:Value} {pos:Pos} {Q:Value->Shared->Prop} (I:Inv X pins σ H s) (hg:Gl X x) (hm:X.mg x=none) (hv:bootBuiltins x=some u) (h:Q u s)
  (hn:x ≠ "__name__" := by decide) (hd:(x==("__debug__":Str))=false:=by decide):wpAny (model X.prog X.w) X.A (eval (.Name x pos) X.env) Q E s:=by
 obtain ⟨mb,h1,h2⟩:=I.mod.blt
 exact Calls.Name_function_global I.ok.kind hg (Calls.loadGlobal_builtin (by rw [I.ok.glob];exact I.mod.glob.keeps I.bk) hm (by rw [I.ok.blt];exact h1.keeps I.bk) ((h2 x hn).trans hv) h) hd
theorem qBM {x:Str} {v:V} {u:Value} {pos:Pos} (hg:Gl X x) (hm:X.mg x=some u) (r:RelV v u) (hd:(x==("__debug__":Str))=false:=by decide):PE X (.Name x pos) (tC v) :=
 fun _ _ _ H _ I h=>qBh I hg hm ⟨v,H,I,r,h⟩ hd
theorem qE3 {x:Str} {v:V} {u:Value} {pos:Pos} (hg:Gl X x) (hm:X.mg x=none) (hv:bootBuiltins x=some u) (r:RelV v u) (hn:x ≠ "__name__" := by decide) (hd:(x==("__debug__":Str))=false:=by decide):PE X (.Name x pos) (tC v) :=
 fun _ _ _ H _ I h=>Wx I hg hm hv ⟨v,H,I,r,h⟩ hn hd
variable {a b:Expr} {ta tb:TE} {pos:Pos}
variable {tA tB':TT} {rest:List Expr}
def qJW (t u:TT):TT:=fun σ H Q=>t σ H fun c H1=>if c=true then u σ H1 Q else Q false H1
def tOr (t u:TT):TT:=fun σ H Q=>t σ H fun c H1=>if c=true then Q true H1 else u σ H1 Q
def qJY (t:TT):TT:=fun σ H Q=>t σ H fun c H1=>Q (!c) H1
theorem qFI (ha:PT X a tA):PW X (.BoolOp .And [a] pos) tA:=by
 intro wh pins s σ H Q I h
 refine isTrue_and (thn (ha pins s σ H Q I h) fun c s1 e => ?_)
 cases c with
 |true=>exact isTrue_and_nil e
 |false=>exact e
theorem qGo (ha:PT X a tA):PW X (.BoolOp .Or [a] pos) tA:=by
 intro wh pins s σ H Q I h
 refine isTrue_or (thn (ha pins s σ H Q I h) fun c s1 e => ?_)
 cases c with
 |false=>exact isTrue_or_nil e
 |true=>exact e
theorem qGy (ha:PT X a tA) (hb:PW X (.BoolOp .And (b::rest) pos) tB'):PW X (.BoolOp .And (a::b::rest) pos) (qJW tA tB'):=by
 intro wh pins s σ H Q I h
 refine isTrue_and (thn (ha pins s σ H _ I h) fun c s1 ⟨H1,I1,q1⟩ => ?_)
 cases c with
 |true=>exact hb wh pins s1 σ H1 Q I1 q1
 |false=>exact ⟨H1,I1,q1⟩
theorem qIt (ha:PT X a tA) (hb:PW X (.BoolOp .Or (b::rest) pos) tB'):PW X (.BoolOp .Or (a::b::rest) pos) (tOr tA tB'):=by
 intro wh pins s σ H Q I h
 refine isTrue_or (thn (ha pins s σ H _ I h) fun c s1 ⟨H1,I1,q1⟩ => ?_)
 cases c with
 |true=>exact ⟨H1,I1,q1⟩
 |false=>exact hb wh pins s1 σ H1 Q I1 q1
theorem qGW (ha:PT X a tA):PT X (.UnaryOp .Not a pos) (qJY tA):=by
 intro pins s σ H Q I h
 exact isTrue_not (ha pins s σ H (fun c H1=>Q (!c) H1) I h)
def qI7 (ta tb:TE):TE:=fun σ H Q=>ta σ H fun x H1 => ∃ c,x = .bl c∧if c=true then tb σ H1 Q else Q (.bl false) H1
def qIo (ta:TE):TE:=fun σ H Q=>ta σ H fun x H1 => ∃ c,x = .bl c∧Q (.bl (!c)) H1
theorem qG7 {op} {t:TE} (h:PE X a t):PE X (.BoolOp op [a] pos) t:=fun pins s σ H Q I hw=>BoolOp_one (h pins s σ H Q I hw)
theorem qHL (ha:PE X a ta) (hb:PE X (.BoolOp .And (b::rest) pos) tb):PE X (.BoolOp .And (a::b::rest) pos) (qI7 ta tb):=by
 intro pins s σ H Q I h
 refine BoolOp_and (thn (ha pins s σ H _ I h) fun v s1 ⟨x,H1,I1,r1,q1⟩ => ?_)
 obtain ⟨c,rfl,q1⟩:=q1
 cases r1
 refine Bm ?_
 cases c with
 |true=>exact hb pins s1 σ H1 Q I1 q1
 |false=>exact ⟨.bl false,H1,I1,rfl,q1⟩
theorem qGi (ha:PE X a ta):PE X (.UnaryOp .Not a pos) (qIo ta):=by
 intro pins s σ H Q I h
 refine UnaryOp_ (thn (ha pins s σ H _ I h) fun v s1 ⟨x,H1,I1,r1,q1⟩ => ?_)
 obtain ⟨c,rfl,q1⟩:=q1
 cases r1
 exact not_of (Bm ⟨.bl (!c),H1,I1,rfl,q1⟩)
def tIf (t:TT) (ta tb:TE):TE:=fun σ H Q=>t σ H fun c H1=>if c=true then ta σ H1 Q else tb σ H1 Q
theorem qDu {c:Expr} (hc:PT X c tA) (ha:PE X a ta) (hb:PE X b tb):PE X (.IfExp c a b pos) (tIf tA ta tb):=by
 intro pins s σ H Q I h
 refine wpAny_IfExp (thn (hc pins s σ H _ I h) fun d s1 ⟨H1,I1,q1⟩ => ?_)
 cases d with
 |true=>exact ha pins s1 σ H1 Q I1 q1
 |false=>exact hb pins s1 σ H1 Q I1 q1
end
end L2
namespace L2
open PySem PySem.Spec PyProof.Rows
def SqL (K:W.Frag) (H:Hp) (a:Addr) (xs:List V):Prop :=
 Rd H a (.lst xs) ∨
  ∃ (o:Obj) (its:Array Value) (n:Nat),K.lookup a=some o∧o.cls = .type "list" ∧ o.dict=none∧o.data = .seq its n∧its.size≤sizeLine∧Vals xs its.toList
def SqT (K:W.Frag) (H:Hp) (a:Addr) (xs:List V):Prop :=
 Rd H a (.tup xs) ∨
  ∃ (o:Obj) (its:Array Value) (n:Nat),K.lookup a=some o∧o.cls = .type "tuple" ∧ o.data = .seq its n∧its.size≤sizeLine∧Vals xs its.toList
def qJd:Value->Option V
 | .none=>some .non
 | .bool b=>some (.bl b)
 | .int i _=>some (.int i)
 | .str x _=>some (.str x)
 | .bytes b _=>some (.byt b)
 | .float b _=>some (.flt b)
 | .ref a=>some (.ref a)
 | .type n=>some (.ty n)
 |_=>none
theorem RelV.abs {x:V} {u:Value} (r:RelV x u):qJd u=some x:=by
 cases x with
 |non=>cases r;rfl
 |bl _=>cases r;rfl
 |int _=>obtain ⟨t,rfl⟩:=r;rfl
 |str _=>obtain ⟨t,rfl⟩:=r;rfl
 |byt _=>obtain ⟨t,rfl⟩:=r;rfl
 |flt _=>obtain ⟨t,rfl⟩:=r;rfl
 |ref _=>cases r;rfl
 |ty _=>cases r;rfl
theorem RelV.inj {x y:V} {u:Value} (r:RelV x u) (q:RelV y u):x=y:=AW (r.abs.symm.trans q.abs)
theorem Vals.inj:∀ {xs ys:List V} {us:List Value},Vals xs us->Vals ys us->xs=ys
 |_,_,_,.nil,.nil=>rfl
 |_,_,_,.cons r t,.cons r' t'=>by rw [r.inj r',Vals.inj t t']
section
variable {X:Cx} {pins:List (Addr×Obj)} {σ:St} {H:Hp} {s:Shared} {a:Addr} {xs ys:List V}
theorem SqL.of {K:W.Frag} (h:H a=some (.lst xs)):SqL K H a xs := .inl (.inl h)
theorem Inv.list (I:Inv X pins σ H s) (h:SqL X.K H a xs):∃ its:List Value,Vals xs its∧PlainL s.heap a its.toArray∧xs.length≤sizeLine:=by
 rcases h with h |⟨o,its,n,hk,hc,hd,hs,hz,r⟩
 ·obtain ⟨z,its,n,r,e⟩:=h.ok I.hok
  exact ⟨its,r,⟨_,n,e,rfl,rfl,rfl⟩,z⟩
 ·refine ⟨its.toList,r,⟨o,n,I.kIn a o hk,hc,hd,by simpa using hs⟩,?_⟩
  have e:=r.length
  simp only [Ar] at e
  omega
theorem Inv.tuple (I:Inv X pins σ H s) (h:SqT X.K H a xs):∃ its:List Value,Vals xs its∧IsTup s.heap a its.toArray∧xs.length≤sizeLine:=by
 rcases h with h |⟨o,its,n,hk,hc,hs,hz,r⟩
 ·obtain ⟨z,its,r,p⟩:=h.ok I.hok
  exact ⟨its,r,p,z⟩
 ·refine ⟨its.toList,r,⟨o,I.kIn a o hk,hc,n,by simpa using hs⟩,?_⟩
  have e:=r.length
  simp only [Ar] at e
  omega
theorem Inv.list_inj (I:Inv X pins σ H s) (h:SqL X.K H a xs) (h':SqL X.K H a ys):xs=ys:=by
 obtain ⟨its,r,⟨o,n,e,_,_,d⟩,_⟩:=I.list h
 obtain ⟨its',r',⟨o',n',e',_,_,d'⟩,_⟩:=I.list h'
 rw [e] at e';cases e'
 rw [d] at d'
 injection d' with d1 _
 have:its=its':=by simpa using B3 Array.toList d1
 subst this
 exact r.inj r'
theorem Inv.tuple_inj (I:Inv X pins σ H s) (h:SqT X.K H a xs) (h':SqT X.K H a ys):xs=ys:=by
 obtain ⟨its,r,⟨o,e,_,n,d⟩,_⟩:=I.tuple h
 obtain ⟨its',r',⟨o',e',_,n',d'⟩,_⟩:=I.tuple h'
 rw [e] at e';cases e'
 rw [d] at d'
 injection d' with d1 _
 have:its=its':=by simpa using B3 Array.toList d1
 subst this
 exact r.inj r'
end
abbrev Cx.wish (X:Cx) (E:Value->Shared->Prop):Cx:={ X with xe:=E }
abbrev Cx.nox (X:Cx):Cx:=X.wish fun _ _=>False
theorem Cx.Ok.wish {X:Cx} (ok:X.Ok) (E:Value->Shared->Prop):(X.wish E).Ok :=
 ⟨ok.mod,ok.kind,ok.glob,ok.blt,ok.above,ok.inj,ok.has,ok.cab,ok.hd,ok.frames,ok.stk,ok.exf,ok.bs,ok.bsz,ok.noex,ok.exfs,ok.funs,ok.frf⟩
theorem Cx.Ok.unwish {X:Cx} {E:Value->Shared->Prop} (ok:(X.wish E).Ok):X.Ok :=
 ⟨ok.mod,ok.kind,ok.glob,ok.blt,ok.above,ok.inj,ok.has,ok.cab,ok.hd,ok.frames,ok.stk,ok.exf,ok.bs,ok.bsz,ok.noex,ok.exfs,ok.funs,ok.frf⟩
section
variable {X:Cx} {pins:List (Addr×Obj)} {σ:St} {H:Hp} {s:Shared} {E:Value->Shared->Prop}
theorem Inv.wish (I:Inv X pins σ H s) (E:Value->Shared->Prop):Inv (X.wish E) pins σ H s:=⟨I.ok.wish E,I.os,I.bare,I.base,I.loc,I.cell,I.free,I.freeC,I.pin,I.hok,I.len,I.hnd⟩
theorem Inv.unwish (I:Inv (X.wish E) pins σ H s):Inv X pins σ H s:=⟨I.ok.unwish,I.os,I.bare,I.base,I.loc,I.cell,I.free,I.freeC,I.pin,I.hok,I.len,I.hnd⟩
theorem SP.unwish {D:Ends} {f:Flow} {s':Shared} (h:SP (X.wish E) pins D f s'):SP X pins D f s':=by
 cases f with
 |next=>obtain ⟨σ',H',I,q⟩:=h;exact ⟨σ',H',I.unwish,q⟩
 |brk=>obtain ⟨σ',H',I,q⟩:=h;exact ⟨σ',H',I.unwish,q⟩
 |cont=>obtain ⟨σ',H',I,q⟩:=h;exact ⟨σ',H',I.unwish,q⟩
 |ret u=>obtain ⟨v,σ',H',I,r,q⟩:=h;exact ⟨v,σ',H',I.unwish,r,q⟩
end
section
variable {X:Cx} {st:Stmt} {rest:List Stmt} {t u:TS} {e:Expr} {te:TE} {pos:Pos}
def qIh:TS:=fun D σ H=>D.nx σ H
def qJX (t u:TS):TS:=fun D σ H=>t { D with nx:=u D } σ H
theorem qEl:PSs X [] qIh:=fun _ _ σ H _ I h=>wpAny_execs_nil ⟨σ,H,I,h⟩
theorem qCb (h1:PS X st t) (h2:PSs X rest u):PSs X (st::rest) (qJX t u):=by
 intro pins s σ H D I h
 refine wpAny_execs_cons (thn (h1 pins s σ H { D with nx:=u D } I h) fun f s1 q => ?_)
 cases f with
 |next =>
  obtain ⟨σ',H',I',q⟩:=q
  exact h2 pins s1 σ' H' D I' q
 |ret v=>exact q
 |brk=>exact q
 |cont=>exact q
theorem qEy (h1:PS X st t):PSs X [st] t:=by
 intro pins s σ H D I h
 refine wpAny_execs_cons (thn (h1 pins s σ H D I h) fun f s1 q => ?_)
 cases f with
 |next=>exact wpAny_execs_nil q
 |ret v=>exact q
 |brk=>exact q
 |cont=>exact q
theorem Inv.quiet {pins:List (Addr×Obj)} {σ:St} {H:Hp} {s:Shared} (I:Inv X pins σ H s):interactive X.env=false:=by simp [interactive,I.ok.kind]
def qI0 (te:TE):TS:=fun D σ H=>te σ H fun _ H1=>D.nx σ H1
theorem qFq (he:PE X e te) (hs:swapsWith e none pos.line X.env=pure false:=by rfl):PS X (.Expr e pos) (qI0 te):=by
 intro pins s σ H D I h
 exact wpAny_Expr_any (thn (he pins s σ H _ I h) fun v s1 ⟨x,H1,I1,r1,q1⟩=>⟨σ,H1,I1,q1⟩) I.quiet hs
def qJT (te:TE):TS:=fun D σ H=>te σ H D.rt
theorem qDZ (he:PE X e te):PS X (.Return (some e) pos) (qJT te):=by
 intro pins s σ H D I h
 exact wpAny_Return_some (thn (he pins s σ H _ I h) fun v s1 ⟨x,H1,I1,r1,q1⟩=>⟨x,σ,H1,I1,r1,q1⟩)
def qJM (c:TT) (t u:TS):TS:=fun D σ H=>c σ H fun b H1=>if b=true then t D σ H1 else u D σ H1
theorem qIj {c:Expr} {a b:List Stmt} {tc:TT} (hc:PT X c tc) (ha:PSs X a t) (hb:PSs X b u):PS X (.If c a b pos) (qJM tc t u):=by
 intro pins s σ H D I h
 refine wpAny_If (thn (hc pins s σ H _ I h) fun d s1 ⟨H1,I1,q1⟩ => ?_)
 cases d with
 |true=>exact ha pins s1 σ H1 D I1 q1
 |false=>exact hb pins s1 σ H1 D I1 q1
def qHj:TS:=fun _ _ _=>False
theorem qDc:PS X st qHj:=fun _ _ _ _ _ _ h=>h.elim
end
abbrev TG:=V->St->Hp->(St->Hp->Prop)->Prop
abbrev TGs:=List V->St->Hp->(St->Hp->Prop)->Prop
def PG (X:Cx) (target:Expr) (t:TG):Prop :=
 ∀ (pins:List (Addr×Obj)) (s:Shared) (σ:St) (H:Hp) (v:V) (u:Value) (Q:St->Hp->Prop),Inv X pins σ H s->RelV v u->t v σ H Q ->
  wpAny (model X.prog X.w) X.A (assign target X.env u) (fun _ s' => ∃ σ' H',Inv X pins σ' H' s'∧Q σ' H') X.xe s
def PGs (X:Cx) (ts:List Expr) (t:TGs):Prop :=
 ∀ (pins:List (Addr×Obj)) (s:Shared) (σ:St) (H:Hp) (vs:List V) (us:List Value) (Q:St->Hp->Prop),Inv X pins σ H s->Vals vs us->t vs σ H Q ->
  wpAny (model X.prog X.w) X.A (assignInOrder ((assignEach ts X.env).map (·.2)) us) (fun _ s' => ∃ σ' H',Inv X pins σ' H' s'∧Q σ' H') X.xe s
abbrev qHM:=V->V->V->Hp->(Hp->Prop)->Prop
def qI8 (X:Cx) (t:qHM):Prop :=
 ∀ (pins:List (Addr×Obj)) (s:Shared) (σ:St) (H:Hp) (o i v:V) (ov iv u:Value) (Q:Hp->Prop),Inv X pins σ H s->RelV o ov->RelV i iv->RelV v u->t o i v H Q ->
  wpAny (model X.prog X.w) X.A (setItem ov iv u) (fun _ s' => ∃ H',Inv X pins σ H' s'∧Q H') X.xe s
section
variable {X:Cx} {pos:Pos}
def qC0 (i:Nat):TG:=fun v σ H Q=>Q (σ.set i (some v)) H
theorem qFZ {i:Nat} {x:Str} (hN:X.N.Nodup) (hi:X.N[i]? = some x) (hx:Loc X.env.scope x) (hf:X.fn x=true∨X.env.scope.names.lookup x=some .local:=by first |exact .inl rfl |exact .inr rfl |assumption):PG X (.Name x pos) (qC0 i):=by
 intro pins s σ H v u Q I r h
 exact wpAny_assign_Name (zK I hN hi hx r (fun s' I'=>⟨_,H,I',h⟩) hf)
def qJn:TGs:=fun vs σ H Q=>vs=[]∧Q σ H
def qII (t:TG) (u:TGs):TGs:=fun vs σ H Q => ∃ v r,vs=v::r∧t v σ H fun σ' H'=>u r σ' H' Q
theorem qFd:PGs X [] qJn:=by
 intro pins s σ H vs us Q I r h
 obtain ⟨e,h⟩:=h
 subst e
 cases r
 exact assignInOrder_nil ⟨σ,H,I,h⟩
theorem qEQ {e:Expr} {es:List Expr} {t:TG} {u:TGs} (h1:PG X e t) (h2:PGs X es u)
  (hs:(assignEach (e::es) X.env).map (·.2)=assign e X.env::(assignEach es X.env).map (·.2):=by rfl):PGs X (e::es) (qII t u):=by
 intro pins s σ H vs us Q I r h
 obtain ⟨v,vr,e1,h⟩:=h
 subst e1
 cases r with
 |cons r rr =>
  rw [hs]
  refine assignInOrder_cons (thn (h1 pins s σ H _ _ _ I r h) fun _ s1 ⟨σ1,H1,I1,q1⟩ => ?_)
  exact h2 pins s1 σ1 H1 _ _ Q I1 rr q1
def qJf (K:W.Frag) (n:Nat) (t:TGs):TG:=fun v σ H Q => ∃ a xs,v = .ref a∧SqT K H a xs∧xs.length=n∧t xs σ H Q
theorem qGu {es:List Expr} {k:Nat} {t:TGs} {n:Nat} (hc:X.calm=true) (h:PGs X es t)
  (hn:(assignEach es X.env).length=n:=by rfl) (hst:(assignEach es X.env).findIdx? (·.1)=none:=by rfl):PG X (.Tuple es k pos) (qJf X.K n t):=by
 intro pins s σ H v u Q I r hw
 obtain ⟨a,xs,e1,hq,hl,hw⟩:=hw
 subst e1
 cases r
 obtain ⟨its,rv,ht,hz⟩:=I.tuple hq
 refine assign_Tuple_tuple (I.ok.hd hc) ht (by simp [hn,← hl,rv.length]) hst fun h' hx => ?_
 have I1:Inv X pins σ H { s with heap:=h' }:=I.kept (t':=s.toks) fun b o e=>hx b o (AU (AJ e)) e
 exact h pins _ σ H xs _ Q I1 (by simpa using rv) hw
def zS (to ti:TE) (t:qHM):TG:=fun v σ H Q=>to σ H fun o H1=>ti σ H1 fun i H2=>t o i v H2 fun H3=>Q σ H3
theorem qHu {o i:Expr} {to ti:TE} {t:qHM} (ho:PE X o to) (hi:PE X i ti) (hs:qI8 X t)
  (ha:∀ v,assign (.Subscript o i pos) X.env v=(do
   let ov ← holding [v] (eval o X.env)
   let iv ← holding [v,ov] (eval i X.env)
   standAt pos
   holding [v,ov,iv] (setItem ov iv v)
   release [v,ov,iv] []):=by intro _;rfl):PG X (.Subscript o i pos) (zS to ti t):=by
 intro pins s σ H v u Q I r h
 rw [ha]
 refine AA (As (thn (ho pins s σ H _ I h) fun ov s1 ⟨x,H1,I1,r1,q1⟩ => ?_))
 refine AA (As (thn (hi pins s1 σ H1 _ I1 q1) fun iv s2 ⟨y,H2,I2,r2,q2⟩ => ?_))
 refine AA (CF (AA (As (thn (hs pins s2 σ H2 x y v ov iv u _ I2 r1 r2 r q2) fun _ s3 ⟨H3,I3,q3⟩ => ?_))))
 exact wpAny_release ⟨σ,H3,I3,q3⟩
def qHs (te:TE) (g:TG):TS:=fun D σ H=>te σ H fun x H1=>g x σ H1 D.nx
theorem qEK {tg e:Expr} {te:TE} {g:TG} (he:PE X e te) (hg:PG X tg g) (hs:swapsWithSole [tg] e pos.line X.env=pure false:=by rfl) (hw:swappedStores [tg] e X.env=pure none:=by rfl)
  (h1:(assignEach [tg] X.env).map (·.2)=[assign tg X.env]:=by rfl):PS X (.Assign [tg] e pos) (qHs te g):=by
 intro pins s σ H D I h
 refine wpAny_Assign_stores (thn (he pins s σ H _ I h) fun v s1 ⟨x,H1,I1,r1,q1⟩ => ?_) hs hw
 rw [h1]
 exact thn (hg pins s1 σ H1 x v _ I1 r1 q1) fun _ s2 q=>q
theorem qET {i:Nat} {x:Str} {e:Expr} {te:TE} {pos':Pos} (hN:X.N.Nodup) (hi:X.N[i]? = some x) (hx:Loc X.env.scope x) (he:PE X e te) (hs:swapsWith e (some (.Name x pos')) pos.line X.env=pure false:=by rfl) (hf:X.fn x=true∨X.env.scope.names.lookup x=some .local:=by first |exact .inl rfl |exact .inr rfl |assumption) :
  PS X (.Assign [.Name x pos'] e pos) (qHs te (qC0 i)):=by
 intro pins s σ H D I h
 refine wpAny_Assign_Name (thn (he pins s σ H _ I h) fun v s1 ⟨y,H1,I1,r1,q1⟩ => ?_) hs
 exact zK I1 hN hi hx r1 (fun s2 I2=>⟨_,H1,I2,q1⟩) hf
def qJK (i j:Nat) (ta:TA):TS:=fun D σ H=>ta σ H fun vs H1 => ∃ v w,vs=[v,w]∧D.nx ((σ.set i (some v)).set j (some w)) H1
theorem qGv {i j:Nat} {x y:Str} {a b:Expr} {ta:TA} {px py pt:Pos} {kt k2 pt2} (hc:X.calm=true) (hN:X.N.Nodup) (hi:X.N[i]? = some x) (hj:X.N[j]? = some y) (hij:i≠j)
  (hx:X.env.scope.names.lookup x=some .local) (hy:X.env.scope.names.lookup y=some .local) (ha:PA X [a,b] ta)
  (hw:swappedStores [.Tuple [.Name x px,.Name y py] kt pt] (.Tuple [a,b] k2 pt2) X.env=pure (some [x,y]))
  (hs:swapsWithSole [.Tuple [.Name x px,.Name y py] kt pt] (.Tuple [a,b] k2 pt2) pos.line X.env=pure false:=by rfl) :
  PS X (.Assign [.Tuple [.Name x px,.Name y py] kt pt] (.Tuple [a,b] k2 pt2) pos) (qJK i j ta):=by
 intro pins s σ H D I h
 rw [exec_Assign_arm]
 refine AA (CF ?_)
 rw [hs]
 refine AA (AE ?_)
 rw [AH (by decide)]
 refine AA (Tuple_ (thn (ha _ pins s σ H _ I h) fun us s1 ⟨vs,H1,I1,r1,q1⟩ => ?_))
 obtain ⟨v,w,e1,q1⟩:=q1
 subst e1
 obtain ⟨u1,u2,rfl,rv,rw'⟩:∃ u1 u2,us=[u1,u2]∧RelV v u1∧RelV w u2:=by
  cases r1 with
  |cons p q =>
   cases q with
   |cons p' q' =>
    cases q'
    exact ⟨_,_,rfl,p,p'⟩
 refine Au ?_ (by show 2≤sizeLine;decide)
 have I2:Inv X pins σ H1 { s1 with heap:=s1.heap.push { cls := .type "tuple",data := .seq [u1,u2].toArray } }:=I1.kept (t':=s1.toks) fun b o e=>AF _ e
 rw [hw]
 refine AA (AE ?_)
 show wpAny (model X.prog X.w) X.A (do rule "assign.swapped-stores";let items ← unpackItems (.ref s1.heap.objs.size) 2 none;assignInOrder [fun v=>bindName X.env y v,fun v=>bindName X.env x v] items.reverse;pure Flow.next) _ _ _
 refine AA (CP (AA (unpackItems_tuple (items := #[u1,u2]) (I.ok.hd hc) (IsTup.new s1.heap _) fun h' hx' => ?_)))
 have I3:=I2.kept (h':=h') (t':=s1.toks) fun b o e=>hx' b o (AU (AJ e)) e
 show wpAny _ _ (assignInOrder [fun v=>bindName X.env y v,fun v=>bindName X.env x v] [u2,u1] >>= fun _=>pure Flow.next) _ _ _
 refine AA (assignInOrder_cons (wpAny_bindName (zK I3 hN hj (.inl hy) rw' (fun s2 I4 => ?_) (.inr hy))))
 refine assignInOrder_cons (wpAny_bindName (zK I4 hN hi (.inl hx) rv (fun s3 I5=>assignInOrder_nil (AE ?_)) (.inr hx)))
 rw [List.set_comm _ _ (Ne.symm hij)] at I5
 exact ⟨_,H1,I5,q1⟩
end
structure It where
 go:Nat->Hp->Prop
 yld:Nat->Hp->V->Hp->Prop
 stop:Nat->Hp->Prop
def ze (X:Cx) (pins:List (Addr×Obj)) (H:Hp) (b:Addr):Prop :=
 H b=none∧b≠X.env.locals∧b ∉ X.fs∧(b∈X.ex∨X.s₀.heap.objs.size≤b)∧(∀ x c,X.env.cells.lookup x=some c->c≠b) ∧ ∀ p∈X.pn++pins,p.1≠b
theorem Inv.fpOk {X:Cx} {pins:List (Addr×Obj)} {σ:St} {H H':Hp} {s:Shared} {b:Addr} (I:Inv X pins σ H s) (hb:s.heap.objs.size≤b) (hn:H' b=none):ze X pins H' b:=by
 refine ⟨hn,B5 (Ai I.lt hb),I.nofs hb,.inr (Aa I.sz hb),fun x c e z => ?_,fun p hp z => ?_⟩
 ·obtain ⟨v,q⟩:=I.cell x c e
  exact absurd (Ai q.lt (by rw [z];exact hb)) (Bk _)
 ·exact absurd (Ai (AJ (I.pin p hp).1) (by rw [z];exact hb)) (Bk _)
theorem Inv.hndH {X:Cx} {pins:List (Addr×Obj)} {σ:St} {H:Hp} {s:Shared} (I:Inv X pins σ H s):EX.Hnd X.A s.heap:=fun v hv=>by
 obtain ⟨ea,oe,u,vs,e1,e2,e3⟩:=I.hnd v hv
 exact ⟨ea,oe,vs,e1,(I.hok _ _ e2).1,e3⟩
theorem Inv.hndNe {X:Cx} {pins:List (Addr×Obj)} {σ:St} {H:Hp} {s:Shared} (I:Inv X pins σ H s) {it:Addr} (hn:H it=none):∀ v,X.A.handled=some v->v ≠ .ref it:=fun v hv z=>by
 obtain ⟨ea,oe,u,vs,e1,e2,e3⟩:=I.hnd v hv
 rw [e1] at z;cases z;rw [hn] at e2;cases e2
structure Turn (P:Program) (w:World) (K:W.Frag) (A:Around) (tg:Expr) (J:It) (fp:List Addr) (it:Addr) (tn:Nat->Heap->Prop):Prop where
 mem:it∈fp
 obj:∀ i h,tn i h -> ∀ b∈fp,∃ o,h.get? b=some o ∧ ∀ v,o.data ≠ .cell v
 keep:∀ i h h',tn i h->(∀ b∈fp,∀ o,h.get? b=some o->h'.get? b=some o)->tn i h'
 item:∀ (X:Cx),X.prog=P->X.w=w->X.K=K->X.A=A -> ∀ (i:Nat) (pins:List (Addr×Obj)) (s:Shared) (σ:St) (H:Hp) (E:Value->Shared->Prop),Inv X pins σ H s->(∀ b∈fp,ze X pins H b)->tn i s.heap->J.go i H ->
  wpAny (model P w) X.A (pyNext (.ref it)) (fun r s1 => ∃ u,r=some u ∧
   wpAny (model P w) X.A (letOwnedTupleGo tg (.ref it) u) (fun _ s2 => ∃ x H',Inv X pins σ H' s2∧RelV x u∧J.yld i H x H'∧tn (i + 1) s2.heap ∧ ∀ b∈fp,H' b=none) E s1) E s
 done:∀ (X:Cx),X.prog=P->X.w=w->X.K=K->X.A=A -> ∀ (i:Nat) (pins:List (Addr×Obj)) (s:Shared) (σ:St) (H:Hp) (E:Value->Shared->Prop),Inv X pins σ H s->(∀ b∈fp,ze X pins H b)->tn i s.heap->J.stop i H ->
  wpAny (model P w) X.A (pyNext (.ref it)) (fun r s1=>r=none∧Inv X pins σ H s1) E s
 self:∀ (A:Around) (i:Nat) (s:Shared) (Q:Value->Shared->Prop) (E:Value->Shared->Prop),tn i s.heap->Q (.ref it) s->wpAny (model P w) A (pyIter (.ref it)) Q E s
abbrev TI:=St->Hp->(It->Hp->Prop)->Prop
def PIE (X:Cx) (pins:List (Addr×Obj)) (σ:St) (tg:Expr) (R:It->Hp->Prop) (itv:Value) (s2:Shared):Prop :=
 ∃ (it:Addr) (fp:List Addr) (tn:Nat->Heap->Prop) (J:It) (H':Hp),itv = .ref it∧Inv X pins σ H' s2∧Turn X.prog X.w X.K X.A tg J fp it tn∧tn 0 s2.heap∧(∀ b∈fp,ze X pins H' b)∧R J H'
def PI (X:Cx) (tg iter:Expr) (wi:TI):Prop :=
 ∀ (pins:List (Addr×Obj)) (s:Shared) (σ:St) (H:Hp) (R:It->Hp->Prop),Inv X pins σ H s->wi σ H R ->
  wpAny (model X.prog X.w) X.A (eval iter X.env) (fun v s1=>wpAny (model X.prog X.w) X.A (pyIter v) (PIE X pins σ tg R) X.xe s1) X.xe s
theorem qDF {M : Model} {A : Around} {E : Value->Shared->Prop} {s : Shared} {tg : Expr} {it : Addr} {u : Value} {o : Obj} {n : String} {vs : Array Value} {Q : Unit->Shared->Prop} (ho : s.heap.get? it=some o) (hc : o.cls = .type n) (hd : o.data = .fields vs)
    (hn : ["enumerate", "zip", "dict_itemiterator", "dict_reverseitemiterator", "odict_iterator", "itertools.zip_longest", "itertools.pairwise"].contains n=false) (hQ : Q () s) : wpAny M A (letOwnedTupleGo tg (.ref it) u) Q E s:=by
  unfold letOwnedTupleGo
  cases tg <;> first
    |exact AE hQ
    |(cases u <;> first
        |exact AE hQ
        | (refine AA (wpAny_load ho ?_)
           rw [hc, hd]
           show wpAny M A (if (["enumerate", "zip", "dict_itemiterator", "dict_reverseitemiterator", "odict_iterator", "itertools.zip_longest", "itertools.pairwise"].contains n&&vs[0]? == some (rawInt _))=true then _ else _) Q E s
           rw [AH (by intro h; rw [hn, Bool.false_and] at h; cases h)]
           exact AE hQ))
def Itl (K:W.Frag) (a:Addr):It :=
 ⟨fun i H => ∃ xs x,SqL K H a xs∧xs[i]? = some x,fun i H x H'=>H'=H ∧ ∀ xs,SqL K H a xs->xs[i]? = some x,fun i H => ∃ xs,SqL K H a xs∧xs.length≤i⟩
def Itt (K:W.Frag) (a:Addr):It :=
 ⟨fun i H => ∃ xs x,SqT K H a xs∧xs[i]? = some x,fun i H x H'=>H'=H ∧ ∀ xs,SqT K H a xs->xs[i]? = some x,fun i H => ∃ xs,SqT K H a xs∧xs.length≤i⟩
def Itr (lo:Int) (n:Nat):It:=⟨fun i _=>i < n,fun i H x H'=>H'=H∧x = .int (lo + i),fun i _=>n≤i⟩
theorem qCS {P:Program} {w:World} {K:W.Frag} {A:Around} {tg:Expr} (a it:Addr):Turn P w K A tg (Itl K a) [it] it (fun i h=>h.IsListIter it a i) where
 mem:=by simp
 obj:=fun i h st b hb=>by
  have e:b=it:=by simpa using hb
  subst e
  obtain ⟨o,e,c,d⟩:=st
  exact ⟨o,e,fun v z=>by rw [d] at z;cases z⟩
 keep:=fun i h h' st k=>st.at fun o e=>k it (by simp) o e
 item:=by
  intro X hP hw hK _ i pins s σ H E I hf st hg
  subst hP hw hK
  obtain ⟨xs,x,hq,hx⟩:=hg
  obtain ⟨its,rv,p,hz⟩:=I.list hq
  obtain ⟨u,hu,ru⟩:=rv.get hx
  obtain ⟨f0,f1,f2,f3,f4,f5⟩:=hf it (by simp)
  refine wpAny_pyNext_list_item st p.isList (x:=u) (by simpa using hu) fun h' st' sb => ?_
  have I1:Inv X pins σ H { s with heap:=h' }:=I.turned (t':=s.toks) (fun b o hb e=>(sb.2 b hb).trans e) f0 f1 f3 f4 f5
  obtain ⟨o,e,c,d⟩:=id st'
  exact ⟨u,rfl,qDF (s:={ s with heap:=h' }) e c d (by decide) ⟨x,H,I1,ru,⟨rfl,fun ys hy=>by rw [I.list_inj hy hq];exact hx⟩,st',fun b hb=>(hf b hb).1⟩⟩
 done:=by
  intro X hP hw hK _ i pins s σ H E I hf st hg
  subst hP hw hK
  obtain ⟨xs,hq,hx⟩:=hg
  obtain ⟨its,rv,p,hz⟩:=I.list hq
  obtain ⟨f0,f1,f2,f3,f4,f5⟩:=hf it (by simp)
  have hl:=rv.length
  exact EX.list_end I.hndH st p.isList (by simp;omega) (I.hndNe f0) fun h' eb=>⟨rfl,I.turned (t':=s.toks) (fun b o hb e=>eb b o hb e) f0 f1 f3 f4 f5⟩
 self:=fun _ _ _ _ _ st h=>wpAny_pyIter_listiter st h
theorem qAX {P:Program} {w:World} {K:W.Frag} {A:Around} {tg:Expr} (a it:Addr):Turn P w K A tg (Itt K a) [it] it (fun i h=>h.IsTupleIter it a i) where
 mem:=by simp
 obj:=fun i h st b hb=>by
  have e:b=it:=by simpa using hb
  subst e
  obtain ⟨o,e,c,d⟩:=st
  exact ⟨o,e,fun v z=>by rw [d] at z;cases z⟩
 keep:=fun i h h' st k=>st.at fun o e=>k it (by simp) o e
 item:=by
  intro X hP hw hK _ i pins s σ H E I hf st hg
  subst hP hw hK
  obtain ⟨xs,x,hq,hx⟩:=hg
  obtain ⟨its,rv,p,hz⟩:=I.tuple hq
  obtain ⟨u,hu,ru⟩:=rv.get hx
  obtain ⟨f0,f1,f2,f3,f4,f5⟩:=hf it (by simp)
  refine wpAny_pyNext_tuple_item st (show s.heap.IsTuple a its.toArray from p) (x:=u) (by simpa using hu) fun h' st' sb => ?_
  have I1:Inv X pins σ H { s with heap:=h' }:=I.turned (t':=s.toks) (fun b o hb e=>(sb.2 b hb).trans e) f0 f1 f3 f4 f5
  obtain ⟨o,e,c,d⟩:=id st'
  exact ⟨u,rfl,qDF (s:={ s with heap:=h' }) e c d (by decide) ⟨x,H,I1,ru,⟨rfl,fun ys hy=>by rw [I.tuple_inj hy hq];exact hx⟩,st',fun b hb=>(hf b hb).1⟩⟩
 done:=by
  intro X hP hw hK _ i pins s σ H E I hf st hg
  subst hP hw hK
  obtain ⟨xs,hq,hx⟩:=hg
  obtain ⟨its,rv,p,hz⟩:=I.tuple hq
  obtain ⟨f0,f1,f2,f3,f4,f5⟩:=hf it (by simp)
  have hl:=rv.length
  exact EX.tuple_end I.hndH st (show s.heap.IsTuple a its.toArray from p) (by simp;omega) (I.hndNe f0) fun h' eb=>⟨rfl,I.turned (t':=s.toks) (fun b o hb e=>eb b o hb e) f0 f1 f3 f4 f5⟩
 self:=fun _ _ _ _ _ st h=>wpAny_pyIter_tupleiter st h
theorem Jy {P:Program} {w:World} {K:W.Frag} {A:Around} {tg:Expr} (it:Addr) (lo:Int) (n:Nat):Turn P w K A tg (Itr lo n) [it] it (fun i h=>IsRangeIter h it (lo + (i:Nat) * 1) ((n:Int) - (i:Nat)) 1) where
 mem:=by simp
 obj:=fun i h st b hb=>by
  have e:b=it:=by simpa using hb
  subst e
  exact ⟨_,st,fun v z=>by
   have z':Data.fields _=Data.cell v:=z
   cases z'⟩
 keep:=fun i h h' st k=>k it (by simp) _ st
 item:=by
  intro X hP hw hK _ i pins s σ H E I hf st hg
  subst hP hw hK
  obtain ⟨f0,f1,f2,f3,f4,f5⟩:=hf it (by simp)
  refine wpAny_pyNext_range_item st (by have:i < n:=hg;omega) fun h' st' sb => ?_
  have I1:Inv X pins σ H { s with heap:=h',toks:=s.toks + 1 }:=I.turned (fun b o hb e=>(sb.2 b hb).trans e) f0 f1 f3 f4 f5
  have st2:IsRangeIter h' it (lo + ((i + 1:Nat):Int) * 1) ((n:Int) - ((i + 1:Nat):Int)) 1:=by
   have q1:lo + (i:Int) * 1 + 1=lo + ((i + 1:Nat):Int) * 1:=by omega
   have q2:(n:Int) - (i:Int) - 1=(n:Int) - ((i + 1:Nat):Int):=by omega
   rw [← q1,← q2];exact st'
  refine ⟨_,rfl,qDF (s:={ s with heap:=h',toks:=s.toks + 1 }) (n := "range_iterator") st2 rfl rfl (by decide) ⟨.int (lo + i),H,I1,⟨s.toks,?_⟩,⟨rfl,rfl⟩,st2,fun b hb=>(hf b hb).1⟩⟩
  rw [Int.mul_one]
 done:=by
  intro X hP hw hK _ i pins s σ H E I hf st hg
  subst hP hw hK
  obtain ⟨f0,f1,f2,f3,f4,f5⟩:=hf it (by simp)
  exact EX.range_end I.hndH st (by have:n≤i:=hg;omega) fun h' eb=>⟨rfl,I.turned (t':=s.toks) (fun b o hb e=>eb b o e) f0 f1 f3 f4 f5⟩
 self:=fun _ _ _ _ _ st h=>wpAny_pyIter_rangeiter st h
end L2
namespace L2
open PySem PySem.Spec PyProof.Rows
section
variable {X:Cx} {tg:Expr}
theorem jv {pins:List (Addr×Obj)} {σ:St} {H:Hp} {s:Shared} {R:It->Hp->Prop} {E:Value->Shared->Prop} {lo hi:Int} {t u v:Tok} {tk:Nat} (I:Inv X pins σ H s) (h1:-(2 ^ 62)≤lo) (h2:lo < 2 ^ 62) (h3:-(2 ^ 62)≤hi) (h4:hi < 2 ^ 62)
  (q:R (Itr lo (hi - lo).toNat) H):wpAny (model X.prog X.w) X.A (pyIter (.ref s.heap.objs.size)) (PIE X pins σ tg R) E { s with heap:=s.heap.push { cls := .type "range",data := .fields #[.int lo t,.int hi u,.int 1 v] },toks:=tk }:=by
 refine wpAny_pyIter_range (IsRange.new ..) (small_one h1 h2 h3 h4) ?_
 have I1:Inv X pins σ H { s with heap:=s.heap.push { cls := .type "range",data := .fields #[.int lo t,.int hi u,.int 1 v] },toks:=tk }:=I.kept fun b o e=>AF _ e
 refine ⟨(s.heap.push { cls := .type "range",data := .fields #[.int lo t,.int hi u,.int 1 v] }).objs.size,[(s.heap.push { cls := .type "range",data := .fields #[.int lo t,.int hi u,.int 1 v] }).objs.size],_,_,H,rfl,
  I1.kept (t':=tk) fun b o e=>AF _ e,Jy _ lo (hi - lo).toNat,?_,fun b hb => ?_,q⟩
 ·have e1:lo + ((0:Nat):Int) * 1=lo:=by simp
  have e2:(((hi - lo).toNat:Nat):Int) - ((0:Nat):Int)=Builtin.Range.rangeSize lo hi 1:=by rw [rangeSize_one];split <;> omega
  show IsRangeIter _ _ (lo + ((0:Nat):Int) * 1) ((((hi - lo).toNat:Nat):Int) - ((0:Nat):Int)) 1
  rw [e1,e2]
  exact AT _ rfl
 ·have e:b=(s.heap.push { cls := .type "range",data := .fields #[.int lo t,.int hi u,.int 1 v] }).objs.size:=by simpa using hb
  subst e
  exact I1.fpOk (AI _) (I1.hok.fresh (AI _))
def qI3 (ta:TA):TI:=fun σ H R=>ta σ H fun vs H1 => ∃ j:Int,vs=[.int j] ∧ -(2 ^ 62)≤j∧j < 2 ^ 62∧R (Itr 0 j.toNat) H1
def qIx (ta:TA):TI:=fun σ H R=>ta σ H fun vs H1 => ∃ i j:Int,vs=[.int i,.int j]∧(-(2 ^ 62)≤i∧i < 2 ^ 62 ∧ -(2 ^ 62)≤j∧j < 2 ^ 62)∧R (Itr i (j - i).toNat) H1
theorem qCB {a:Expr} {ta:TA} {p pos:Pos} (hg:Gl X "range") (hm:X.mg "range" = none) (ha:PA X [a] ta) (hs:starEach [a] X.env=[(false,eval a X.env)]:=by rfl):PI X tg (.Call (.Name "range" p) [a] [] pos) (qI3 ta):=by
 intro pins s σ H R I h
 refine Call_ (Wx I hg hm boot_range (BJ (thn (ha pos pins s σ H _ I h) fun us s1 ⟨vs,H1,I1,r1,q1⟩ => ?_) hs rfl))
 obtain ⟨j,e,q1,q2,q⟩:=q1
 subst e
 cases r1 with
 |cons r rr =>
  cases rr
  obtain ⟨t,rfl⟩:=r
  exact call_range_1 (jv I1 (by omega) (by omega) q1 q2 (by simpa using q))
theorem qCI {a b:Expr} {ta:TA} {p pos:Pos} (hg:Gl X "range") (hm:X.mg "range" = none) (ha:PA X [a,b] ta) (hs:starEach [a,b] X.env=[(false,eval a X.env),(false,eval b X.env)]:=by rfl) (hs2:starEach [b] X.env=[(false,eval b X.env)]:=by rfl) :
  PI X tg (.Call (.Name "range" p) [a,b] [] pos) (qIx ta):=by
 intro pins s σ H R I h
 refine Call_ (Wx I hg hm boot_range (BJ (thn (ha pos pins s σ H _ I h) fun us s1 ⟨vs,H1,I1,r1,q1⟩ => ?_) (by rw [hs,hs2]) (by rw [hs2];rfl)))
 obtain ⟨i,j,e,⟨q1,q2,q3,q4⟩,q⟩:=q1
 subst e
 cases r1 with
 |cons r rr =>
  cases rr with
  |cons r' rr =>
   cases rr
   obtain ⟨t,rfl⟩:=r
   obtain ⟨t',rfl⟩:=r'
   exact call_range_2 (jv I1 q1 q2 q3 q4 q)
def qJa (wi:TI) (g:TG) (tb:TS):TS:=fun D σ H=>wi σ H fun J H1 => ∃ W:Nat->Nat->St->Hp->Prop,(∃ m,W 0 m σ H1) ∧ ∀ i m σ H,W i m σ H ->
 (J.stop i H∧D.nx σ H)∨(J.go i H ∧ ∃ N:St->Hp->Prop,(∀ σ' H',N σ' H' -> ∃ m',m' < m∧W (i + 1) m' σ' H') ∧ ∀ x H',J.yld i H x H'->g x σ H' fun σ2 H2=>tb { D with nx:=N,ct:=N,bk:=D.nx } σ2 H2)
def zc (fp:List Addr) (h:Heap):List (Addr×Obj):=fp.filterMap fun b=>(h.get? b).map fun o=>(b,o)
theorem W2 {fp:List Addr} {h:Heap} {b:Addr} {o:Obj} (hb:b∈fp) (e:h.get? b=some o):(b,o)∈zc fp h:=List.mem_filterMap.mpr ⟨b,hb,by rw [e];rfl⟩
theorem qCV {fp:List Addr} {h:Heap} {p:Addr×Obj} (hp:p∈zc fp h):p.1∈fp∧h.get? p.1=some p.2:=by
 obtain ⟨b,hb,e⟩:=List.mem_filterMap.mp hp
 cases q:h.get? b with
 |none=>rw [q] at e;cases e
 |some o =>
  rw [q] at e
  have e':(b,o)=p:=AW e
  subst e'
  exact ⟨hb,q⟩
theorem Inv.pinned {pins:List (Addr×Obj)} {σ:St} {H:Hp} {s:Shared} {fp:List Addr} (I:Inv X pins σ H s) (hf:∀ b∈fp,ze X pins H b) (ho:∀ b∈fp,∃ o,s.heap.get? b=some o ∧ ∀ v,o.data ≠ .cell v):Inv X (pins++zc fp s.heap) σ H s :=
 I.pins_of fun p hp=>(Ah.mp hp).elim (fun z=>I.pin p (Aq _ z)) fun z=>by
  obtain ⟨hb,e⟩:=qCV z
  obtain ⟨f0,f1,f2,_⟩:=hf p.1 hb
  obtain ⟨o,e',d⟩:=ho p.1 hb
  rw [e] at e';cases e'
  exact ⟨e,f0,f1,f2,d⟩
theorem Inv.unpinned {pins pl:List (Addr×Obj)} {σ:St} {H:Hp} {s:Shared} (I:Inv X (pins++pl) σ H s):Inv X pins σ H s:=I.pins_of fun p hp=>I.pin p (Aq _ (List.mem_append_left _ hp))
end
end L2
namespace L2
open PySem PySem.Spec PyProof.Rows
abbrev R2:=V->V->Hp->VK->Prop
def OpR (X:Cx) (f:Value->Value->Sem Value) (r:R2):Prop :=
 ∀ (pins:List (Addr×Obj)) (s:Shared) (σ:St) (H:Hp) (x y:V) (v u:Value) (Q:VK),Inv X pins σ H s->RelV x v->RelV y u->r x y H Q ->
  wpAny (model X.prog X.w) X.A (f v u) (EP X pins σ Q) X.xe s
def UnR (X:Cx) (f:Value->Sem Value) (r:V->Hp->VK->Prop):Prop :=
 ∀ (pins:List (Addr×Obj)) (s:Shared) (σ:St) (H:Hp) (x:V) (v:Value) (Q:VK),Inv X pins σ H s->RelV x v->r x H Q ->
  wpAny (model X.prog X.w) X.A (f v) (EP X pins σ Q) X.xe s
def wz (X:Cx) (f:Value) (r:List V->Hp->VK->Prop):Prop :=
 ∀ (pins:List (Addr×Obj)) (s:Shared) (σ:St) (H:Hp) (xs:List V) (us:List Value) (Q:VK),Inv X pins σ H s->Vals xs us->r xs H Q ->
  wpAny (model X.prog X.w) X.A (call f us) (EP X pins σ Q) X.xe s
def qJo (X:Cx) (r:V->Hp->(Bool->Hp->Prop)->Prop):Prop :=
 ∀ (pins:List (Addr×Obj)) (s:Shared) (σ:St) (H:Hp) (x:V) (v:Value) (Q:Bool->Hp->Prop),Inv X pins σ H s->RelV x v->r x H Q ->
  wpAny (model X.prog X.w) X.A (truthy v) (TP X pins σ Q) X.xe s
def tOp (r:R2) (ta tb:TE):TE:=fun σ H Q=>ta σ H fun x H1=>tb σ H1 fun y H2=>r x y H2 Q
def tUn (r:V->Hp->VK->Prop) (ta:TE):TE:=fun σ H Q=>ta σ H fun x H1=>r x H1 Q
def rI (C:Int->Int->Prop) (g:Int->Int->V):R2:=fun x y H Q => ∃ i j,x = .int i∧y = .int j∧C i j∧Q (g i j) H
def rI0 (g:Int->Int->V):R2:=fun x y H Q => ∃ i j,x = .int i∧y = .int j∧Q (g i j) H
def rU (g:Int->V):V->Hp->VK->Prop:=fun x H Q => ∃ i,x = .int i∧Q (g i) H
section
variable {X:Cx} {a b c:Expr} {ta tb tc:TE} {pos:Pos}
theorem qGq (ha:PE X a ta) (hb:PE X b tb) {pins:List (Addr×Obj)} {s:Shared} {σ:St} {H:Hp} {R:V->V->Hp->Prop} (I:Inv X pins σ H s)
  (h:ta σ H fun x H1=>tb σ H1 fun y H2=>R x y H2) {Q:Value->Shared->Prop} {f:Value->Value->Sem Value}
  (hf:∀ v u s2 x y H2,Inv X pins σ H2 s2->RelV x v->RelV y u->R x y H2->wpAny (model X.prog X.w) X.A (f v u) Q X.xe s2) :
  wpAny (model X.prog X.w) X.A (eval a X.env) (fun v s₁=>wpAny (model X.prog X.w) X.A (eval b X.env) (fun u s₂=>wpAny (model X.prog X.w) X.A (f v u) Q X.xe s₂) X.xe s₁) X.xe s:=by
 refine thn (ha pins s σ H _ I h) fun v s1 ⟨x,H1,I1,r1,q1⟩ => ?_
 refine thn (hb pins s1 σ H1 _ I1 q1) fun u s2 ⟨y,H2,I2,r2,q2⟩ => ?_
 exact hf v u s2 x y H2 I2 r1 r2 q2
theorem qGI {op:Operator} {r:R2} (ho:OpR X (binaryOp op) r) (ha:PE X a ta) (hb:PE X b tb):PE X (.BinOp a op b pos) (tOp r ta tb):=by
 intro pins s σ H Q I h
 exact wpAny_BinOp (qGq ha hb I h fun v u s2 x y H2 I2 rx ry q=>ho pins s2 σ H2 x y v u Q I2 rx ry q)
theorem qId {op:UnaryOp} {r:V->Hp->VK->Prop} (ho:UnR X (unaryOp op) r) (ha:PE X a ta):PE X (.UnaryOp op a pos) (tUn r ta):=by
 intro pins s σ H Q I h
 exact UnaryOp_ (thn (ha pins s σ H _ I h) fun v s1 ⟨x,H1,I1,r1,q1⟩=>ho pins s1 σ H1 x v Q I1 r1 q1)
theorem opI {f:Value->Value->Sem Value} {C:Int->Int->Prop} {g:Int->Int->Int}
  (rule:∀ (i j:Int) (t u:Tok) (s:Shared) (Q:Value->Shared->Prop) (E:Value->Shared->Prop),C i j->Q (.int (g i j) s.toks) { s with toks:=s.toks + 1 }->wpAny (model X.prog X.w) X.A (f (.int i t) (.int j u)) Q E s) :
  OpR X f (rI C fun i j => .int (g i j)):=by
 intro pins s σ H x y v u Q I rx ry h
 obtain ⟨i,j,rfl,rfl,hc,q⟩:=h
 obtain ⟨t,rfl⟩:=rx
 obtain ⟨t',rfl⟩:=ry
 exact rule i j t t' s _ _ hc ⟨.int (g i j),H,I.tok _,⟨_,rfl⟩,q⟩
theorem qIy {f:Value->Value->Sem Value} {g:Int->Int->Int}
  (rule:∀ (i j:Int) (t u:Tok) (s:Shared) (Q:Value->Shared->Prop) (E:Value->Shared->Prop),Q (.int (g i j) s.toks) { s with toks:=s.toks + 1 }->wpAny (model X.prog X.w) X.A (f (.int i t) (.int j u)) Q E s) :
  OpR X f (rI0 fun i j => .int (g i j)):=by
 intro pins s σ H x y v u Q I rx ry h
 obtain ⟨i,j,rfl,rfl,q⟩:=h
 obtain ⟨t,rfl⟩:=rx
 obtain ⟨t',rfl⟩:=ry
 exact rule i j t t' s _ _ ⟨.int (g i j),H,I.tok _,⟨_,rfl⟩,q⟩
theorem qHA {f:Value->Value->Sem Value} {g:Int->Int->Bool}
  (rule:∀ (i j:Int) (t u:Tok) (s:Shared) (Q:Value->Shared->Prop) (E:Value->Shared->Prop),Q (.bool (g i j)) s->wpAny (model X.prog X.w) X.A (f (.int i t) (.int j u)) Q E s) :
  OpR X f (rI0 fun i j => .bl (g i j)):=by
 intro pins s σ H x y v u Q I rx ry h
 obtain ⟨i,j,rfl,rfl,q⟩:=h
 obtain ⟨t,rfl⟩:=rx
 obtain ⟨t',rfl⟩:=ry
 exact rule i j t t' s _ _ ⟨.bl (g i j),H,I,rfl,q⟩
def qJh (i j:Int):Prop:=0 < j∧j < 1073741824
def CMul (i j:Int):Prop:=(-(2 ^ 64) < i∧i < 2 ^ 64)∨(-(2 ^ 64) < j∧j < 2 ^ 64)
theorem CMul.ok {i j:Int} (h:CMul i j):IntMulOk i j:=by
 rcases h with ⟨h1,h2⟩ |⟨h1,h2⟩
 ·exact .of_left (intBits_le_64 h1 h2)
 ·exact .of_right (intBits_le_64 h1 h2)
theorem qHd:OpR X (binaryOp .Add) (rI0 fun i j => .int (i + j)):=qIy fun _ _ _ _ _ _ _ q=>add_int q
theorem qGV:OpR X (binaryOp .Sub) (rI0 fun i j => .int (i - j)):=qIy fun _ _ _ _ _ _ _ q=>sub_int q
theorem qGw:OpR X (binaryOp .Mult) (rI CMul fun i j => .int (i * j)):=opI fun _ _ _ _ _ _ _ hc q=>mul_int q hc.ok
theorem qFO:OpR X (binaryOp .FloorDiv) (rI qJh fun i j => .int (i / j)):=opI fun i j _ _ _ _ _ hc q=>by
 have h1:(0:Int) < j:=hc.1
 have h2:j < 1073741824:=hc.2
 exact floordiv_int (by omega) (by rw [Int.fdiv_eq_ediv_of_nonneg i (by omega)];exact q) (.inl (PyProof.noPylong_small (by omega)))
theorem qGf:OpR X (binaryOp .Mod) (rI (fun _ j=>0 < j) fun i j => .int (i % j)):=opI fun i j _ _ _ _ _ hc q=>by
 have h1:(0:Int) < j:=hc
 exact mod_int' (by omega) (by rw [Int.fmod_eq_emod_of_nonneg i (by omega)];exact q)
theorem unI {f:Value->Sem Value} {g:Int->Int}
  (rule:∀ (i:Int) (t:Tok) (s:Shared) (Q:Value->Shared->Prop) (E:Value->Shared->Prop),Q (.int (g i) s.toks) { s with toks:=s.toks + 1 }->wpAny (model X.prog X.w) X.A (f (.int i t)) Q E s) :
  UnR X f (rU fun i => .int (g i)):=by
 intro pins s σ H x v Q I rx h
 obtain ⟨i,rfl,q⟩:=h
 obtain ⟨t,rfl⟩:=rx
 exact rule i t s _ _ ⟨.int (g i),H,I.tok _,⟨_,rfl⟩,q⟩
theorem qGz:UnR X (unaryOp .USub) (rU fun i => .int (-i)):=unI fun _ _ _ _ _ q=>neg_int q
theorem qHz {pins:List (Addr×Obj)} {σ:St} {H:Hp} {s:Shared} {Q:VK} {k k':Bool} (I:Inv X pins σ H s) (q:Q (.bl k) H) (e:k=k'):EP X pins σ Q (.bool k') s:=by
 subst e
 exact ⟨.bl k,H,I,rfl,q⟩
theorem qGB:OpR X (compareOp .Lt) (rI0 fun i j => .bl (decide (i < j))):=qHA fun _ _ _ _ _ _ _ q=>lt_int q
theorem qF8:OpR X (compareOp .LtE) (rI0 fun i j => .bl (decide (i≤j))):=qHA fun _ _ _ _ _ _ _ q=>le_int q
theorem qDR:OpR X (compareOp .Gt) (rI0 fun i j => .bl (decide (j < i))):=qHA fun _ _ _ _ _ _ _ q=>gt_int q
theorem qB3:OpR X (compareOp .In) (fun x y H Q => ∃ i j,x = .str i∧y = .str j∧Q (.bl (!(Builtin.Str.occurrences j i 0 j.length 1).isEmpty)) H):=by
 intro pins s σ H x y v u Q I rx ry h
 obtain ⟨i,j,rfl,rfl,q⟩:=h
 obtain ⟨t,rfl⟩:=rx
 obtain ⟨t',rfl⟩:=ry
 exact in_str (qHz I q rfl)
theorem qz (b:Expr) {op:CmpOp} (h:op ≠ .In:=by decide) (h2:op ≠ .NotIn:=by decide):behindInMarks op b=false:=by
 have e1:(op==CmpOp.In)=false:=by cases op <;> first |rfl |exact absurd rfl h
 have e2:(op==CmpOp.NotIn)=false:=by cases op <;> first |rfl |exact absurd rfl h2
 cases b <;> simp [behindInMarks,e1,e2]
theorem qE8 {op:CmpOp} {r:R2} (ho:OpR X (compareOp op) r) (ha:PE X a ta) (hb:PE X b tb) (hm:behindInMarks op b=false):PE X (.Compare a [op] [b] pos) (tOp r ta tb):=by
 intro pins s σ H Q I h
 exact wpAny_Compare1 (qGq ha hb I h fun v u s2 x y H2 I2 rx ry q=>ho pins s2 σ H2 x y v u Q I2 rx ry q) hm
def qIi (t:TE):TT:=fun σ H Q=>t σ H fun x H' => ∃ k,x = .bl k∧Q k H'
theorem qE9 {op:CmpOp} {r:R2} (ho:OpR X (compareOp op) r) (ha:PE X a ta) (hb:PE X b tb) (hm:behindInMarks op b=false):PT X (.Compare a [op] [b] pos) (qIi (tOp r ta tb)):=by
 intro pins s σ H Q I h
 refine wpAny_isTrue_Compare1 (thn (ha pins s σ H _ I h) fun v s1 ⟨x,H1,I1,r1,q1⟩=>thn (hb pins s1 σ H1 _ I1 q1) fun u s2 ⟨y,H2,I2,r2,q2⟩ =>
  thn (ho pins s2 σ H2 x y v u _ I2 r1 r2 q2) fun c s3 ⟨z,H3,I3,r3,k,e,q3⟩ => ?_) hm
 subst e
 cases r3
 exact Bm ⟨H3,I3,q3⟩
def qHw (r r':R2) (ta tb tc:TE):TE:=fun σ H Q=>ta σ H fun x H1=>tb σ H1 fun y H2=>r x y H2 fun z H3 => ∃ k,z = .bl k ∧
 (if k=true then tc σ H3 fun w' H4=>r' y w' H4 Q else Q (.bl false) H3)
theorem qEF {op op':CmpOp} {r r':R2} (ho:OpR X (compareOp op) r) (ho':OpR X (compareOp op') r') (ha:PE X a ta) (hb:PE X b tb) (hc:PE X c tc)
  (hm:lastMarks [op,op'] [b,c]=false:=by with_unfolding_all rfl):PE X (.Compare a [op,op'] [b,c] pos) (qHw r r' ta tb tc):=by
 intro pins s σ H Q I h
 refine Compare_chain (thn (ha pins s σ H _ I h) fun v s1 ⟨x,H1,I1,r1,q1⟩=>chain_link (thn (hb pins s1 σ H1 _ I1 q1) fun u s2 ⟨y,H2,I2,r2,q2⟩ =>
  thn (ho pins s2 σ H2 x y v u _ I2 r1 r2 q2) fun d s3 ⟨z,H3,I3,r3,k,e,q3⟩ => ?_)) hm
 subst e
 cases r3
 refine Bm ?_
 cases k with
 |false=>exact ite_ff ⟨.bl false,H3,I3,rfl,q3⟩
 |true=>exact ite_tt (chain_last (thn (hc pins s3 σ H3 _ I3 q3) fun w' s4 ⟨z',H4,I4,r4,q4⟩=>ho' pins s4 σ H4 y z' u w' Q I4 r2 r4 q4))
def qDX (K:W.Frag) (x:V) (H:Hp) (k:Bool):Prop :=
 match x with
 | .non=>k=false
 | .bl b=>k=b
 | .int i=>k=(i != 0)
 | .str y=>y.length≤sizeLine∧k=((y.length:Int) != 0)
 | .byt y=>y.size≤sizeLine∧k=((y.size:Int) != 0)
 | .ref p=>(∃ xs,SqL K H p xs∧k = !xs.isEmpty)∨(∃ xs,SqT K H p xs∧k = !xs.isEmpty) ∨ ∃ kvs,H p=some (.dK kvs)∧k = !kvs.isEmpty
 |_=>False
theorem qAc {κ:Type} {kvs:List (κ×V)} {vs:List (κ×Value)} (r:KV kvs vs):(!vs.isEmpty) = !kvs.isEmpty:=by
 cases r <;> rfl
theorem yi {xs:List V} {its:List Value} (r:Vals xs its):(!its.toArray.isEmpty) = !xs.isEmpty:=by
 cases r <;> simp
theorem zu:(sizeLine:Nat) < 2 ^ 63:=by rw [BU];decide
theorem qCs:qJo X (fun x H Q => ∃ k,qDX X.K x H k∧Q k H):=by
 intro pins s σ H x v Q I rx h
 obtain ⟨k,e,q⟩:=h
 have hl:=zu
 have hs:sizeLine=16777216:=BU
 cases x with
 |non =>
  cases rx
  have e':k=false:=e
  subst e'
  exact truthy_none ⟨H,I,q⟩
 |bl b =>
  cases rx
  have e':k=b:=e
  subst e'
  exact Bm ⟨H,I,q⟩
 |int i =>
  obtain ⟨t,rfl⟩:=rx
  have e':k=(i != 0):=e
  subst e'
  exact PySem.P.truthy_int ⟨H,I,q⟩
 |str y =>
  obtain ⟨t,rfl⟩:=rx
  obtain ⟨hy,e'⟩:y.length≤sizeLine∧k=((y.length:Int) != 0):=e
  subst e'
  exact PySem.P.truthy_str (by omega) ⟨H,I.tok _,q⟩
 |byt y =>
  obtain ⟨t,rfl⟩:=rx
  obtain ⟨hy,e'⟩:y.size≤sizeLine∧k=((y.size:Int) != 0):=e
  subst e'
  exact W.truthy_bytes (by omega) ⟨H,I.tok _,q⟩
 |ref p =>
  cases rx
  have e':(∃ xs,SqL X.K H p xs∧k = !xs.isEmpty)∨(∃ xs,SqT X.K H p xs∧k = !xs.isEmpty) ∨ ∃ kvs,H p=some (.dK kvs)∧k = !kvs.isEmpty:=e
  rcases e' with ⟨xs,hx,e'⟩ |⟨xs,hx,e'⟩ |⟨kvs,hx,e'⟩
  ·subst e'
   obtain ⟨its,r,pl,hz⟩:=I.list hx
   have hlen:=r.length
   exact wpAny_truthy_list pl.isList (by simp only [AN];omega) ⟨H,I.tok _,by rw [yi r];exact q⟩
  ·subst e'
   obtain ⟨its,r,pl,hz⟩:=I.tuple hx
   have hlen:=r.length
   exact truthy_tuple pl (by simp only [AN];omega) ⟨H,I.tok _,by rw [yi r];exact q⟩
  ·subst e'
   obtain ⟨hz,hS,vs,r,m⟩:kvs.length≤sizeLine∧(p==sysModules)=false ∧ ∃ vs,KV kvs vs∧s.heap.DictOf (Qo X.prog X.w) p vs:=I.hok p _ hx
   have hlen:kvs.length=vs.length:=Paired.length r
   exact wpAny_truthy_dict hS m (by omega) ⟨H,I.tok _,by rw [qAc r];exact q⟩
 |_=>exact (show False from e).elim
theorem qDy (ha:PE X a ta) (he:∀ whole,isTrue a X.env whole=(do let v ← whole;standAt a.pos;holding [v] (truthy v))) :
  PT X a (fun σ H Q=>ta σ H fun x H' => ∃ k,qDX X.K x H' k∧Q k H'):=by
 intro pins s σ H Q I h
 exact isTrue_plain (thn (ha pins s σ H _ I h) fun v s1 ⟨x,H1,I1,r1,q1⟩=>qCs pins s1 σ H1 x v Q I1 r1 q1) (he _)
theorem qAo:OpR X (binaryOp .Add) (fun x y H Q => ∃ i j,x = .str i∧y = .str j∧i.length + j.length≤sizeLine∧Q (.str (i++j)) H):=by
 intro pins s σ H x y v u Q I rx ry h
 obtain ⟨i,j,rfl,rfl,hz,q⟩:=h
 obtain ⟨t,rfl⟩:=rx
 obtain ⟨t',rfl⟩:=ry
 exact add_str (fun t' tk=>⟨.str (i++j),H,I.tok _,⟨_,rfl⟩,q⟩) hz
theorem ZA {x:V} {us:List Value} (r:Vals [x] us):∃ u,us=[u]∧RelV x u:=by
 cases r with
 |cons r1 r2=>cases r2;exact ⟨_,rfl,r1⟩
theorem qBI {x y:V} {us:List Value} (r:Vals [x,y] us):∃ u w',us=[u,w']∧RelV x u∧RelV y w':=by
 cases r with
 |cons r1 r2 =>
  cases r2 with
  |cons r3 r4=>cases r4;exact ⟨_,_,rfl,r1,r3⟩
theorem qB9 (hc:X.calm=true):wz X (.builtin "max") (fun xs H Q => ∃ i j,xs=[.int i,.int j]∧Q (.int (if j > i then j else i)) H):=by
 intro pins s σ H xs us Q I r h
 obtain ⟨i,j,rfl,q⟩:=h
 obtain ⟨u,w',rfl,⟨t,rfl⟩,⟨t',rfl⟩⟩:=qBI r
 refine max_two_ints (I.ok.hd hc) fun h' tk k=>⟨_,H,I.kept k,?_,q⟩
 by_cases hj:j > i
 ·rw [AC hj,AC hj];exact ⟨_,rfl⟩
 ·rw [AH hj,AH hj];exact ⟨_,rfl⟩
theorem qBz (hc:X.calm=true):wz X (.builtin "min") (fun xs H Q => ∃ i j,xs=[.int i,.int j]∧Q (.int (if j < i then j else i)) H):=by
 intro pins s σ H xs us Q I r h
 obtain ⟨i,j,rfl,q⟩:=h
 obtain ⟨u,w',rfl,⟨t,rfl⟩,⟨t',rfl⟩⟩:=qBI r
 refine min_two_ints (I.ok.hd hc) fun h' tk k=>⟨_,H,I.kept k,?_,q⟩
 by_cases hj:j < i
 ·rw [AC hj,AC hj];exact ⟨_,rfl⟩
 ·rw [AH hj,AH hj];exact ⟨_,rfl⟩
theorem qCH:wz X (.type "int") (fun xs H Q=>(∃ i,xs=[.int i]∧Q (.int i) H) ∨ ∃ k,xs=[.bl k]∧Q (.int (if k then 1 else 0)) H):=by
 intro pins s σ H xs us Q I r h
 rcases h with ⟨i,rfl,q⟩ |⟨k,rfl,q⟩
 ·obtain ⟨u,rfl,t,rfl⟩:=ZA r
  exact call_int_int ⟨.int i,H,I,⟨_,rfl⟩,q⟩
 ·obtain ⟨u,rfl,r1⟩:=ZA r
  cases r1
  exact call_int_bool ⟨.int (if k then 1 else 0),H,I.tok _,⟨_,rfl⟩,q⟩
end
end L2
namespace L2
open PySem PySem.Spec PyProof.Rows
end L2
namespace L2
open PySem PySem.Spec PyProof.Rows
structure Room (k:Nat) (A:Around):Prop where
 hd:1 < k->A.handled=none
 dp:A.depth + 3 * k + 5 < recursionLimit
 un:A.units + 16 * k + 200 < cLine
 gd:A.guards=some []
theorem Room.mono {j k:Nat} {A:Around} (r:Room k A) (h:j≤k):Room j A:=⟨fun z=>r.hd (by omega),by have:=r.dp;omega,by have:=r.un;omega,r.gd⟩
theorem Room.deeper {k:Nat} {A:Around} (r:Room (k + 1) A) (env:Env):Room k (A.deeper env) :=
 ⟨fun z=>r.hd (by omega),by have:=r.dp;show A.depth + 1 + 3 * k + 5 < _;omega,by have:=r.un;show A.units + 3 + 16 * k + 200 < _;omega,r.gd⟩
theorem Room.depth {k:Nat} {A:Around} (r:Room k A):A.depth < recursionLimit:=by have:=r.dp;omega
theorem Room.units {k:Nat} {A:Around} (r:Room k A):A.units + 64 < cLine:=by have:=r.un;omega
def qJG:TA:=fun _ H Q=>Q [] H
def qH4 (ta:TE) (tr:TA):TA:=fun σ H Q=>ta σ H fun x H1=>tr σ H1 fun xs H2=>Q (x::xs) H2
section
variable {X:Cx} {e:Expr} {es:List Expr} {te:TE} {t:TA} {pos:Pos}
theorem yM:PA X [] qJG:=fun _ _ _ _ H Q I h=>Calls.spliced_nil ⟨[],H,I,.nil,h⟩
theorem ZN (ha:PE X e te) (hr:PA X es t) (hs:starEach (e::es) X.env=(false,eval e X.env)::starEach es X.env:=by rfl):PA X (e::es) (qH4 te t):=by
 intro pos pins s σ H Q I h
 rw [hs]
 show wpAny _ _ (spliced ((false,eval e X.env)::backTo pos (starEach es X.env))) _ _ s
 refine Calls.spliced_cons (thn (ha pins s σ H _ I h) fun u s1 ⟨x,H1,I1,r1,q1⟩ => ?_)
 exact thn (hr pos pins s1 σ H1 _ I1 q1) fun us s2 ⟨xs,H2,I2,r2,q2⟩=>⟨x::xs,H2,I2,.cons r1 r2,q2⟩
def qJs (t:TA):TE:=fun σ H Q=>t σ H fun xs H1=>xs.length≤sizeLine ∧ ∀ p,H1 p=none->Q (.ref p) (upd H1 p (.tup xs))
def qJV (t:TA):TE:=fun σ H Q=>t σ H fun xs H1=>xs.length≤sizeLine ∧ ∀ p,H1 p=none->Q (.ref p) (upd H1 p (.lst xs))
theorem qGe {x1} (h:PA X es t):PE X (.Tuple es x1 pos) (qJs t):=by
 intro pins s σ H Q I hq
 refine wpAny_Tuple_spliced (thn (h pos pins s σ H _ I hq) fun us s1 ⟨xs,H1,I1,r,z,q⟩=>⟨by rw [← r.length];exact z,?_⟩)
 have hf:H1 s1.heap.objs.size=none:=I1.hok.fresh (AI _)
 refine ⟨.ref s1.heap.objs.size,upd H1 s1.heap.objs.size (.tup xs),I1.laid (t':=s1.toks) (fun b u e=>AF _ e) (AI _) ?_,rfl,q _ hf⟩
 exact ⟨z,us,r,⟨_,AT _ rfl,rfl,_,rfl⟩⟩
theorem qHh (h:PA X es t):PE X (.List es pos) (qJV t):=by
 intro pins s σ H Q I hq
 refine wpAny_List_spliced (thn (h pos pins s σ H _ I hq) fun us s1 ⟨xs,H1,I1,r,z,q⟩=>⟨by rw [← r.length];exact z,?_⟩)
 have hf:H1 s1.heap.objs.size=none:=I1.hok.fresh (AI _)
 refine ⟨.ref s1.heap.objs.size,upd H1 s1.heap.objs.size (.lst xs),I1.laid (t':=s1.toks) (fun b u e=>AF _ e) (AI _) ?_,rfl,q _ hf⟩
 exact ⟨z,us,0,r,AT _ rfl⟩
end
abbrev Sp:=List V->Hp->VK->XK->Prop
abbrev CXT:=List Env->Hp->Shared->XK->Value->Shared->Prop
structure Env0 (P:Program) (w:World) (K:W.Frag) (mg:Str->Option Value) (base:Heap) (A:Around) (outer:List Env) (s:Shared) (H:Hp):Prop where
 frames:A.frames=some outer
 mod:Mod K mg base
 bs:∀ b o,base.get? b=some o->s.heap.get? b=some o∧H b=none
 bsz:base.objs.size≤s.heap.objs.size
 funs:s.heap.FunFrames base outer
 frf:∀ b∈frs outer,H b=none
 hok:HOk P w H s.heap
 bare:AllBare s.gens
 hnd:HndH A H
def CE (outer:List Env) (P:Program) (w:World) (H:Hp) (s:Shared) (Q:VK) (u:Value) (s':Shared):Prop :=
 ∃ v H',s'.os=s.os∧AllBare s'.gens∧Un (frs outer) [] H H' s.heap s'.heap∧HOk P w H' s'.heap∧RelV v u∧Q v H'
def CR (CX:CXT) (outer:List Env) (P:Program) (w:World) (H:Hp) (s:Shared) (Q:VK) (E:XK) (r:Result) (s':Shared):Prop :=
 match r with
 | .ok (.ret u)=>CE outer P w H s Q u s'
 | .ok _=>False
 | .error e=>CX outer H s E e s'
structure FnOk (P:Program) (w:World) (K:W.Frag) (mg:Str->Option Value) (base:Heap) (CX:CXT) (k:Nat) (f:Addr) (fd:FuncData) (ps:List Str) (sp:Sp):Prop where
 len:∀ vs H Q E,sp vs H Q E->vs.length=ps.length
 run:∀ (A:Around) (outer:List Env) (s:Shared) (H:Hp) (args:Args) (us:List Value) (vs:List V) (Q:VK) (E:XK),Room k A->Env0 P w K mg base A outer s H->BindsTo s fd args (ps.zip us)->Vals vs us->sp vs H Q E ->
  codeAny (model P w) A (.call (.ref f) args) (CR CX outer P w H s Q E) s
section
variable {X:Cx} {pins:List (Addr×Obj)} {σ:St} {H:Hp} {s s':Shared}
theorem Inv.env0 (I:Inv X pins σ H s):Env0 X.prog X.w X.K X.mg X.base X.A X.stack s H :=
 ⟨I.ok.frames,I.ok.mod,I.bs,Aa I.ok.bsz I.sz,I.stack,I.stkFree,I.hok,I.bare,I.hnd⟩
theorem Inv.after {Q:VK} {u:Value} (I:Inv X pins σ H s) (h:CE X.stack X.prog X.w H s Q u s'):EP X pins σ Q u s':=by
 obtain ⟨v,H',os,bare,un,hok,r,q⟩:=h
 obtain ⟨hh,g,d,t,os'⟩:=s'
 obtain rfl:os'=s.os:=os
 exact ⟨v,H',I.call (h':=hh) (g':=g) (d':=d) (t':=t) (ch:=[]) un hok bare (fun b z=>absurd z (by simp)),r,q⟩
end
def qIL (sp:Sp) (dvs:List V) (E:XK) (t:TA):TE:=fun σ H Q=>t σ H fun vs H1=>sp (vs++dvs) H1 Q E
def Binds (K:W.Frag) (fd:FuncData) (ps:List Str) (ds:List Value):Prop :=
 ∀ (s:Shared) (us:List Value),K.In s.heap->(us++ds).length=ps.length->BindsTo s fd ⟨us,[]⟩ (ps.zip (us++ds))
theorem Binds.all {K:W.Frag} {fd:FuncData} {ps:List Str} (h:∀ us:List Value,us.length=ps.length->bindArgs fd ⟨us,[]⟩=pure (ps.zip us)):Binds K fd ps []:=fun s us _ hl=>by
 rw [A6] at hl ⊢
 exact .of_eq (h us hl)
def ZQ (CX:CXT) (X:Cx) (E:XK):Prop := ∀ (pins:List (Addr×Obj)) (σ:St) (H:Hp) (s:Shared) (e:Value) (s':Shared),Inv X pins σ H s->CX X.stack H s E e s'->X.xe e s'
section
variable {X:Cx} {CX:CXT} {k:Nat} {f C:Addr} {fd:FuncData} {ps:List Str} {sp:Sp} {dvs:List V} {ds:List Value} {E:XK} {x m:Str} {p pos apos:Pos} {e o:Expr} {es:List Expr} {ta:TE} {t:TA}
theorem qGb {pins:List (Addr×Obj)} {σ:St} {H:Hp} {s:Shared} {Q:VK} {us:List Value} {vs:List V} (F:FnOk X.prog X.w X.K X.mg X.base CX k f fd ps sp) (hr:Room k X.A) (hb:Binds X.K fd ps ds) (hd:Vals dvs ds) (hx:ZQ CX X E)
  (I:Inv X pins σ H s) (r:Vals vs us) (h:sp (vs++dvs) H Q E):wpAny (model X.prog X.w) X.A (call (.ref f) us) (EP X pins σ Q) X.xe s:=by
 have r2:Vals (vs++dvs) (us++ds):=r.append hd
 have hl:(us++ds).length=ps.length:=by rw [← r2.length];exact F.len _ _ _ _ h
 refine wpAny_call (codeAny_mono (F.run X.A X.stack s H ⟨us,[]⟩ (us++ds) (vs++dvs) Q E hr I.env0 (hb s us I.kIn hl) r2 h) fun r s' hq => ?_)
 cases r with
 |error e=>exact hx pins σ H s e s' I hq
 |ok fl =>
  cases fl with
  |ret u=>exact I.after hq
  |next=>exact False.elim hq
  |brk=>exact False.elim hq
  |cont=>exact False.elim hq
theorem qEh (F:FnOk X.prog X.w X.K X.mg X.base CX k f fd ps sp) (hr:Room k X.A) (hg:Gl X x) (hm:X.mg x=some (.ref f)) (hk:W.keepIn X.K (.ref f)=true) (hb:Binds X.K fd ps ds) (hd:Vals dvs ds) (hx:ZQ CX X E)
  (ha:PA X (e::es) t) (hdb:(x==("__debug__":Str))=false:=by decide) (he:starEach (e::es) X.env=(false,eval e X.env)::starEach es X.env:=by rfl) (hpl:(backTo pos (starEach es X.env)).any (·.1)=false:=by rfl) :
  PE X (.Call (.Name x p) (e::es) [] pos) (qIL sp dvs E t):=by
 intro pins s σ H Q I h
 refine BS (qBh I hg hm ?_ hdb)
 refine W.callWith_K (h₀:=X.base) I.ok.mod.kin hk (thn (ha pos pins s σ H _ I h) fun us s1 ⟨vs,H1,I1,r,q⟩=>⟨I1.kIn,?_⟩) he hpl
 exact qGb F hr hb hd hx I1 r q
end
structure FnScope (N P:List Str) (sc:Scope):Prop where
 kind:sc.kind = .function
 co:sc.isCoroutine=false
 gen:sc.isGenerator=false
 nd:N.Nodup
 pre:N.take P.length=P
 par:∀ x∈P,sc.names.lookup x=some .local∨sc.names.lookup x=some .cell
 nofree:∀ y∈sc.names,y.2 ≠ .free
theorem YY {kindOf:Str->Option NameKind} {x:Str}:∀ {binds:List (Str×Value)} {m:Str->Option Value},(∀ v,(x,v) ∉ binds)->bindL kindOf binds m x=m x
 |[],_,_=>rfl
 |(n,v)::r,m,h=>by
  unfold bindL
  rw [YY fun w hw=>h w (AG _ hw)]
  split
  ·have:x≠n:=by rintro rfl;exact h v AD
   simp [this]
  ·rfl
theorem Ym {kindOf:Str->Option NameKind} {x:Str}:∀ {binds:List (Str×Value)} {m:Str->Option Value},(∀ v,(x,v) ∉ binds)->bindC kindOf binds m x=m x
 |[],_,_=>rfl
 |(n,v)::r,m,h=>by
  unfold bindC
  rw [Ym fun w hw=>h w (AG _ hw)]
  split
  ·rfl
  ·have:x≠n:=by rintro rfl;exact h v AD
   simp [this]
theorem Ye {kindOf:Str->Option NameKind} {x:Str} {v:Value}:∀ {P:List Str} {vs:List Value} {i:Nat} {m:Str->Option Value},P.Nodup->P[i]? = some x->vs[i]? = some v->kindOf x=some .local ->
  bindL kindOf (P.zip vs) m x=some v
 |[],_,_,_,_,h,_,_=>by simp at h
 |_::_,[],_,_,_,_,h,_=>by simp at h
 |p::P,w::vs,0,m,nd,h1,h2,hk=>by
  simp at h1 h2;subst h1;subst h2
  show bindL kindOf ((p,w)::P.zip vs) m p=_
  unfold bindL
  rw [YY fun v hv=>(BK.mp nd).1 (List.of_mem_zip hv).1,AC hk]
  simp
 |p::P,w::vs,i + 1,m,nd,h1,h2,hk=>by
  show bindL kindOf ((p,w)::P.zip vs) m x=_
  unfold bindL
  exact Ye (i:=i) (BK.mp nd).2 (by simpa using h1) (by simpa using h2) hk
theorem Yp {kindOf:Str->Option NameKind} {x:Str} {v:Value}:∀ {P:List Str} {vs:List Value} {i:Nat} {m:Str->Option Value},P.Nodup->P[i]? = some x->vs[i]? = some v->kindOf x≠some .local ->
  bindC kindOf (P.zip vs) m x=some v
 |[],_,_,_,_,h,_,_=>by simp at h
 |_::_,[],_,_,_,_,h,_=>by simp at h
 |p::P,w::vs,0,m,nd,h1,h2,hk=>by
  simp at h1 h2;subst h1;subst h2
  show bindC kindOf ((p,w)::P.zip vs) m p=_
  unfold bindC
  rw [Ym fun v hv=>(BK.mp nd).1 (List.of_mem_zip hv).1,AH hk]
  simp
 |p::P,w::vs,i + 1,m,nd,h1,h2,hk=>by
  show bindC kindOf ((p,w)::P.zip vs) m x=_
  unfold bindC
  exact Yp (i:=i) (BK.mp nd).2 (by simpa using h1) (by simpa using h2) hk
def start (N:List Str) (vs:List V):St:=vs.map some++List.replicate (N.length - vs.length) none
def Wg (CX:CXT) (P:Program) (w:World) (K:W.Frag) (mg:Str->Option Value) (base:Heap) (N:List Str) (qual:Str) (scope:Scope) (f:Addr) (cd:Value) (A:Around) (outer:List Env) (s:Shared) (H:Hp) (E:XK):Cx where
 prog:=P
 w:=w
 K:=K
 mg:=mg
 base:=base
 A:=A.deeper (envOfC qual scope s.heap.objs.size f cd)
 N:=N
 s₀:=s
 H₀:=H
 env:=envOfC qual scope s.heap.objs.size f cd
 outer:=outer
 stack:=envOfC qual scope s.heap.objs.size f cd::outer
 ex:=[]
 calm:=A.handled.isNone
 fn:=fun _=>true
 pn:=[]
 xe:=fun e s'=>wpAny (model P w) (A.deeper (envOfC qual scope s.heap.objs.size f cd)) (leaving (envOfC qual scope s.heap.objs.size f cd) e) (fun _ s''=>CX outer H s E e s'') (fun e' s''=>CX outer H s E e' s'') s'
theorem JN {sc:Scope} {n:Nat} {x:Str} (h:sc.names.lookup x=some .cell):∃ c,(cellsFrom n sc.names []).lookup x=some c:=by
 have q:=W.cellsFrom_some sc.names n [] (.inl h)
 exact Option.isSome_iff_exists.mp q
theorem qCO {CX:CXT} {P:Program} {w:World} {K:W.Frag} {mg:Str->Option Value} {base:Heap} {N ps:List Str} {qual:Str} {scope:Scope} {f:Addr} {cd:Value} {A:Around} {outer:List Env} {s s1:Shared} {H:Hp} {E:XK} {us:List Value} {vs:List V}
  (S:FnScope N ps scope) (e0:Env0 P w K mg base A outer s H) (hl:vs.length=ps.length) (r:Vals vs us)
  (x:InCallC s s.heap.objs.size (bindL (envOfC qual scope s.heap.objs.size f cd).kindOf (ps.zip us) fun _=>none) (cellsFrom (s.heap.objs.size + 1) scope.names []) (bindC (envOfC qual scope s.heap.objs.size f cd).kindOf (ps.zip us) fun _=>none) s1) :
  Inv (Wg CX P w K mg base N qual scope f cd A outer s H E) [] (start N vs) H s1:=by
 have hpl:ps.length≤N.length:=by have:=B3 List.length S.pre;rw [B9] at this;omega
 obtain ⟨h1,tk,rfl,hk⟩:=x.done
 have noA:∀ b:Addr,b ∉ (Wg CX P w K mg base N qual scope f cd A outer s H E).ex:=fun b z=>absurd (show b∈([]:List Addr) from z) (by simp)
 refine ⟨⟨e0.mod,S.kind,rfl,rfl,AI _,fun y z c h1 h2 => ?_,fun y hy => ?_,fun y c _ h => ?_,fun z=>Option.isNone_iff_eq_none.mp z,Around.frames_deeper e0.frames,.inr ⟨rfl,rfl⟩,fun b z=>absurd z (noA b),e0.bs,e0.bsz,fun b _ _=>noA b,fun b z=>absurd z (noA b),e0.funs,e0.frf⟩,
  rfl,e0.bare,Un.kept hk,⟨_,x.toInCall.ns,fun i y v h1 h2 h3 => ?_⟩,fun y c h=>⟨_,x.cell y c h⟩,e0.hok.fresh (AI _),fun y c h => ?_,fun p hp=>absurd (show p∈([]:List (Addr×Obj)) from hp) (by simp),e0.hok.kept hk,?_,e0.hnd⟩
 ·exact name_of_addr x.apart (BN h1) (BN h2)
 ·have hy:scope.names.lookup y=some .cell∨scope.names.lookup y=some .free:=hy
  rcases hy with hy |hy
  ·exact JN hy
  ·exact absurd rfl (S.nofree _ (BN hy))
 ·exact Nat.le_of_lt (x.above y c (BN h))
 ·have hi:i < vs.length:=by
   unfold start at h2
   by_cases hi:i < vs.length
   ·exact hi
   ·rw [A1 (by simpa using hi)] at h2
    rw [Bw] at h2
    split at h2 <;> cases h2
  have ha:vs[i]? = some v:=by
   unfold start at h2
   rw [Ak (by simpa using hi),Ac] at h2
   cases e:vs[i]? with
   |none=>rw [e] at h2;cases h2
   |some a=>rw [e] at h2;cases h2;rfl
  obtain ⟨u,hu,rv⟩:=r.get ha
  have hp:ps[i]? = some y:=by
   rw [← S.pre,List.getElem?_take_of_lt (by omega)];exact h1
  have ndP:ps.Nodup:=by rw [← S.pre];exact S.nd.sublist (List.take_sublist _ _)
  refine ⟨u,rv,?_⟩
  rcases S.par y (BX hp) with k |k
  ·exact .inl ⟨k,Ye ndP hp hu k⟩
  ·obtain ⟨c,e⟩:=JN (n:=s.heap.objs.size + 1) k
   refine .inr ⟨.inl k,c,e,?_⟩
   have q:=x.cell y c e
   rw [Yp ndP hp hu (by show scope.names.lookup y≠_;rw [k];decide)] at q
   exact q
 ·exact e0.hok.fresh (Nat.le_of_lt (x.above y c (BN h)))
 ·unfold start
  show _=N.length
  rw [Ab,AB,List.length_replicate]
  omega
theorem qH2 {CX:CXT} {P:Program} {w:World} {K:W.Frag} {mg:Str->Option Value} {base:Heap} {k:Nat} {f:Addr} {name qual:Str} {params:Arguments} {body:List Stmt} {scope:Scope} {dV kV doc pm cdv ct oc:Value} {an od:Option Addr}
  {osl:Array (Option Value)} {N ps:List Str} {sp:Sp} (lk:K.lookup f=some ⟨oc,od,.func (W.fnOf name qual params body scope dV kV doc pm an cdv ct),osl⟩) (hcd:W.codeIn K cdv qual=true) (S:FnScope N ps scope)
  (len:∀ vs H Q E,sp vs H Q E->vs.length=ps.length)
  (hbody:∀ (A:Around) (outer:List Env) (s:Shared) (H:Hp) (vs:List V) (Q:VK) (E:XK),Room k (A.deeper (envOfC qual scope s.heap.objs.size f cdv))->(0 < k->A.handled=none)->sp vs H Q E ->
   ∃ t,PSs (Wg CX P w K mg base N qual scope f cdv A outer s H E) body t∧t { nx:=fun _ H'=>Q .non H',rt:=Q } (start N vs) H) :
  FnOk P w K mg base CX (k + 1) f (W.fnOf name qual params body scope dV kV doc pm an cdv ct) ps sp:=by
 refine ⟨len,fun A outer s H args us vs Q E hr e0 hb r hsp => ?_⟩
 have hl:=len _ _ _ _ hsp
 have KX:K.In s.heap:=e0.mod.kin.keeps fun b o e=>(e0.bs b o e).1
 have lim:s.heap.NoLimit:=e0.mod.nolimit.keeps fun b o e=>(e0.bs b o e).1
 have hkind:∀ y∈ps.zip us,scope.names.lookup y.1=some .local∨(scope.names.lookup y.1=some .cell∧((cellsFrom (s.heap.objs.size + 1) scope.names []).lookup y.1).isSome=true):=fun ⟨n,v⟩ hy=>by
  rcases S.par n (List.of_mem_zip hy).1 with q |q
  ·exact .inl q
  ·exact .inr ⟨q,W.cellsFrom_some _ _ _ (.inl q)⟩
 refine codeAny_call_function hr.depth (KX _ _ lk) rfl S.co S.gen rfl (W.codeRec_of KX hcd) (hb _ _ _ _ ?_)
 refine wpAny_newFunctionEnv_cells S.kind hkind fun env he s1 x => ?_
 subst he
 refine ⟨lim.keeps x.toInCall.keep,codeAny_func ?_⟩
 obtain ⟨t,ht,hq⟩:=hbody A outer s H vs Q E (hr.deeper _) (fun z=>hr.hd (by omega)) hsp
 have I:Inv (Wg CX P w K mg base N qual scope f cdv A outer s H E) [] (start N vs) H s1:=qCO S e0 hl r x
 refine BP (ht [] s1 (start N vs) H _ I hq) (fun fl s' hs => ?_) fun e s' hs=>hs
 have fin:∀ {σ':St} {H':Hp} {v:V} {u:Value},Inv (Wg CX P w K mg base N qual scope f cdv A outer s H E) [] σ' H' s'->RelV v u->Q v H'->CE outer P w H s Q u s' :=
  fun {σ' H' v u} J rv q=>⟨v,H',J.os,J.bare,J.base,J.hok,rv,q⟩
 cases fl with
 |ret u =>
  obtain ⟨v,σ',H',J,rv,q⟩:=hs
  exact fin J rv q
 |next =>
  obtain ⟨σ',H',J,q⟩:=hs
  exact fin (v:=V.non) (u:=Value.none) J rfl q
 |brk =>
  obtain ⟨_,_,_,q⟩:=hs
  exact False.elim q
 |cont =>
  obtain ⟨_,_,_,q⟩:=hs
  exact False.elim q
end L2
namespace L2
open PySem PySem.Spec PyProof.Rows
section
variable {X:Cx} {x:Str} {p pos:Pos} {e:Expr} {es:List Expr} {t:TA} {id T:String} {r:List V->Hp->VK->Prop}
def tCB (r:List V->Hp->VK->Prop) (t:TA):TE:=fun σ H Q=>t σ H fun vs H1=>r vs H1 Q
theorem qDt (hc:wz X (.builtin id) r) (hg:Gl X x) (hm:X.mg x=none) (hv:bootBuiltins x=some (.builtin id)) (ha:PA X (e::es) t) (hn:x ≠ "__name__" := by decide) (hdb:(x==("__debug__":Str))=false:=by decide)
  (he:starEach (e::es) X.env=(false,eval e X.env)::starEach es X.env:=by rfl) (hpl:(backTo pos (starEach es X.env)).any (·.1)=false:=by rfl):PE X (.Call (.Name x p) (e::es) [] pos) (tCB r t):=by
 intro pins s σ H Q I h
 refine BS (Wx I hg hm hv ?_ hn hdb)
 exact PyProof.Rows.callWith_builtin1 (thn (ha pos pins s σ H _ I h) fun us s1 ⟨vs,H1,I1,r1,q1⟩=>hc pins s1 σ H1 vs us Q I1 r1 q1) he hpl
theorem qB6 (hc:wz X (.type T) r) (hg:Gl X x) (hm:X.mg x=none) (hv:bootBuiltins x=some (.type T)) (ha:PA X (e::es) t) (hn:x ≠ "__name__" := by decide) (hdb:(x==("__debug__":Str))=false:=by decide)
  (he:starEach (e::es) X.env=(false,eval e X.env)::starEach es X.env:=by rfl) (hpl:(backTo pos (starEach es X.env)).any (·.1)=false:=by rfl):PE X (.Call (.Name x p) (e::es) [] pos) (tCB r t):=by
 intro pins s σ H Q I h
 refine BS (Wx I hg hm hv ?_ hn hdb)
 exact BJ (thn (ha pos pins s σ H _ I h) fun us s1 ⟨vs,H1,I1,r1,q1⟩=>hc pins s1 σ H1 vs us Q I1 r1 q1) he hpl
end
end L2
namespace HT
open PySem PyProof.Rows
theorem rcLt_int (A:Around) (s:Shared) (a:Int) (t:Tok) (c:Int) (u:Tok) (prog:Program) (w:World) (E:Value->Shared->Prop) (Q:Value->Shared->Prop) (h:Q (.bool (decide (a < c))) s) :
  wpAny (model prog w) A (richCompare .Lt (.int a t) (.int c u)) Q E s :=
 (PyProof.Rows.lt_int h:wpAny (model prog w) A (compareOp .Lt (.int a t) (.int c u)) Q E s)
section
variable {prog:Program} {w:World} {A:Around} {E:Value->Shared->Prop} {s:Shared}
theorem cat_tup {t b:Addr} {vs ws:List Value} {Q:Value->Shared->Prop} (ht:IsTup s.heap t vs.toArray) (hb:IsTup s.heap b ws.toArray) (hv:vs≠[])
  (h1:ws=[]->Q (.ref t) s) (h2:ws≠[]->Q (.ref s.heap.objs.size) { s with heap:=s.heap.push { cls := .type "tuple",data := .seq (vs++ws).toArray } })
  (hsz:vs.length + ws.length≤sizeLine):wpAny (model prog w) A (binaryOp .Add (.ref t) (.ref b)) Q E s:=by
 obtain ⟨⟨cls,dd,data,sl⟩,ho,hc,n,hd⟩:=id ht
 obtain ⟨⟨cls2,dd2,data2,sl2⟩,ho2,hc2,n2,hd2⟩:=id hb
 simp only at hc hd hc2 hd2
 subst hc hd hc2 hd2
 have e:vs.toArray++ws.toArray=(vs++ws).toArray:=by simp
 by_cases hw:ws=[]
 ·exact concat_meets ⟨_,ho,rfl⟩ ⟨_,ho2,rfl⟩ noFill_tuple_add seq_tuple_add PySem.F.slot_tuple_add PySem.F.entry_tuple_add (PySem.F.args_tuple_add_2 _ _)
   (tuple_addW1 t b vs.toArray ws.toArray n n2 dd dd2 sl sl2 (by simpa using hv) (by simp [hw])) ⟨ho,ho2,h1 hw⟩
 ·refine concat_meets ⟨_,ho,rfl⟩ ⟨_,ho2,rfl⟩ noFill_tuple_add seq_tuple_add PySem.F.slot_tuple_add PySem.F.entry_tuple_add (PySem.F.args_tuple_add_2 _ _)
   (tuple_addW2 t b vs.toArray ws.toArray n n2 dd dd2 sl sl2 (by simpa using hv) (by simpa using hw) (by rw [AN,AN];exact hsz)) ⟨ho,ho2,?_⟩
  rw [e]
  exact h2 hw
def sIx (n d:Nat):Option Int->Nat
 |none=>d
 |some v=>if v < 0 then (v + (n:Int)).toNat else min v.toNat n
theorem sIx_nat (n d k:Nat):sIx n d (some (k:Int))=min k n:=by
 show (if (k:Int) < 0 then ((k:Int) + (n:Int)).toNat else min (k:Int).toNat n)=min k n
 rw [AH (by omega),BA]
theorem qGl (n d:Nat) (hd:d≤n) (o:Option Int):sIx n d o≤n:=by
 cases o with
 |none=>exact hd
 |some v =>
  show (if v < 0 then (v + (n:Int)).toNat else min v.toNat n)≤n
  by_cases hv:v < 0
  ·rw [AC hv];omega
  ·rw [AH hv];exact Nat.min_le_right _ _
theorem qBa (v:Int) (n d:Nat):(if v < 0 then max (v + (n:Int)) 0 else min v (n:Int))=((sIx n d (some v):Nat):Int):=by
 show (if v < 0 then max (v + (n:Int)) 0 else min v (n:Int))=(((if v < 0 then (v + (n:Int)).toNat else min v.toNat n):Nat):Int)
 by_cases hv:v < 0
 ·simp only [AC hv];omega
 ·simp only [AH hv];omega
theorem qAB (lo hi:Option Int) (n:Nat):Builtin.Slice.sliceAdjust lo hi 1 (n:Int)=(((sIx n 0 lo:Nat):Int),((sIx n n hi:Nat):Int)):=by
 have h1:¬ ((1:Int) < 0):=by omega
 unfold Builtin.Slice.sliceAdjust
 simp only [h1,BY]
 refine Prod.ext ?_ ?_
 ·cases lo with
  |none=>rfl
  |some v=>exact qBa v n 0
 ·cases hi with
  |none=>rfl
  |some v=>exact qBa v n n
theorem qAg (i j:Nat):Builtin.Slice.slicePlaces (i:Int) (j:Int) 1=j - i:=by
 unfold Builtin.Slice.slicePlaces
 have h1:(1:Int) > 0:=by omega
 simp only [h1,CI,Int.ediv_one]
 split <;> omega
theorem yy {v:Value} {o:Option Int} {Q:Option Int->Shared->Prop} (p:IsPart v o) (h:Q o s):wpAny (model prog w) A (Builtin.Slice.slicePartIndex v) Q E s:=by
 cases p with
 |none=>exact slicePart_none h
 |int i t=>exact slicePart_int h
theorem sliceApplied_gen {sl:Addr} {vl vu:Value} {lo hi:Option Int} {n:Nat} {Q:Int×Int×Nat->Shared->Prop} (hs:s.heap.IsSliceOf sl vl vu .none) (pl:IsPart vl lo) (pu:IsPart vu hi)
  (h:Q (((sIx n 0 lo:Nat):Int),1,sIx n n hi - sIx n 0 lo) s):wpAny (model prog w) A (Builtin.Slice.sliceApplied (.ref sl) (pure (n:Int))) Q E s:=by
 obtain ⟨os,hos,hcs,hds⟩:=id hs
 unfold Builtin.Slice.sliceApplied Builtin.Slice.sliceFields
 refine AA (AA (Ax hos hds (x:=vl) rfl (AA (Ax hos hds (x:=vu) rfl (AA (Ax hos hds (x := .none) rfl (AE ?_)))))))
 refine AA (slicePart_none ?_)
 show wpAny _ _ (if ((1:Int)==0)=true then _ else _) _ _ s
 rw [AH (by decide)]
 refine AA (yy pl (AA (yy pu (AA (AE ?_)))))
 show wpAny _ _ (match Builtin.Slice.sliceAdjust lo hi 1 (n:Int) with |(lo,hi)=>pure (lo,(1:Int),Builtin.Slice.slicePlaces lo hi 1)) _ _ s
 rw [qAB lo hi n]
 show wpAny _ _ (pure (((sIx n 0 lo:Nat):Int),(1:Int),Builtin.Slice.slicePlaces ((sIx n 0 lo:Nat):Int) ((sIx n n hi:Nat):Int) 1)) _ _ s
 rw [qAg]
 exact AE h
theorem qDT (xs:Array Value) (i k:Nat):((List.range k).filterMap fun (m:Nat)=>xs[((i:Int) + (m:Int) * 1).toNat]?).toArray=((xs.toList.drop i).take k).toArray:=by
 have e:(fun (m:Nat)=>xs[((i:Int) + (m:Int) * 1).toNat]?)=fun m=>xs[i + m]? := by
  funext m
  have:((i:Int) + (m:Int) * 1).toNat=i + m:=by omega
  rw [this]
 rw [e]
 have:=pick_run xs i k
 rw [List.filterMap_map] at this
 have e2:((fun x=>xs[x]?) ∘ fun x=>i + x)=fun m=>xs[i + m]? := rfl
 rw [e2] at this
 rw [this]
theorem getItem_tuple_cut {t sl:Addr} {items:Array Value} {vl vu:Value} {lo hi:Option Int} {Q:Value->Shared->Prop} (ht:IsTup s.heap t items) (hs:s.heap.IsSliceOf sl vl vu .none) (pl:IsPart vl lo) (pu:IsPart vu hi)
  (hw:¬ (sIx items.size 0 lo=0∧sIx items.size items.size hi=items.size))
  (h:Q (.ref s.heap.objs.size) { s with heap:=s.heap.push { cls := .type "tuple",data := .seq ((items.toList.drop (sIx items.size 0 lo)).take (sIx items.size items.size hi - sIx items.size 0 lo)).toArray } })
  (hsz:items.size≤sizeLine):wpAny (model prog w) A (getItem (.ref t) (.ref sl)) Q E s:=by
 have htake:sizeOk (.seq ((items.toList.drop (sIx items.size 0 lo)).take (sIx items.size items.size hi - sIx items.size 0 lo)).toArray):=by
  show ((items.toList.drop (sIx items.size 0 lo)).take (sIx items.size items.size hi - sIx items.size 0 lo)).toArray.size≤sizeLine
  rw [AN,B9,List.length_drop,Ar]
  omega
 have hj:sIx items.size items.size hi≤items.size:=qGl _ _ (AI _) hi
 obtain ⟨os,hos,hcs,hds⟩:=id hs
 have hTs:s.TypeIs (.ref sl) "slice" := ⟨os,hos,hcs⟩
 unfold getItem
 try with_reducible refine As ?_
 first |refine AA (AE ?_) |skip
 refine AA (wpAny_sequenceKey ht.typeIs (by decide) ?_)
 refine AA (At (name:=Str.ofString "__getitem__") ht.typeIs BT
  (Ay BT ht.typeIs entry_tuple_getitem ?_ (args_tuple_getitem _ _)))
 show wpAny _ _ (Builtin.Tuple.tupleItemsOf (.ref t) >>= _) _ _ s
 refine AA (tupleItemsOf_ ht ?_)
 refine AA (wpAny_typeOf hTs ?_)
 rw [AC (by decide)]
 refine AA (sliceApplied_gen hs pl pu ?_)
 have hno:¬ ((((sIx items.size 0 lo:Nat):Int)==0&&(1:Int)==1&&(sIx items.size items.size hi - sIx items.size 0 lo)==items.size)=true):=by
  intro q
  rw [Am,Am] at q
  have q1:((sIx items.size 0 lo:Nat):Int)=0:=CU q.1.1
  have q2:sIx items.size items.size hi - sIx items.size 0 lo=items.size:=CU q.2
  exact hw ⟨by omega,by omega⟩
 show wpAny _ _ (if (((sIx items.size 0 lo:Nat):Int)==0&&(1:Int)==1&&(sIx items.size items.size hi - sIx items.size 0 lo)==items.size)=true then _ else _) _ _ s
 rw [AH hno,qDT]
 first
  |exact AA (m:=Builtin.Tuple.tupleExact _) (Au (AE ⟨_,rfl,AE h⟩) htake)
  |exact AA (m:=Builtin.Tuple.tupleExact _) (Au (AA (AE (AE ⟨_,rfl,AE h⟩))) htake)
  |exact AA (AA (m:=Builtin.Tuple.tupleExact _) (Au (AE (AE ⟨_,rfl,AE h⟩)) htake))
  |exact AA (AA (m:=Builtin.Tuple.tupleExact _) (Au (AE ⟨_,rfl,AE h⟩) htake))
end
end HT
namespace L2
open PySem PySem.Spec PyProof.Rows
abbrev TO:=St->Hp->(Option Int->Hp->Prop)->Prop
def PO (X:Cx) (e:Option Expr) (t:TO):Prop :=
 ∀ (pins:List (Addr×Obj)) (s:Shared) (σ:St) (H:Hp) (Q:Option Int->Hp->Prop),Inv X pins σ H s->t σ H Q ->
  wpAny (model X.prog X.w) X.A (evalPart e X.env) (fun u s' => ∃ o H',Inv X pins σ H' s'∧IsPart u o∧Q o H') X.xe s
def qFR:TO:=fun _ H Q=>Q none H
def qI2 (t:TE):TO:=fun σ H Q=>t σ H fun x H1 => ∃ i,x = .int i∧Q (some i) H1
section
variable {X:Cx} {e:Expr} {te:TE} {lo hi:Option Expr} {tl th:TO} {pos p2:Pos}
theorem qEg:PO X none qFR:=by
 intro pins s σ H Q I h
 rw [evalPart_none]
 exact AE ⟨none,H,I,.none,h⟩
theorem qFV (h:PE X e te):PO X (some e) (qI2 te):=by
 intro pins s σ H Q I hw
 rw [evalPart_some]
 refine thn (h pins s σ H _ I hw) fun u s1 ⟨x,H1,I1,r1,q1⟩ => ?_
 obtain ⟨i,rfl,q⟩:=q1
 obtain ⟨t,rfl⟩:=r1
 exact ⟨some i,H1,I1,.int i t,q⟩
def SlR (X:Cx) (r:V->Option Int->Option Int->Hp->VK->Prop):Prop :=
 ∀ (pins:List (Addr×Obj)) (s:Shared) (σ:St) (H:Hp) (x:V) (v vl vu:Value) (lo hi:Option Int) (sl:Addr) (Q:VK),Inv X pins σ H s->RelV x v->s.heap.IsSliceOf sl vl vu .none->IsPart vl lo->IsPart vu hi->r x lo hi H Q ->
  ∃ T id,typeLookup (.type T) "__getitem__" = pure (some (.builtin id))∧s.TypeIs v T∧wpAny (model X.prog X.w) X.A (getItem v (.ref sl)) (EP X pins σ Q) X.xe s
theorem SlR.or {r r':V->Option Int->Option Int->Hp->VK->Prop} (h:SlR X r) (h':SlR X r'):SlR X (fun x lo hi H Q=>r x lo hi H Q∨r' x lo hi H Q):=by
 intro pins s σ H x v vl vu lo hi sl Q I rx hs pl pu q
 rcases q with q |q
 ·exact h pins s σ H x v vl vu lo hi sl Q I rx hs pl pu q
 ·exact h' pins s σ H x v vl vu lo hi sl Q I rx hs pl pu q
def tSl (r:V->Option Int->Option Int->Hp->VK->Prop) (te:TE) (tl th:TO):TE:=fun σ H Q=>te σ H fun x H1=>tl σ H1 fun l H2=>th σ H2 fun u H3=>r x l u H3 Q
theorem YA {r:V->Option Int->Option Int->Hp->VK->Prop} (hr:SlR X r) (he:PE X e te) (hl:PO X lo tl) (hu:PO X hi th):PE X (.Subscript e (.Slice lo hi none p2) pos) (tSl r te tl th):=by
 intro pins s σ H Q I h
 refine Subscript_ (thn (he pins s σ H _ I h) fun v s1 ⟨x,H1,I1,r1,q1⟩ => ?_)
 refine wpAny_Slice (thn (hl pins s1 σ H1 _ I1 q1) fun vl s2 ⟨l,H2,I2,pl,q2⟩=>thn (hu pins s2 σ H2 _ I2 q2) fun vu s3 ⟨u,H3,I3,pu,q3⟩ => ?_)
 rw [evalPart_none]
 refine AE ?_
 have I4:Inv X pins σ H3 { s3 with heap:=s3.heap.push { cls := .type "slice",data := .fields #[vl,vu,.none] } }:=I3.kept (t':=s3.toks) fun b ob q=>AF _ q
 obtain ⟨T,id,hT,ht,hg⟩:=hr pins { s3 with heap:=s3.heap.push { cls := .type "slice",data := .fields #[vl,vu,.none] } } σ H3 x v vl vu l u s3.heap.objs.size Q I4 r1 (Heap.IsSliceOf.new ..) pl pu q3
 show wpAny (model X.prog X.w) X.A (subscriptTail e (.Slice lo hi none p2) v (.ref s3.heap.objs.size)) (EP X pins σ Q) X.xe { s3 with heap:=s3.heap.push { cls := .type "slice",data := .fields #[vl,vu,.none] } }
 exact tail_any (ops:=[.ref s3.heap.objs.size,v]) ht hT hg (by with_unfolding_all rfl)
def YE (xs:List V) (lo hi:Option Int):List V:=(xs.drop (HT.sIx xs.length 0 lo)).take (HT.sIx xs.length xs.length hi - HT.sIx xs.length 0 lo)
theorem Zm (xs:List V) (lo hi:Option Int):(YE xs lo hi).length≤xs.length:=by
 unfold YE
 rw [B9,List.length_drop]
 omega
def qJL (K:W.Frag):V->Option Int->Option Int->Hp->VK->Prop:=fun x lo hi H Q => ∃ a xs,x = .ref a∧SqT K H a xs ∧
 ¬ (HT.sIx xs.length 0 lo=0∧HT.sIx xs.length xs.length hi=xs.length) ∧ ∀ p,H p=none->Q (.ref p) (upd H p (.tup (YE xs lo hi)))
theorem sl_tup:SlR X (qJL X.K):=by
 intro pins s σ H x v vl vu lo hi sl Q I rx hs pl pu h
 obtain ⟨a,xs,rfl,hx,hw,q⟩:=h
 cases rx
 obtain ⟨its,r,ht,hz⟩:=I.tuple hx
 have hlen:its.toArray.size=xs.length:=by rw [AN];exact r.length.symm
 refine ⟨"tuple",_,PyProof.Rows.slot_tuple_getitem.lookup,ht.typeIs,?_⟩
 refine HT.getItem_tuple_cut ht hs pl pu (by rw [hlen];exact hw) ?_ (by rw [hlen];exact hz)
 rw [hlen]
 refine ⟨.ref s.heap.objs.size,_,I.laid (t':=s.toks) (o := .tup (YE xs lo hi)) (fun b ob q=>AF _ q) (AI _) ?_,rfl,q _ (I.hok.fresh (AI _))⟩
 exact ⟨Aa (Zm xs lo hi) hz,_,(r.drop (HT.sIx xs.length 0 lo)).take (HT.sIx xs.length xs.length hi - HT.sIx xs.length 0 lo),IsTup.new _ _⟩
def qH8 (K:W.Frag):R2:=fun x y H Q => ∃ a b xs ys,x = .ref a∧y = .ref b∧SqT K H a xs∧SqT K H b ys∧xs≠[]∧xs.length + ys.length≤sizeLine ∧
 (ys=[]->Q (.ref a) H)∧(ys≠[] -> ∀ p,H p=none->Q (.ref p) (upd H p (.tup (xs++ys))))
theorem Vals.nil_iff {xs:List V} {us:List Value} (r:Vals xs us):us=[] ↔ xs=[]:=by
 cases r with
 |nil=>simp
 |cons _ _=>simp
theorem qFY:OpR X (binaryOp .Add) (qH8 X.K):=by
 intro pins s σ H x y v u Q I rx ry h
 obtain ⟨a,b,xs,ys,rfl,rfl,ha,hb,hx,hz,q1,q2⟩:=h
 cases rx
 cases ry
 obtain ⟨its,r1,p1,_⟩:=I.tuple ha
 obtain ⟨its2,r2,p2,_⟩:=I.tuple hb
 refine HT.cat_tup p1 p2 (fun z=>hx (r1.nil_iff.mp z)) (fun z=>⟨.ref a,H,I,rfl,q1 (r2.nil_iff.mp z)⟩) (fun z => ?_) (by rw [← r1.length,← r2.length];exact hz)
 refine ⟨.ref s.heap.objs.size,_,I.laid (t':=s.toks) (o := .tup (xs++ys)) (fun b ob q=>AF _ q) (AI _) ?_,rfl,q2 (fun w=>z (r2.nil_iff.mpr w)) _ (I.hok.fresh (AI _))⟩
 exact ⟨by rw [Ab];exact hz,_,r1.append r2,IsTup.new _ _⟩
end
end L2
namespace L2
open PySem PySem.Spec PyProof.Rows
def ixN (n:Nat) (i:Int):Option Nat:=if 0≤i then (if i < n then some i.toNat else none) else if -(n:Int)≤i then some (i + n).toNat else none
def atI {α:Type} (xs:List α) (i:Int):Option α:=(ixN xs.length i).bind fun j=>xs[j]?
theorem qBL {n:Nat} {i:Int} {j:Nat} (h:ixN n i=some j):seqIndex? i n=some j∧j < n ∧ -(n:Int)≤i∧i < n:=by
 unfold ixN at h
 by_cases h0:0≤i
 ·rw [AC h0] at h
  by_cases h1:i < n
  ·rw [AC h1] at h
   have e:i.toNat=j:=AW h
   exact ⟨by rw [seqIndex_of h0 h1,e],by omega,by omega,h1⟩
  ·rw [AH h1] at h;cases h
 ·rw [AH h0] at h
  by_cases h1:-(n:Int)≤i
  ·rw [AC h1] at h
   have e:(i + n).toNat=j:=AW h
   exact ⟨by rw [seqIndex_neg (by omega) h1,e],by omega,h1,by omega⟩
  ·rw [AH h1] at h;cases h
theorem Yw {α:Type} {xs:List α} {i:Int} {v:α} (h:atI xs i=some v):∃ j,seqIndex? i xs.length=some j∧xs[j]? = some v∧j < xs.length ∧ -(xs.length:Int)≤i∧i < xs.length:=by
 unfold atI at h
 cases e:ixN xs.length i with
 |none=>rw [e] at h;cases h
 |some j =>
  rw [e] at h
  obtain ⟨h1,h2,h3,h4⟩:=qBL e
  exact ⟨j,h1,h,h2,h3,h4⟩
def Yx (b:Expr):Prop := ∀ o i,subscripted b false o i=operate [o,i] (getItem o i)
def IxR (X:Cx) (r:R2):Prop :=
 ∀ (value slice:Expr) (pins:List (Addr×Obj)) (s:Shared) (σ:St) (H:Hp) (x y:V) (v u:Value) (Q:VK),Inv X pins σ H s->RelV x v->RelV y u->r x y H Q ->
  subscripted slice false v u=operate [v,u] (getItem v u)->wpAny (model X.prog X.w) X.A (subscriptTail value slice v u) (EP X pins σ Q) X.xe s
def MtR (X:Cx) (id:String) (r:V->List V->Hp->VK->Prop):Prop :=
 ∀ (pins:List (Addr×Obj)) (s:Shared) (σ:St) (H:Hp) (x:V) (xs:List V) (v:Value) (us:List Value) (Q:VK),Inv X pins σ H s->RelV x v->Vals xs us->r x xs H Q ->
  wpAny (model X.prog X.w) X.A (call (.builtin id) (v::us)) (EP X pins σ Q) X.xe s
section
variable {X:Cx} {a b:Expr} {ta tb:TE} {pos:Pos}
theorem IxR.or {r r':R2} (h:IxR X r) (h':IxR X r'):IxR X (fun x y H Q=>r x y H Q∨r' x y H Q):=by
 intro value slice pins s σ H x y v u Q I rx ry q hs
 rcases q with q |q
 ·exact h value slice pins s σ H x y v u Q I rx ry q hs
 ·exact h' value slice pins s σ H x y v u Q I rx ry q hs
theorem qGF {r:R2} (hr:IxR X r) (ha:PE X a ta) (hb:PE X b tb) (hs:Yx b):PE X (.Subscript a b pos) (tOp r ta tb):=by
 intro pins s σ H Q I h
 exact Subscript_ (qGq ha hb I h fun v u s2 x y H2 I2 rx ry q=>hr a b pins s2 σ H2 x y v u Q I2 rx ry q (hs _ _))
def qJA (K:W.Frag):R2:=fun x y H Q => ∃ p xs i v,x = .ref p∧y = .int i∧SqL K H p xs∧atI xs i=some v∧Q v H
def qIC (K:W.Frag):R2:=fun x y H Q => ∃ p xs i v,x = .ref p∧y = .int i∧SqT K H p xs∧atI xs i=some v∧Q v H
def qIP:R2:=fun x y H Q => ∃ z i c,x = .str z∧y = .int i∧z.length≤sizeLine∧atI z.cps.toList i=some c∧Q (.str ⟨#[c]⟩) H
theorem ix_list:IxR X (qJA X.K):=by
 intro value slice pins s σ H x y v u Q I rx ry h hs
 obtain ⟨p,xs,i,z,rfl,rfl,hq,he,q⟩:=h
 cases rx
 obtain ⟨t,rfl⟩:=ry
 obtain ⟨its,r,pl,hz⟩:=I.list hq
 obtain ⟨j,h1,h2,h3,h4,h5⟩:=Yw he
 obtain ⟨w,ew,rw'⟩:=r.get h2
 have hl:=r.length
 have hn:=zu
 have fin:EP X pins σ Q w s:=⟨z,H,I,rw',q⟩
 by_cases h0:0≤i
 ·have hj:i.toNat=j:=by
   rw [seqIndex_of h0 h5] at h1
   exact AW h1
  exact item_listR pl.isList h0 (by omega) (by rw [hj];simpa using ew) fin hs
 ·have hj:(i + (its.toArray.size:Int)).toNat=j:=by
   rw [seqIndex_neg (by omega) h4] at h1
   rw [AN,← hl]
   exact AW h1
  exact subscriptTail_builtinR (x:=w) pl.isList.typeIs slot_list_getitem.lookup
   (wpAny_getItem_list_neg (Q:=fun r s'=>r=w∧EP X pins σ Q r s') pl.isList (by omega) (by rw [AN] <;> omega) (by omega) (by rw [hj];simpa using ew) ⟨rfl,fin⟩) hs
theorem ix_tup:IxR X (qIC X.K):=by
 intro value slice pins s σ H x y v u Q I rx ry h hs
 obtain ⟨p,xs,i,z,rfl,rfl,hq,he,q⟩:=h
 cases rx
 obtain ⟨t,rfl⟩:=ry
 obtain ⟨its,r,pl,hz⟩:=I.tuple hq
 obtain ⟨j,h1,h2,h3,h4,h5⟩:=Yw he
 obtain ⟨w,ew,rw'⟩:=r.get h2
 have hl:=r.length
 have hn:=zu
 have fin:EP X pins σ Q w s:=⟨z,H,I,rw',q⟩
 exact subscriptTail_builtinR (x:=w) pl.typeIs slot_tuple_getitem.lookup
  (getItem_tuple (j:=j) (Q:=fun r s'=>r=w∧EP X pins σ Q r s') pl (by omega) (by omega) (by rw [AN,← hl];exact h1) (by simpa using ew) ⟨rfl,fin⟩) hs
theorem qHb:IxR X qIP:=by
 intro value slice pins s σ H x y v u Q I rx ry h hs
 obtain ⟨z,i,c,rfl,rfl,hz,he,q⟩:=h
 obtain ⟨t,rfl⟩:=rx
 obtain ⟨t',rfl⟩:=ry
 obtain ⟨j,h1,h2,h3,h4,h5⟩:=Yw he
 have hl:z.cps.toList.length=z.length:=by simp [Str.length]
 rw [hl] at h1 h4 h5
 have hn:=zu
 exact tail_any (CQ s z t) slot_str_getitem.lookup (getItem_str (c:=c) (by
  have e1:decide (i < -(2 ^ 63:Int))=false:=AO (by omega)
  have e2:decide (i ≥ 2 ^ 63)=false:=AO (by omega)
  rw [e1,e2,Bool.or_false]) (by rw [h1];simpa using h2) ⟨.str ⟨#[c]⟩,H,I.tok _,⟨_,rfl⟩,q⟩) hs
def rIx (K:W.Frag):R2:=fun x y H Q=>qJA K x y H Q∨qIC K x y H Q∨qIP x y H Q
theorem qC2:IxR X (rIx X.K):=ix_list.or (ix_tup.or qHb)
theorem J3 (its:List Value) (n j:Nat) (u:Value):Obj.mapSeq (·.setIfInBounds j u) { cls := .type "list",data := .seq its.toArray n }={ cls := .type "list",data := .seq (its.set j u).toArray n }:=by
 simp [Obj.mapSeq]
theorem Inv.lst {pins:List (Addr×Obj)} {σ:St} {H:Hp} {s:Shared} {p:Addr} {xs:List V} (I:Inv X pins σ H s) (h:H p=some (.lst xs)) :
  ∃ (its:List Value) (n:Nat),Vals xs its∧s.heap.get? p=some { cls := .type "list",data := .seq its.toArray n }∧xs.length≤sizeLine:=by
 obtain ⟨z,its,n,r,e⟩:=I.hok p _ h
 exact ⟨its,n,r,e,z⟩
theorem Inv.lstUpd {pins:List (Addr×Obj)} {σ:St} {H:Hp} {s:Shared} {p:Addr} {xs ys:List V} {its its':List Value} {n n':Nat} {f:Obj->Obj} (I:Inv X pins σ H s) (h:H p=some (.lst xs))
  (ho:s.heap.get? p=some { cls := .type "list",data := .seq its.toArray n }) (hf:f { cls := .type "list",data := .seq its.toArray n }={ cls := .type "list",data := .seq its'.toArray n' }) (r:Vals ys its') (hz:ys.length≤sizeLine) (t:Nat) :
  Inv X pins σ (upd H p (.lst ys)) { s with heap:=s.heap.update p f,toks:=t }:=by
 have e:(s.heap.update p f).get? p=some { cls := .type "list",data := .seq its'.toArray n' }:=by
  rw [A4 f ho (by rw [hf] <;> rfl),hf]
 refine I.write (x:=p) (e:=p) (by rw [h];trivial) (.inl rfl) (fun b u hb q=>(AZ _ _ (Ne.symm hb)).trans q) ⟨_,e⟩ ?_
 exact ⟨hz,its',n',r,e⟩
def qGA:V->V->V->Hp->(Hp->Prop)->Prop:=fun o i v H Q => ∃ p xs k j,o = .ref p∧i = .int k∧H p=some (.lst xs)∧ixN xs.length k=some j∧Q (upd H p (.lst (xs.set j v)))
theorem qCm:qI8 X qGA:=by
 intro pins s σ H o i v ov iv u Q I ro ri rv h
 obtain ⟨p,xs,k,j,rfl,rfl,hp,hj,q⟩:=h
 cases ro
 obtain ⟨t,rfl⟩:=ri
 obtain ⟨its,n,r,ho,hz⟩:=I.lst hp
 obtain ⟨h1,h2,h3,h4⟩:=qBL hj
 have hl:=r.length
 have hn:=zu
 have I':Inv X pins σ (upd H p (.lst (xs.set j v))) { s with heap:=s.heap.update p (Obj.mapSeq (·.setIfInBounds j u)) } :=
  I.lstUpd hp ho (J3 its n j u) (r.set rv j) (by rw [List.length_set];exact hz) s.toks
 by_cases h0:0≤k
 ·have hk:k.toNat=j:=by
   rw [seqIndex_of h0 h4] at h1
   exact AW h1
  exact W.ki_setAt ho h0 (by omega) (by rw [AN,← hl];exact h4) (by rw [hk];exact ⟨_,I',q⟩)
 ·have hk:(k + (its.toArray.size:Int)).toNat=j:=by
   rw [seqIndex_neg (by omega) h3] at h1
   rw [AN,← hl]
   exact AW h1
  exact W.ki_setBack ho (by omega) (by rw [AN,← hl];exact h3) (by omega) (by rw [hk];exact ⟨_,I',q⟩)
theorem Y9 (lo hi:Option Int) (n:Nat):(sliceBounds lo hi none n).1=((HT.sIx n 0 lo:Nat):Int)∧(sliceBounds lo hi none n).2.1=((HT.sIx n n hi:Nat):Int)∧(sliceBounds lo hi none n).2.2=1:=by
 refine ⟨?_,?_,rfl⟩
 ·cases lo with
  |none=>simp [sliceBounds,HT.sIx]
  |some i =>
   simp only [sliceBounds,HT.sIx,Option.getD_none,show (1:Int) > 0 by decide,CI]
   by_cases h:i < 0
   ·simp only [h,CI] <;> omega
   ·simp only [h,BY] <;> omega
 ·cases hi with
  |none=>simp [sliceBounds,HT.sIx]
  |some i =>
   simp only [sliceBounds,HT.sIx,Option.getD_none,show (1:Int) > 0 by decide,CI]
   by_cases h:i < 0
   ·simp only [h,CI] <;> omega
   ·simp only [h,BY] <;> omega
theorem YL (its:List Value) (lo hi:Option Int):slicePick its.toArray lo hi none=((its.drop (HT.sIx its.length 0 lo)).take (HT.sIx its.length its.length hi - HT.sIx its.length 0 lo)).toArray:=by
 obtain ⟨h1,h2,h3⟩:=Y9 lo hi its.toArray.size
 unfold slicePick
 rw [h1,h2,h3]
 simp only [sliceRange_one,pick_run,AN] <;> rfl
def qJP (K:W.Frag):V->Option Int->Option Int->Hp->VK->Prop:=fun x lo hi H Q => ∃ a xs,x = .ref a∧SqL K H a xs ∧ ∀ p,H p=none->Q (.ref p) (upd H p (.lst (YE xs lo hi)))
theorem qEc:SlR X (qJP X.K):=by
 intro pins s σ H x v vl vu lo hi sl Q I rx hs pl pu h
 obtain ⟨a,xs,rfl,hx,q⟩:=h
 cases rx
 obtain ⟨its,r,ht,hz⟩:=I.list hx
 have hlen:=r.length
 refine ⟨"list",_,slot_list_getitem.lookup,ht.isList.typeIs,?_⟩
 refine wpAny_getItem_list_slice ht.isList hs pl pu .none (by simp) ?_ (by rw [AN] <;> omega)
 rw [YL,← hlen]
 refine ⟨.ref s.heap.objs.size,_,I.laid (t':=s.toks) (o := .lst (YE xs lo hi)) (fun b ob q=>AF _ q) (AI _) ?_,rfl,q _ (I.hok.fresh (AI _))⟩
 exact ⟨Aa (Zm xs lo hi) hz,_,0,(r.drop (HT.sIx xs.length 0 lo)).take (HT.sIx xs.length xs.length hi - HT.sIx xs.length 0 lo),AT _ rfl⟩
theorem jF:wz X (.builtin "len") (fun xs H Q => ∃ p ys,xs=[.ref p]∧(SqL X.K H p ys∨SqT X.K H p ys)∧Q (.int ys.length) H):=by
 intro pins s σ H xs us Q I r h
 obtain ⟨p,ys,rfl,hq,q⟩:=h
 obtain ⟨u,rfl,rx⟩:=ZA r
 cases rx
 have hn:=zu
 rcases hq with hq |hq
 ·obtain ⟨its,r',pl,hz⟩:=I.list hq
  have hlen:=r'.length
  exact Calls.call_len_list pl.isList (by simp only [AN] <;> omega) ⟨.int ys.length,H,I.tok _,⟨s.toks + 1,by rw [AN,hlen]⟩,q⟩
 ·obtain ⟨its,r',pl,hz⟩:=I.tuple hq
  have hlen:=r'.length
  exact len_tuple pl (by simp only [AN] <;> omega) ⟨.int ys.length,H,I.tok _,⟨s.toks + 1,by rw [AN,hlen]⟩,q⟩
theorem jD:wz X (.builtin "len") (fun xs H Q => ∃ z,xs=[.str z]∧z.length≤sizeLine∧Q (.int z.length) H):=by
 intro pins s σ H xs us Q I r h
 obtain ⟨z,rfl,hz,q⟩:=h
 obtain ⟨u,rfl,t,rfl⟩:=ZA r
 have hn:=zu
 exact len_str (by omega) ⟨.int z.length,H,I.tok _,⟨_,rfl⟩,q⟩
theorem YG:wz X (.type "tuple") (fun xs H Q => ∃ p ys,xs=[.ref p]∧((SqL X.K H p ys ∧ ∀ l,H l=none->Q (.ref l) (upd H l (.tup ys)))∨(SqT X.K H p ys∧Q (.ref p) H))):=by
 intro pins s σ H xs us Q I r h
 obtain ⟨p,ys,rfl,h⟩:=h
 obtain ⟨u,rfl,rx⟩:=ZA r
 cases rx
 rcases h with ⟨hq,q⟩ |⟨hq,q⟩
 ·obtain ⟨its,r',pl,hz⟩:=I.list hq
  have hlen:=r'.length
  refine call_tuple_list pl.isList (fun h' kp => ?_) (by simp only [AN] <;> omega)
  have I1:Inv X pins σ H { s with heap:=h' }:=I.kept (t':=s.toks) kp
  have I2:Inv X pins σ (upd H h'.objs.size (.tup ys)) { s with heap:=h'.push { cls := .type "tuple",data := .seq its.toArray } } :=
   I1.laid (t':=s.toks) (fun b o e=>AF _ e) (AI _) (show ObjOk X.prog X.w _ _ _ (.tup ys) from ⟨hz,its,r',IsTup.new _ _⟩)
  exact ⟨.ref h'.objs.size,_,I2,rfl,q _ (I1.hok.fresh (AI _))⟩
 ·obtain ⟨its,r',pl,hz⟩:=I.tuple hq
  exact call_tuple_same pl ⟨.ref p,H,I,rfl,q⟩
def tyV (K:W.Frag) (T:String) (x:V) (H:Hp):Prop:=match x with
 | .str _=>T = "str"
 | .int _=>T = "int"
 | .ref p=>(T = "list" ∧ ∃ xs,SqL K H p xs)∨(T = "tuple" ∧ ∃ o,K.lookup p=some o∧o.cls = .type "tuple" ∧ o.dict=none) ∨
   (T = "dict" ∧ ((∃ kvs,H p=some (.dK kvs)) ∨ ∃ kvs,H p=some (.dT kvs)))∨(T = "set" ∧ ∃ S n,H p=some (.set S n))
 |_=>False
theorem qH0 {pins:List (Addr×Obj)} {σ:St} {H:Hp} {s:Shared} {T:String} {x:V} {v:Value} (I:Inv X pins σ H s) (r:RelV x v) (ty:tyV X.K T x H) :
  s.TypeIs v T ∧ ∀ a,v = .ref a -> ∃ ob,s.heap.get? a=some ob∧ob.dict=none:=by
 cases x with
 |str z =>
  obtain ⟨t,rfl⟩:=r
  cases (show T = "str" from ty)
  exact ⟨CQ s z t,fun _ e=>nomatch e⟩
 |int i =>
  obtain ⟨t,rfl⟩:=r
  cases (show T = "int" from ty)
  exact ⟨typeIs_int s i t,fun _ e=>nomatch e⟩
 |ref p =>
  cases r
  rcases ty with ⟨rfl,xs,hq⟩ |⟨rfl,o,hk,hc,hd⟩ |⟨rfl,hk⟩ |⟨rfl,S,n,hk⟩
  ·obtain ⟨its,_,pl,_⟩:=I.list hq
   refine ⟨pl.isList.typeIs,fun a e => ?_⟩
   cases e
   obtain ⟨o,n,e,c,hd,_⟩:=pl
   exact ⟨o,e,hd⟩
  ·refine ⟨⟨o,I.kIn p o hk,hc⟩,fun a e => ?_⟩
   cases e
   exact ⟨o,I.kIn _ o hk,hd⟩
  ·have z:∃ o,s.heap.get? p=some o∧o.ExactDict:=by
    rcases hk with ⟨kvs,hk⟩ |⟨kvs,hk⟩
    ·obtain ⟨_,_,_,_,o,_,_,e,ex,_⟩:=I.hok p _ hk
     exact ⟨o,e,ex⟩
    ·obtain ⟨_,_,_,_,o,_,_,e,ex,_⟩:=I.hok p _ hk
     exact ⟨o,e,ex⟩
   obtain ⟨o,e,ex⟩:=z
   refine ⟨⟨o,e,ex.1⟩,fun a e2 => ?_⟩
   cases e2
   exact ⟨o,e,ex.2.1⟩
  ·obtain ⟨o,_,_,_,e,ex,_⟩:=I.hok p _ hk
   refine ⟨⟨o,e,ex.1⟩,fun a e2 => ?_⟩
   cases e2
   exact ⟨o,e,ex.2.1⟩
 |_=>exact False.elim ty
def tBM (K:W.Frag) (T:String) (r:V->List V->Hp->VK->Prop) (to:TE) (t:TA):TE:=fun σ H Q=>to σ H fun x H1=>tyV K T x H1∧t σ H1 fun xs H2=>r x xs H2 Q
variable {o e:Expr} {es:List Expr} {to:TE} {t:TA} {name:Str} {apos cpos:Pos} {T id:String} {r:V->List V->Hp->VK->Prop}
theorem qBb (pa:PlainAttrs T) (slot:Slot T name id) (hty:typeOf (.builtin id)=pure (.type "method_descriptor")) (hm:MtR X id r) (ho:PE X o to) (ha:PA X (e::es) t)
  (hbase:attributeBase o name X.env (eval o X.env)=eval o X.env:=by rfl)
  (hfew:((backTo cpos (starEach (e::es) X.env)).all (fun x => !x.1)&&(backToKw cpos (keywordEach [] X.env)).all (fun x=>x.1.isSome)
   && decide ((e::es).length + ([]:List Keyword).length + (if ([]:List Keyword).isEmpty then 0 else 1) < 30))=true:=by rfl)
  (hline:(apos.endLine==cpos.line)=true:=by rfl) (hs:starEach (e::es) X.env=(false,eval e X.env)::starEach es X.env:=by rfl) (hplain:(backTo cpos (starEach es X.env)).any (·.1)=false:=by rfl) :
  PE X (.Call (.Attribute o name apos) (e::es) [] cpos) (tBM X.K T r to t):=by
 intro pins s σ H Q I h
 refine wpAny_Call_method_late hbase hfew hline rfl (thn (ho pins s σ H _ I h) fun v s1 ⟨x,H1,I1,r1,ty,q1⟩ => ?_)
 obtain ⟨h1,h2⟩:=qH0 I1 r1 ty
 refine ⟨T,id,pa,slot,hty,h1,h2,?_⟩
 have hA:=ha cpos pins s1 σ H1 _ I1 q1
 rw [hs] at hA ⊢
 refine Calls.callWith_builtin (by show (false || (backTo cpos (starEach es X.env)).any (·.1))=false;rw [hplain] <;> rfl) (Calls.evalArgs_plain ?_)
 exact thn hA fun us s2 ⟨vs,H2,I2,r2,q2⟩=>hm pins s2 σ H2 x vs v us Q I2 r1 r2 q2
end
end L2
namespace L2
open PySem PySem.Spec PyProof.Rows
def MtM (X:Cx) (id:String) (r:V->List V->Hp->VK->Prop):Prop :=
 ∀ (pins:List (Addr×Obj)) (s:Shared) (σ:St) (H:Hp) (x:V) (xs:List V) (v:Value) (us:List Value) (Q:VK),Inv X pins σ H s->RelV x v->Vals xs us->r x xs H Q ->
  wpAny (model X.prog X.w) X.A (call (.builtin id) (v::us)) (EP X pins σ Q) X.xe s
theorem Vals.one:∀ {x:V} {us:List Value},Vals [x] us -> ∃ u,us=[u]∧RelV x u
 |_,_,.cons r .nil=>⟨_,rfl,r⟩
section
variable {X:Cx} {pins:List (Addr×Obj)} {σ:St} {H:Hp} {s:Shared} {l b:Addr} {xs ys zs:List V}
theorem Inv.lset {its its':List Value} {n:Nat} {f:Array Value->Array Value} {t':Nat} (I:Inv X pins σ H s) (hH:H l=some (.lst xs))
  (e:s.heap.get? l=some { cls := .type "list",data := .seq its.toArray n }) (hf:f its.toArray=its'.toArray) (hv:Vals ys its') (hz:ys.length≤sizeLine) :
  Inv X pins σ (upd H l (.lst ys)) { s with heap:=s.heap.update l (Obj.mapSeq f),toks:=t' }:=by
 have q:=PySem.IsL.update e f
 rw [hf] at q
 refine I.write (x:=l) (e:=l) (by rw [hH];exact trivial) (.inl rfl) (fun b' u hb hu=>(AZ s.heap (Obj.mapSeq f) (Ne.symm hb)).trans hu) ⟨_,q⟩ ?_
 exact ⟨hz,its',_,hv,q⟩
theorem Inv.lnew {its:List Value} {t':Nat} (I:Inv X pins σ H s) (hv:Vals ys its) (hz:ys.length≤sizeLine) :
  Inv X pins σ (upd H s.heap.objs.size (.lst ys)) { s with heap:=s.heap.push { cls := .type "list",data := .seq its.toArray },toks:=t' } :=
 I.laid (fun _ _ q=>AF _ q) (AI _) ⟨hz,its,0,hv,AT _ rfl⟩
theorem Inv.fresh (I:Inv X pins σ H s):H s.heap.objs.size=none:=I.hok.fresh (AI _)
theorem Inv.lstM (I:Inv X pins σ H s) (hH:H l=some (.lst xs)):xs.length≤sizeLine ∧ ∃ (its:List Value) (n:Nat),Vals xs its∧xs.length=its.length∧s.heap.get? l=some { cls := .type "list",data := .seq its.toArray n }:=by
 obtain ⟨z,its,n,r,e⟩:=I.hok l _ hH
 exact ⟨z,its,n,r,r.length,e⟩
end
section
variable {X:Cx}
def qFL:V->List V->Hp->VK->Prop:=fun x vs H Q => ∃ l xs y,x = .ref l∧vs=[y]∧H l=some (.lst xs)∧xs.length < sizeLine∧Q .non (upd H l (.lst (xs++[y])))
theorem Yq:MtM X "list.append" qFL:=by
 intro pins s σ H x vs v us Q I rx rv h
 obtain ⟨l,xs,y,rfl,rfl,hH,hz,q⟩:=h
 cases rx
 obtain ⟨u,rfl,ru⟩:=rv.one
 obtain ⟨z,its,n,r,hl,e⟩:=I.lstM hH
 refine call_meets F.slot_list_append ⟨_,e,rfl⟩ F.entry_list_append (F.args_list_append_2 _ _) (PySem.list_append l its.toArray n u (by rw [AN];omega)) ⟨e,?_⟩
 refine ⟨.non,_,I.lset (its':=its++[u]) hH e (by simp) (r.append (.cons ru .nil)) ?_,rfl,q⟩
 rw [Ab,Bi]
 omega
end
end L2
namespace Att
open PySem PySem.W PySem.Calls PyProof.Rows
theorem Z2 {P:Params} {h:Heap}:∀ (ns:List Int) (vs:List Value),WellAll P h vs (ns.map WData.int)->IntsAre vs ns:=by
 intro ns
 induction ns with
 |nil =>
  intro vs w
  rw [List.map_nil] at w
  cases w
  exact .nil
 |cons n ns ih =>
  intro vs w
  rw [AK] at w
  cases w with
  |cons a b =>
   cases a
   exact .cons _ _ (ih _ b)
theorem qCZ {l:OpenLaw} {n:Nat} (hn:l.most=some n) {P:Params} {h:Heap} {args:List WData} {vals:List Value}
  (hpre:l.row.toRowW.claim.pre args=true) (hwl:WellAll P h vals args) :
  ∃ a vs ns,vals=[Value.ref a]∧args=[WData.list (ns.map WData.int)]∧h.get? a=some { cls := .type "list",data := .seq vs.toArray }∧IntsAre vs ns∧ns.length≤n:=by
 have hsh:WShape.hasAll [] args [.list .int]=true:=(pre_splitW hpre).1
 have hc:l.pre.holds [] { args:=args }=true:=(pre_splitW hpre).2
 obtain ⟨d,r,rfl,h1,h2⟩:=hasAllW_cons hsh
 obtain rfl:=hasAllW_nil h2
 obtain ⟨xs,rfl,h3⟩:=hasW_list h1
 obtain ⟨ns,rfl⟩:=items_int h3
 have hlen:ns.length≤n:=by
  unfold OpenLaw.pre at hc
  have h4:(WTm.not (.lt (.lit (.int (n:Int))) (.len (.arg 0)))).holds [] { args:=[.list (ns.map .int)] }=true:=by
   have h4:=(holds_andW hc).1
   rw [hn] at h4
   exact h4
  have h5:=condW_of h4 (w_not (w_lt w_lit (w_len_list (w_arg rfl))))
  rw [AB] at h5
  refine Nat.le_of_not_lt fun q => ?_
  have q':(n:Int) < ((ns.length:Nat):Int):=by omega
  first
   |(rw [AR q'] at h5;exact absurd h5 (by decide))
   |(simp at h5;omega)
 cases hwl with
 |cons w1 w2 =>
  cases w2
  cases w1 with
  |list ho hall=>exact ⟨_,_,ns,rfl,rfl,ho,Z2 ns _ hall,hlen⟩
theorem qB8 (l:OpenLaw) (args:List WData):l.row.toRowW.claim.post args (.bool true) args=true :=
 postW_of (r:=l.row.toRowW) (X:=(true==true))
  (show WShape.has [] (.bool true) .bool=true by first |rfl |decide |simp [WShape.has,WShape.arms,WShape.armsAll])
  (show (WTm.eq .res (.lit (.bool true))).value [] { args:=args,res:=some (.bool true),after:=args }=some (.bool (true==true)) from w_eq_bool (w_res rfl) w_lit) rfl
end Att
namespace L2
open PySem PySem.Spec PyProof.Rows
theorem Yg:∀ {vs:List Value} {ns:List Int},IntsAre vs ns->Vals (ns.map V.int) vs
 |_,_,.nil => .nil
 |_,_,.cons n t h => .cons ⟨t,rfl⟩ (Yg h)
def qG4 (H:Hp):Prop := ∀ b,H b=none ∨ ∃ o xs,H b=some (.frz o (.lst xs))
theorem qDd {P:Program} {w:World} {K:W.Frag} {mg mb:Str->Option Value} {CX:CXT} {k:Nat} {fa a:Addr} {fd:FuncData} {x:Str} {sp:Sp} {s₁:Shared} {vs:List Value} {ns:List Int}
  (KX:K.In s₁.heap) (hns:s₁.heap.Ns mainGlobals mg) (hb:s₁.heap.Ns builtinsNs mb) (hbb:∀ x:Str,x ≠ "__name__" -> mb x=bootBuiltins x) (hlim:s₁.heap.NoLimit) (hg:s₁.gens = #[])
  (ha:s₁.heap.get? a=some { cls := .type "list",data := .seq vs.toArray }) (hi:IntsAre vs ns) (hl:ns.length≤sizeLine) (hr:Room k callerA)
  (F:∀ base:Heap,K.In base->base.Ns mainGlobals mg->FnOk P w K mg base CX k fa fd [x] sp) (hbind:∀ (s:Shared) (u:Value),BindsTo s fd ⟨[u],[]⟩ [(x,u)])
  (hsp:∀ H:Hp,qG4 H->SqL K H a (ns.map V.int)->sp [.ref a] H (fun v _=>v = .bl true) fun _ _ _=>False)
  (hCX:∀ H e s',CX [] H s₁ (fun _ _ _=>False) e s'->False) :
  codeAny (model P w) callerA (.call (.ref fa) ⟨[.ref a],[]⟩) (fun r s'=>r = .ok (.ret (.bool true))∧OldK s₁.heap s'.heap∧s'.os=s₁.os∧AllBare s'.gens) s₁:=by
 have rv:=Yg hi
 have lenV:=hi.length
 -- from an abstract heap in which nothing but the script may be tracked
 have core:∀ H:Hp,qG4 H->SqL K H a (ns.map V.int)->HOk P w H s₁.heap->(∀ b,H b≠none->b=a)->(H a≠none->K.lookup a=none) ->
   codeAny (model P w) callerA (.call (.ref fa) ⟨[.ref a],[]⟩) (fun r s'=>r = .ok (.ret (.bool true))∧OldK s₁.heap s'.heap∧s'.os=s₁.os∧AllBare s'.gens) s₁:=by
  intro H hO hS hok hA hK
  have base_of:∀ {b:Addr} {o:Obj},s₁.heap.get? b=some o->H b=none->(Y0 s₁.heap H).get? b=some o:=fun e n=>qED e n
  have noA:∀ {b:Addr} {o:Obj} {es:Array DictEntry} {ep:Nat},s₁.heap.get? b=some o->o.data = .dict es ep->H b=none:=fun {b o es ep} e d=>by
   cases q:H b with
   |none=>rfl
   |some u =>
    have e':b=a:=hA b (by rw [q];simp)
    subst e'
    rw [ha] at e;cases e
    have d':Data.seq vs.toArray _=Data.dict es ep:=d
    cases d'
  have nsK:∀ {b:Addr} {m:Str->Option Value},s₁.heap.Ns b m->(Y0 s₁.heap H).Ns b m:=fun {b m} ⟨o,es,ep,e,d,r⟩=>⟨o,es,ep,base_of e (noA e d),d,r⟩
  have hKb:K.In (Y0 s₁.heap H):=fun b o e=>base_of (KX b o e) (by
   cases q:H b with
   |none=>rfl
   |some u =>
    have e':b=a:=hA b (by rw [q];simp)
    subst e'
    rw [hK (by rw [q];simp)] at e;cases e)
  have hM:Mod K mg (Y0 s₁.heap H):=⟨hKb,nsK hns,⟨mb,nsK hb,hbb⟩,let ⟨mc,h1,h2⟩:=hlim;⟨mc,nsK h1,h2⟩⟩
  have e0:Env0 P w K mg (Y0 s₁.heap H) callerA [] s₁ H:=⟨rfl,hM,fun b o e=>qEn e,Nat.le_of_eq (qCD _ _),trivial,fun b hb=>absurd (show b∈([]:List Addr) from hb) (by simp),hok,.of_eq hg,HndH.none rfl⟩
  refine codeAny_mono ((F _ hKb (nsK hns)).run callerA [] s₁ H ⟨[.ref a],[]⟩ [.ref a] [.ref a] _ _ hr e0 (hbind s₁ (.ref a)) (.cons rfl .nil) (hsp H hO hS)) fun r s' h => ?_
  cases r with
  |error e=>exact (hCX H e s' h).elim
  |ok fl =>
   cases fl with
   |next=>exact False.elim h
   |brk=>exact False.elim h
   |cont=>exact False.elim h
   |ret u =>
    obtain ⟨v,H',os,bare,un,hok',r',q⟩:=h
    have q':v = .bl true:=q
    subst q'
    obtain rfl:u=Value.bool true:=r'
    refine ⟨rfl,OldK.of_keep fun b o e => ?_,os,bare⟩
    cases q:H b with
    |none=>exact un.keep b o e q (by intro z;exact absurd (show b∈([]:List Addr) from z) (by simp)) (by simp)
    |some u =>
     rcases hO b with z |⟨ob,xs,z⟩
     ·rw [q] at z;cases z
     ·have z2:=un.frzs b ob _ z
      obtain ⟨e1,_⟩:=hok b _ z
      obtain ⟨e2,_⟩:=hok' b _ z2
      rw [e] at e1;cases e1
      exact e2
 cases hk:K.lookup a with
 |some o =>
  -- the script is one of the module's own objects
  have e:=KX a o hk
  rw [ha] at e
  cases e
  refine core (fun _=>none) (fun _ => .inl rfl) (.inr ⟨_,vs.toArray,_,hk,rfl,rfl,rfl,by rw [AN,lenV];exact hl,by simpa using rv⟩) (fun b u z=>by have z':(none:Option HO)=some u:=z;cases z') (fun b z=>absurd rfl z) fun z=>absurd rfl z
 |none =>
  refine core (fun b=>if b=a then some (.frz { cls := .type "list",data := .seq vs.toArray } (.lst (ns.map V.int))) else none) (fun b => ?_) (.inl (.inr ⟨{ cls := .type "list",data := .seq vs.toArray },AC rfl⟩)) (fun b u z => ?_) (fun b z => ?_) fun _=>hk
  ·by_cases hb:b=a
   ·exact .inr ⟨_,_,AC hb⟩
   ·exact .inl (AH hb)
  ·by_cases hb:b=a
   ·have z':=(AC hb).symm.trans z
    cases z'
    subst hb
    exact ⟨ha,by rw [AB];exact hl,vs,_,rv,ha⟩
   ·have z':=(AH hb).symm.trans z
    cases z'
  ·by_cases hb:b=a
   ·exact hb
   ·exact absurd (AH hb) z
end L2
namespace L2
open PySem PySem.Spec PyProof.Rows
end L2
namespace L2
open PySem PySem.Spec PyProof.Rows
def qe (s:Stmt):Arguments:=match s with
 | .FunctionDef _ a _ _ _ _ _ _ _ _=>a
 |_=>{ posonlyargs:=[],args:=[],vararg:=none,kwonlyargs:=[],kw_defaults:=[],kwarg:=none,defaults:=[] }
def qb (s:Stmt):List Stmt:=match s with
 | .FunctionDef _ _ b _ _ _ _ _ _ _=>b
 |_=>[]
def qH (s:Stmt):Scope:=match s with
 | .FunctionDef _ _ _ _ _ _ sc _ _ _=>sc
 |_=>{ kind := .function,names:=[],isGenerator:=false,isCoroutine:=false }
abbrev E0:XK:=fun _ _ _=>False
structure Fun (K:W.Frag) (x qual:Str) (st:Stmt) (f:Addr) (fd:FuncData):Prop where
 ex:∃ (oc:Value) (od:Option Addr) (kV doc pm:Value) (an:Option Addr) (cdv ct:Value) (osl:Array (Option Value)),
  fd=W.fnOf x qual (qe st) (qb st) (qH st) .none kV doc pm an cdv ct∧K.lookup f=some ⟨oc,od,.func fd,osl⟩∧W.codeIn K cdv qual=true
 kp:W.keepIn K (.ref f)=true
section
variable {P:Program} {w:World} {K:W.Frag} {mg:Str->Option Value} {base:Heap}
theorem Fun.binds {x qual:Str} {st:Stmt} {f:Addr} {fd:FuncData} {ps:List Str} (F:Fun K x qual st f fd)
  (h:∀ (kV doc pm:Value) (an:Option Addr) (cdv ct:Value) (us:List Value),us.length=ps.length->bindArgs (W.fnOf x qual (qe st) (qb st) (qH st) .none kV doc pm an cdv ct) ⟨us,[]⟩=pure (ps.zip us)):Binds K fd ps []:=by
 obtain ⟨oc,od,kV,doc,pm,an,cdv,ct,osl,rfl,lk,hcd⟩:=F.ex
 exact .all (h kV doc pm an cdv ct)
theorem q8 {x qual:Str} {st:Stmt} {f:Addr} {oc:Value} {od an:Option Addr} {osl:Array (Option Value)} {kV doc pm cdv ct:Value} (l:K.lookup f=some ⟨oc,od,.func (W.fnOf x qual (qe st) (qb st) (qH st) .none kV doc pm an cdv ct),osl⟩)
  (c:W.codeIn K cdv qual=true) (k:W.keepIn K (.ref f)=true):Fun K x qual st f (W.fnOf x qual (qe st) (qb st) (qH st) .none kV doc pm an cdv ct):=⟨⟨oc,od,kV,doc,pm,an,cdv,ct,osl,rfl,l,c⟩,k⟩
end
section
variable {X:Cx}
theorem pv (i:Nat) {x:Str} {pos:Pos} (hN:X.N[i]? = some x:=by rfl) (hv:Vis X.env.scope x:=by first |exact Or.inl rfl |exact Or.inr (Or.inl rfl) |exact Or.inr (Or.inr rfl)) (hd:(x==("__debug__":Str))=false:=by decide)
  (hcd:(x==("__classdict__":Str))=false:=by decide):PE X (.Name x pos) (qHp i):=qHg hN hv hd hcd
end
theorem qAA {A B:Prop} (h:B):if false=true then A else B:=by
 rw [AH Ap]
 exact h
theorem Jv {A B:Prop} (h:A):if true=true then A else B:=by
 rw [AC rfl]
 exact h
def Same (H H':Hp):Prop := ∀ b o,H b=some o->H' b=some o
theorem Same.refl (H:Hp):Same H H:=fun _ _ h=>h
end L2
end
section
namespace L2
open PySem PySem.Spec PyProof.Rows
section
variable {κ:Type} [DecidableEq κ]
def qAU (kvs:List (κ×V)) (k:κ):Option V:=(kvs.find? fun kv=>decide (kv.1=k)).map (·.2)
def zg (kvs:List (κ×V)) (k:κ) (v:V):List (κ×V) :=
 if (kvs.any fun kv=>decide (kv.1=k))=true then kvs.map (fun kv=>if kv.1=k then (kv.1,v) else kv) else kvs++[(k,v)]
theorem jg {p:κ×V} {r:List (κ×V)} {k:κ} (e:p.1=k):qAU (p::r) k=some p.2:=by simp [qAU,List.find?_cons,e]
theorem jm {p:κ×V} {r:List (κ×V)} {k:κ} (e:¬ p.1=k):qAU (p::r) k=qAU r k:=by simp [qAU,List.find?_cons,e]
theorem JR (k:κ):∀ kvs:List (κ×V),(kvs.any fun kv=>decide (kv.1=k))=(qAU kvs k).isSome
 |[]=>rfl
 |p::r=>by
  rw [List.any_cons]
  by_cases e:p.1=k
  ·simp only [jg e,AR e,Bool.true_or,Option.isSome_some]
  ·rw [jm e,AO e,Bool.false_or];exact JR k r
theorem Zw (kvs:List (κ×V)) (k:κ) (v:V):(zg kvs k v).length≤kvs.length + 1:=by
 unfold zg
 split
 ·rw [AB];omega
 ·rw [Ab,AM,BC];omega
theorem RelO.isSome_eq {o:Option V} {u:Option Value} (r:RelO o u):o.isSome=u.isSome:=by
 cases o with
 |none=>cases u with
  |none=>rfl
  |some _=>exact (show False from r).elim
 |some _=>cases u with
  |none=>exact (show False from r).elim
  |some _=>rfl
theorem KV.any {kvs:List (κ×V)} {vs:List (κ×Value)} (r:KV kvs vs) (k:κ):(kvs.any fun kv=>decide (kv.1=k))=vs.any fun kv=>decide (kv.1=k):=by
 unfold KV at r
 induction r with
 |nil=>rfl
 |cons h t ih=>rw [List.any_cons,List.any_cons,ih,h.1]
theorem KV.repl {kvs:List (κ×V)} {vs:List (κ×Value)} (r:KV kvs vs) (k:κ) {y:V} {u:Value} (ry:RelV y u) :
  KV (kvs.map fun kv=>if kv.1=k then (kv.1,y) else kv) (vs.map fun kv=>if kv.1=k then (kv.1,u) else kv):=by
 unfold KV at r ⊢
 induction r with
 |nil=>exact .nil
 | @cons p q ps qs h t ih =>
  rw [AK,AK]
  refine .cons ?_ ih
  obtain ⟨h1,h2⟩:=h
  by_cases e:p.1=k
  ·rw [AC e,AC (h1.symm.trans e)];exact ⟨h1,ry⟩
  ·rw [AH e,AH (fun z=>e (h1.trans z))];exact ⟨h1,h2⟩
theorem KV.put {kvs:List (κ×V)} {vs:List (κ×Value)} (r:KV kvs vs) (k:κ) {y:V} {u:Value} (ry:RelV y u):KV (zg kvs k y) (stored vs k u):=by
 unfold zg stored
 rw [r.any k]
 by_cases e:(vs.any fun kv=>decide (kv.1=k))=true
 ·rw [AC e,AC e];exact r.repl k ry
 ·rw [AH e,AH e];exact Paired.snoc r ⟨rfl,ry⟩
theorem KV.length {kvs:List (κ×V)} {vs:List (κ×Value)} (r:KV kvs vs):kvs.length=vs.length:=Paired.length r
end
theorem qGJ {P:Program} {w:World} {k:Key} {u:Value} (r:RelV (kV k) u):(Qo P w).is k u=true:=by
 cases k with
 |inl i=>obtain ⟨t,e⟩:=(show ∃ t,u=Value.int i t from r);subst e;exact j0 P w i t
 |inr x=>obtain ⟨t,e⟩:=(show ∃ t,u=Value.str x t from r);subst e;exact ju P w x t
theorem YZ {P:Program} {w:World}:∀ {ks:List Key} {us:List Value},Vals (ks.map kV) us->ItemsAre (Qo P w) ks us
 |[],_,r=>by rw [List.map_nil] at r;cases r;exact .nil
 |k::ks,_,r=>by
  rw [AK] at r
  cases r with
  |cons h t=>exact .cons (qGJ h) (YZ t)
abbrev KT (H:Hp):List (List Key×V)->List (List Key×Addr×Value)->Prop:=Paired fun p q=>p.1=q.1∧H q.2.1=some (.tup (p.1.map kV))∧RelV p.2 q.2.2
theorem KT.val {H:Hp} {kvs:List (List Key×V)} {xs:List (List Key×Addr×Value)} (r:KT H kvs xs) (k:List Key):RelO (qAU kvs k) ((atKey xs k).map (·.2)):=by
 induction r with
 |nil=>exact True.intro
 | @cons p q ps qs h t ih =>
  obtain ⟨h1,_,h2⟩:=h
  by_cases e:p.1=k
  ·have e':q.1=k:=h1.symm.trans e
   have b:atKey (q::qs) k=some q.2:=by simp [atKey,List.find?_cons,e']
   rw [jg e,b];exact h2
  ·have e':¬ q.1=k:=fun z=>e (h1.trans z)
   have b:atKey (q::qs) k=atKey qs k:=by simp [atKey,List.find?_cons,e']
   rw [jm e,b];exact ih
theorem KT.repl {H:Hp} {kvs:List (List Key×V)} {xs:List (List Key×Addr×Value)} (r:KT H kvs xs) (k:List Key) {y:V} {u:Value} (ry:RelV y u) :
  KT H (kvs.map fun kv=>if kv.1=k then (kv.1,y) else kv) (xs.map (putAt k u)):=by
 induction r with
 |nil=>exact .nil
 | @cons p q ps qs h t ih =>
  rw [AK,AK]
  refine .cons ?_ ih
  obtain ⟨h1,h2,h3⟩:=h
  unfold putAt
  by_cases e:p.1=k
  ·rw [AC e,AC (h1.symm.trans e)];exact ⟨h1,h2,ry⟩
  ·rw [AH e,AH (fun z=>e (h1.trans z))];exact ⟨h1,h2,h3⟩
theorem KT.put {H:Hp} {kvs:List (List Key×V)} {xs:List (List Key×Addr×Value)} (r:KT H kvs xs) (k:List Key) {b:Addr} {y:V} {u:Value} (hb:H b=some (.tup (k.map kV))) (ry:RelV y u) :
  KT H (zg kvs k y) (storedH xs k b u):=by
 have e:(kvs.any fun kv=>decide (kv.1=k))=(atKey xs k).isSome:=by
  rw [JR,(r.val k).isSome_eq,Option.isSome_map]
 unfold zg storedH
 rw [e]
 by_cases q:(atKey xs k).isSome=true
 ·rw [AC q,AC q];exact r.repl k ry
 ·rw [AH q,AH q];exact Paired.snoc r ⟨rfl,hb,ry⟩
theorem KT.keeps {H H':Hp} {kvs:List (List Key×V)} {xs:List (List Key×Addr×Value)} (r:KT H kvs xs) (ht:∀ b ys,H b=some (.tup ys)->H' b=some (.tup ys)):KT H' kvs xs :=
 Paired.mapP r fun _ _ z=>⟨z.1,ht _ _ z.2.1,z.2.2⟩
section
variable {P:Program} {w:World} {H:Hp} {h:Heap} {a:Addr}
theorem qFx {u:HO} (ok:HOk P w H h) (e:Rd H a u):ObjOk P w H h a u:=e.ok ok
theorem qIq {kvs:List (Key×V)} (ok:HOk P w H h) (e:Rd H a (.dK kvs)):kvs.length≤sizeLine∧(a==sysModules)=false ∧ ∃ vs,KV kvs vs∧h.DictOf (Qo P w) a vs :=
 show ObjOk P w H h a (.dK kvs) from qFx ok e
theorem qJD {kvs:List (Key×V)} (ok:HOk P w H h) (e:H a=some (.dK kvs)):kvs.length≤sizeLine∧(a==sysModules)=false ∧ ∃ vs,KV kvs vs∧h.DictOf (Qo P w) a vs:=qIq ok (.inl e)
theorem qCh {ks:List Key} (ok:HOk P w H h) (e:H a=some (.tup (ks.map kV))):(tupleKind (Qo P w)).is h ks a:=by
 obtain ⟨_,its,r,o,h1,h2,n,h3⟩:=(show ObjOk P w H h a (.tup (ks.map kV)) from ok a _ e)
 exact ⟨o,its.toArray,n,h1,h2,h3,by simpa using YZ r⟩
theorem qJC {kvs:List (List Key×V)} (ok:HOk P w H h) (e:Rd H a (.dT kvs)):kvs.length≤sizeLine∧(a==sysModules)=false ∧
  ∃ xs,KT H kvs xs∧h.DictOfH (tupleKind (Qo P w)) a xs:=by
 obtain ⟨z,y,xs,r,o,es,ep,h1,h2,h3,h4,h5⟩:=(show ObjOk P w H h a (.dT kvs) from qFx ok e)
 refine ⟨z,y,xs,r,o,es,ep,h1,h2,h3,h4,fun x hx => ?_,h5⟩
 have all:∀ {l:List (List Key×V)} {m:List (List Key×Addr×Value)},KT H l m -> ∀ x∈m,(tupleKind (Qo P w)).is h x.1 x.2.1:=by
  intro l m q
  induction q with
  |nil=>intro x hx;exact nomatch hx
  | @cons p q ps qs hq t ih =>
   intro x hx
   rcases AL.mp hx with e |hx
   ·subst e
    exact qCh ok (by rw [← hq.1];exact hq.2.1)
   ·exact ih x hx
 exact all r x hx
theorem qIc {kvs:List (List Key×V)} (ok:HOk P w H h) (e:H a=some (.dT kvs)):kvs.length≤sizeLine∧(a==sysModules)=false ∧
  ∃ xs,KT H kvs xs∧h.DictOfH (tupleKind (Qo P w)) a xs:=qJC ok (.inl e)
end
def DPut (H:Hp) (a:Addr) (y v:V) (H':Hp):Prop :=
 (∃ kvs k,H a=some (.dK kvs)∧y=kV k∧kvs.length < sizeLine∧H'=upd H a (.dK (zg kvs k v))) ∨
 ∃ kvs k b,H a=some (.dT kvs)∧y = .ref b∧H b=some (.tup (k.map kV))∧kvs.length < sizeLine∧H'=upd H a (.dT (zg kvs k v))
theorem DPut.t {H:Hp} {a b:Addr} {kvs:List (List Key×V)} {k:List Key} {v:V} (e:H a=some (.dT kvs)) (eb:H b=some (.tup (k.map kV))) (hl:kvs.length < sizeLine) :
  DPut H a (.ref b) v (upd H a (.dT (zg kvs k v))) := .inr ⟨kvs,k,b,e,rfl,eb,hl,rfl⟩
section
variable {X:Cx} {pins:List (Addr×Obj)} {σ:St} {H:Hp} {s:Shared} {a:Addr} {y v:V} {u r:Value} {o:Option V} {A:Around} {E:Value->Shared->Prop}
theorem Inv.big (I:Inv X pins σ H s):sysModules < s.heap.objs.size:=by
 have h:mainGlobals < s.heap.objs.size:=(I.mod.glob.keeps I.bk).lt
 exact Nat.lt_trans (by decide) h
theorem qAt {h':Heap} {t':Nat} {ob:HO} (I:Inv X pins σ H s) (mu:Mut (H a)) (hs:Heap.SameBut a s.heap h') (he:∃ q,h'.get? a=some q) (new:ObjOk X.prog X.w (upd H a ob) h' a ob) :
  Inv X pins σ (upd H a ob) { s with heap:=h',toks:=t' } :=
 I.write (x:=a) (e:=a) mu (.inl rfl) (fun b q hb z=>(hs.2 b hb).trans z) he new
theorem qHX {P:Program} {w:World} {H':Hp} {h':Heap} {kvs:List (Key×V)} {vs:List (Key×Value)} (z:kvs.length≤sizeLine) (hd:(a==sysModules)=false) (rel:KV kvs vs) (dd:h'.DictOf (Qo P w) a vs) :
  ObjOk P w H' h' a (.dK kvs):=⟨z,hd,vs,rel,dd⟩
theorem qBo {H':Hp} {Q:Unit->Shared->Prop} (hu:A.units + 1 < cLine) (I:Inv X pins σ H s) (g:DPut H a y v H') (ry:RelV y u) (rv:RelV v r) (h:∀ s',Inv X pins σ H' s'->Q () s') :
  wpAny (model X.prog X.w) A (setItem (.ref a) u r) Q E s:=by
 rcases g with ⟨kvs,k,e,ey,l,eH⟩ |⟨kvs,k,b,e,ey,eb,l,eH⟩
 ·subst ey eH
  obtain ⟨z,hd,vs,rel,dd⟩:=qJD I.hok e
  have hz:vs.length≤sizeLine:=by rw [← rel.length];exact z
  have hl:(zg kvs k v).length≤sizeLine:=by have:=Zw kvs k v;omega
  refine wpAny_setItem_pairs (hsz:=hz) (qGJ ry) dd fun h' dd' hs=>h _ ?_
  have he:∃ q,h'.get? a=some q:=let ⟨q,_,_,hq,_⟩:=dd';⟨q,hq⟩
  exact qAt I (by rw [e];exact True.intro) hs he (qHX hl hd (rel.put k rv) dd')
 ·subst ey eH
  cases (show u=Value.ref b from ry)
  obtain ⟨z,hd,xs,rel,dd⟩:=qIc I.hok e
  have hz:xs.length≤sizeLine:=by rw [← Paired.length rel];exact z
  have hl:(zg kvs k v).length≤sizeLine:=by have:=Zw kvs k v;omega
  refine wpAny_setItem_heap (hsz:=hz) (tupleKind_room_in1 hu) (qCh I.hok eb) dd fun h' dd' hs=>h _ ?_
  obtain ⟨q,es,ep,hq,h2,h3,h4,_,h5⟩:=dd'
  refine qAt I (by rw [e];exact True.intro) hs ⟨q,hq⟩ ⟨hl,hd,_,(rel.put k eb rv).keeps fun c ys ec => ?_,q,es,ep,hq,h2,h3,h4,h5⟩
  rw [qP (qIQ ec e (fun z=>nomatch z))]
  exact ec
end
def qH7 (td ty tv:TE):TS:=fun D σ H=>tv σ H fun v H1=>td σ H1 fun x H2=>ty σ H2 fun y H3 => ∃ a H4,x = .ref a∧DPut H3 a y v H4∧D.nx σ H4
section
variable {X:Cx} {o i e value:Expr} {pos pos' tpos:Pos} {td ty tv:TE}
theorem qFC (hu:X.A.units + 1 < cLine) (ho:PE X o td) (hi:PE X i ty) (hv:PE X value tv) (hs:swapsWith value (some (.Subscript o i pos')) pos.line X.env=pure false) :
  PS X (.Assign [.Subscript o i pos'] value pos) (qH7 td ty tv):=by
 intro pins s σ H D I h
 refine wpAny_Assign_Subscript (thn (hv pins s σ H _ I h) fun r s1 ⟨v,H1,I1,rv,q1⟩=>thn (ho pins s1 σ H1 _ I1 q1) fun u s2 ⟨x,H2,I2,rx,q2⟩=>thn (hi pins s2 σ H2 _ I2 q2) fun iv s3 ⟨y,H3,I3,ry,a,H4,ex,g,q3⟩ => ?_) hs
 subst ex
 obtain rfl:u=Value.ref a:=rx
 exact qBo hu I3 g ry rv fun s4 I4=>⟨σ,H4,I4,q3⟩
end
theorem qCz {P:Program} {w:World} {H:Hp} (h:Heap) (hb:sysModules < h.objs.size):ObjOk P w H (h.push { cls := .type "dict",data := .dict #[] }) h.objs.size (.dT []) :=
 ⟨BG _,BM.mpr (Ne.symm (AU hb)),[],.nil,_,#[],0,AT _ rfl,⟨rfl,rfl,rfl⟩,rfl,rfl,Bc⟩
def qGh:TE:=fun _ H Q => ∀ p,H p=none->Q (.ref p) (upd H p (.dT []))
section
variable {X:Cx} {pos:Pos}
theorem qD4:PE X (.Dict [] [] pos) qGh:=fun pins s σ H Q I h =>
 wpAny_Dict_empty ⟨.ref s.heap.objs.size,_,I.laid (a:=s.heap.objs.size) (o := .dT []) (t':=s.toks) (fun _ _ q=>AF _ q) (AI _) (qCz s.heap I.big),rfl,h _ (I.hok.fresh (AI _))⟩
end
end L2
namespace L2
open PySem PySem.Spec PyProof.Rows
end L2
end
section
namespace EX
open PySem PySem.Spec PyProof.Rows
def Trc (h B:Heap) (e:Addr) (cls:Value) (dd:Option Addr) (fl:Value):Prop :=
 ∃ oe vs T oT ts,h.get? e=some oe∧oe.cls=cls∧oe.dict=dd∧oe.data = .fields vs∧vs[1]? = some (Value.ref T)∧vs[2]? = some Value.none∧B.get? T=none∧T≠e∧h.get? T=some oT∧oT.data = .fields ts∧ts[3]? = some fl
def Fly (B:Heap) (l:List Env) (e:Addr) (cls:Value) (dd:Option Addr) (fl:Value) (h:Heap):Prop:=B.StaysIn h∧B.get? e=none∧h.FunFrames B l∧Trc h B e cls dd fl
theorem Fly.tail {B h:Heap} {env:Env} {l:List Env} {e:Addr} {cls fl:Value} {dd:Option Addr} (x:Fly B (env::l) e cls dd fl h):Fly B l e cls dd fl h:=⟨x.1,x.2.1,x.2.2.1.2.2,x.2.2.2⟩
section
variable {M:Model} {A:Around} {E:Value->Shared->Prop} {s:Shared} {B:Heap} {env:Env} {outer:List Env} {L e:Addr} {cls:Value} {dd:Option Addr} {Q:Unit->Shared->Prop}
theorem qDk {oe:Obj} {vs:Array Value} {head:Value} {nx:Bool} (f1:A.frames=some (env::outer)) (f2:s.heap.FunFrames B (env::outer)) (f3:env.frame=some L) (k1:B.StaysIn s.heap) (k2:B.get? e=none)
  (g1:s.heap.get? e=some oe) (g2:oe.data = .fields vs) (g3:1 < vs.size) (g4:vs[2]? = some Value.none) (h:∀ h',Fly B (env::outer) e oe.cls oe.dict (rawInt L) h'->s.heap.UpToSlots h'->Q () { s with heap:=h' }) :
  wpAny M A (do let a ← frameOf env;let pl ← entryPlaceOf L nx;let b ← EntryCells.newEntry head a .none (rawInt L) .none pl;setField (.ref e) 1 b) Q E s:=by
 have nfr:e ∉ (env::outer).filterMap (·.frame):=fun hm=>by
  obtain ⟨_,o,ho,hnf⟩:=f2.mem hm
  rw [g1] at ho;cases ho;exact hnf vs g2
 refine AA (wpAny_frameOf_fun f1 f2 f3 fun h1 so=>AA (wpAny_entryPlaceOf fun pl hpl => ?_))
 unfold EntryCells.newEntry newFields
 refine AA (Au ?_ (hpl.sizeOk5 _ _ _ _ _))
 generalize hts:([head,Value.ref L,.none,rawInt L,.none]++(if pl.isEmpty then List.replicate 6 Value.none else pl)).toArray=ts
 have ht3:ts[3]? = some (rawInt L):=by rw [← hts];first |(simp;done) |(rcases hpl with rfl |⟨_,_,_,_,_,_,_,rfl⟩ <;> simp)
 have a1:h1.get? e=some oe:=(so.2.1 e nfr).trans g1
 have kb:B.StaysIn h1:=fun b o q=>(so.2.1 b fun hm=>by rw [(f2.mem hm).1] at q;cases q).trans (k1 b o q)
 have a2:=AF (h:=h1) { cls := .type "traceback",dict:=none,data := .fields ts } a1
 refine BH a2 g2 g3 (h _ ?_ ?_)
 ·have ne1:h1.objs.size≠e:=B5 (AJ a1)
  have d3:=BE g2 (·.setIfInBounds 1 (Value.ref h1.objs.size))
  have a3:=A4 (Obj.mapFields (·.setIfInBounds 1 (Value.ref h1.objs.size))) a2 (Bh d3)
  have a4:=(AZ (h1.push { cls := .type "traceback",dict:=none,data := .fields ts }) (Obj.mapFields (·.setIfInBounds 1 (Value.ref h1.objs.size))) (Ne.symm ne1)).trans (AT h1 rfl)
  have kp:∀ b o,b≠e->h1.get? b=some o->((h1.push { cls := .type "traceback",dict:=none,data := .fields ts }).update e (Obj.mapFields (·.setIfInBounds 1 (Value.ref h1.objs.size)))).get? b=some o:=fun b o hb q =>
   (AZ _ _ (Ne.symm hb)).trans (AF _ q)
  refine ⟨fun b o q=>kp b o (fun z=>by rw [z,k2] at q;cases q) (kb b o q),k2,f2.of_keeps fun b o q nf => ?_,_,_,h1.objs.size,_,ts,a3,Obj.cls_mapFields _ _,?_,d3,?_,?_,kb.fresh,ne1,a4,rfl,ht3⟩
  ·obtain ⟨sl,q2⟩:=so.2.2 b o q
   exact ⟨_,kp b _ (fun z=>by rw [z,g1] at q;cases q;exact nf vs g2) q2,rfl⟩
  ·obtain ⟨c,d,dt,sl⟩:=oe
   have g2:dt = .fields vs:=g2
   subst g2;rfl
  ·simp [g3]
  ·rw [Array.getElem?_setIfInBounds_ne (by decide)];exact g4
 ·intro b o q nf
  have hb:b≠e:=fun z=>by rw [z,g1] at q;cases q;exact nf vs g2
  obtain ⟨sl,q2⟩:=so.2.2 b o q
  exact ⟨sl,(AZ _ _ (Ne.symm hb)).trans (AF _ q2)⟩
theorem qBw (f1:A.frames=some (env::outer)) (f3:env.frame=some L) (x:Fly B (env::outer) e cls dd .none s.heap) (h:∀ h',Fly B (env::outer) e cls dd (rawInt L) h'->s.heap.UpToSlots h'->Q () { s with heap:=h' }) :
  wpAny M A (noteFrame (.ref e) env) Q E s:=by
 obtain ⟨k1,k2,f2,oe,vs,T,oT,ts,g1,rfl,rfl,g2,g3,g4,t1,t2,t3,t4,t5⟩:=x
 unfold noteFrame
 simp only [f3]
 refine AA (Ax g1 g2 g3 ?_)
 rw [AC (show (Value.ref T != Value.none)=true by simp)]
 refine AA (Ax t3 t4 t5 ?_)
 rw [AH (show ¬ ((Value.none==rawInt L)=true) by simp [rawInt])]
 refine AA (BH t3 t4 (Bl.mp t5).1 ?_)
 have ot:∀ b,b≠T->(s.heap.update T (Obj.mapFields (·.setIfInBounds 3 Value.none))).get? b=s.heap.get? b:=fun b hb=>AZ _ _ (Ne.symm hb)
 have nr:∀ b o,s.heap.get? b=some o->(∀ us,o.data ≠ .fields us)->b≠T:=fun b o q nf z=>by rw [z,t3] at q;cases q;exact nf ts t4
 refine qDk f1 (f2.of_keeps fun b o q nf=>⟨o,(ot b (nr b o q nf)).trans q,rfl⟩) f3 (fun b o q=>(ot b fun z=>by rw [z,t1] at q;cases q).trans (k1 b o q)) k2 ((ot e (Ne.symm t2)).trans g1) g2 (Bl.mp g3).1 g4 fun h' x u=>h h' x fun b o q nf => ?_
 exact u b o ((ot b (nr b o q nf)).trans q) nf
theorem qIk {l:List Env} {fl:Value} (x:Fly B l e cls dd fl s.heap) (h:∀ h',Fly B l e cls dd .none h'->s.heap.UpToSlots h'->Q () { s with heap:=h' }):wpAny M A (setFlight (.ref e) none) Q E s:=by
 obtain ⟨k1,k2,f2,oe,vs,T,oT,ts,g1,g0,g00,g2,g3,g4,t1,t2,t3,t4,t5⟩:=x
 have t6:3 < ts.size:=(Bl.mp t5).1
 have ot:∀ b,b≠T->(s.heap.update T (Obj.mapFields (·.setIfInBounds 3 ((none:Option Addr).elim Value.none fun f=>rawInt f)))).get? b=s.heap.get? b:=fun b hb=>AZ _ _ (Ne.symm hb)
 have nr:∀ b o,s.heap.get? b=some o->(∀ us,o.data ≠ .fields us)->b≠T:=fun b o q nf z=>by rw [z,t3] at q;cases q;exact nf ts t4
 unfold setFlight
 refine AA (Ax g1 g2 g3 ?_)
 rw [AC (show (Value.ref T != Value.none)=true by simp)]
 refine BH t3 t4 t6 (h _ ⟨fun b o q=>(ot b fun z=>by rw [z,t1] at q;cases q).trans (k1 b o q),k2,f2.of_keeps fun b o q nf=>⟨o,(ot b (nr b o q nf)).trans q,rfl⟩,?_⟩ fun b o q nf=>⟨o.slots,(ot b (nr b o q nf)).trans q⟩)
 exact ⟨oe,vs,T,_,_,(ot e (Ne.symm t2)).trans g1,g0,g00,g2,g3,g4,t1,t2,A4 _ t3 (Bh (BE t4 _)),BE t4 _,by simp [t6]⟩
theorem Jk (f1:A.frames=some (env::outer)) (f3:env.frame=some L) (x:Fly B (env::outer) e cls dd .none s.heap) (h:∀ h',Fly B outer e cls dd .none h'->s.heap.UpToSlots h'->Q () { s with heap:=h' }) :
  wpAny M A (leaving env (.ref e)) Q E s:=by
 unfold leaving
 exact AA (qBw f1 f3 x fun h1 x1 u1=>qIk x1 fun h2 x2 u2=>h h2 x2.tail (u1.trans u2))
end
end EX
end
section
namespace EX
open PySem PySem.Spec PyProof.Rows L2
structure UnB (fs:List Addr) (H H1:Hp) (h B:Heap):Prop where
 keep:∀ b o,h.get? b=some o->H b=none->b ∉ fs->B.get? b=some o
 free:∀ b o,h.get? b=some o->H b=none->H1 b=none
 there:∀ b o,h.get? b=some o->b ∉ fs -> ∃ o',B.get? b=some o'
 tups:∀ b xs,H b=some (.tup xs)->H1 b=some (.tup xs)
 frzs:∀ b o u,H b=some (.frz o u)->H1 b=some (.frz o u)
 tbls:∀ b ps,H b=some (.tbl ps) -> ∃ more,H1 b=some (.tbl (ps++more))
def CXF (P:Program) (w:World):CXT:=fun outer H s E e s' =>
 ∃ ea cls dd B H1,e=Value.ref ea∧Fly B outer ea cls dd .none s'.heap∧HOk P w H1 B∧s'.os=s.os∧AllBare s'.gens∧UnB (frs outer) H H1 s.heap B ∧
  (∀ b∈frs outer,∀ o,s.heap.get? b=some o -> ∃ sl,s'.heap.get? b=some { o with slots:=sl })∧E cls dd H1
theorem qEZ {env:Env} {outer:List Env} {L:Addr} (h:env.frame=some L):frs (env::outer)=L::frs outer:=by
 unfold frs;rw [CK,h]
section
variable {P:Program} {w:World} {K:W.Frag} {mg:Str->Option Value} {base:Heap} {N:List Str} {qual:Str} {scope:Scope} {f:Addr} {cd:Value} {A:Around} {outer:List Env} {s₀:Shared} {H₀:Hp} {E:XK}
theorem qm:ZQ (CXF P w) (Wg (CXF P w) P w K mg base N qual scope f cd A outer s₀ H₀ E) E:=by
 intro pins σ H s e s' I c
 obtain ⟨ea,cls,dd,B,H1,rfl,fl,hok,os,bare,un,sl,q⟩:=c
 have hfr:(envOfC qual scope s₀.heap.objs.size f cd).frame=some s₀.heap.objs.size:=rfl
 have ef:frs (Wg (CXF P w) P w K mg base N qual scope f cd A outer s₀ H₀ E).stack=s₀.heap.objs.size::frs outer:=qEZ hfr
 have Ib:Un (frs outer) [] H₀ H s₀.heap s.heap:=I.base
 have ne:∀ b o,s₀.heap.get? b=some o->b≠s₀.heap.objs.size:=fun b o e=>AU (AJ e)
 refine Jk I.ok.frames hfr fl fun h' x u=>⟨ea,cls,dd,B,H1,rfl,x,hok,os.trans I.os,bare,?_,fun b hb o e => ?_,q⟩
 ·refine ⟨fun b o e n hb => ?_,fun b o e n => ?_,fun b o e hb => ?_,fun b xs e=>un.tups b xs (Ib.tups b xs e),fun b o u e=>un.frzs b o u (Ib.frzs b o u e),fun b ps e => ?_⟩
  ·exact un.keep b o (Ib.keep b o e n hb (by simp)) (Ib.free b o e n (by simp)) (by rw [ef];intro z;exact (AL.mp z).elim (ne b o e) hb)
  ·obtain ⟨o',e'⟩:=Ib.there b o e (by simp)
   exact un.free b o' e' (Ib.free b o e n (by simp))
  ·obtain ⟨o',e'⟩:=Ib.there b o e (by simp)
   exact un.there b o' e' (by rw [ef];intro z;exact (AL.mp z).elim (ne b o e) hb)
  ·obtain ⟨m1,e1⟩:=Ib.tbls b ps e
   obtain ⟨m2,e2⟩:=un.tbls b _ e1
   exact ⟨m1++m2,by rw [e2,Array.append_assoc]⟩
 ·obtain ⟨sl1,e1⟩:=Ib.slot b o e (I.ok.frf b hb) hb (by simp)
  obtain ⟨sl2,e2⟩:=sl b (by rw [ef];exact AG _ hb) _ e1
  have nf:∀ vs,o.data ≠ .fields vs:=by
   obtain ⟨_,o2,ho2,nf⟩:=I.ok.funs.mem hb
   have e:(Wg (CXF P w) P w K mg base N qual scope f cd A outer s₀ H₀ E).s₀.heap.get? b=some o:=e
   rw [e] at ho2;cases ho2;exact nf
  obtain ⟨sl3,e3⟩:=u b _ e2 nf
  exact ⟨sl3,e3⟩
end
section
variable {prog:Program} {w:World} {A:Around} {E:Value->Shared->Prop} {s:Shared} {K:W.Frag} {x D:Addr} {ox:Obj} {od:Option Obj}
structure ExcK (K:W.Frag) (D:Addr):Prop where
 ga:W.findIn K (.ref D) "__getattribute__" = some (some (.builtin "BaseException.__getattribute__"))
 gn:W.findIn K (.ref D) "__getattr__" = some none
 fo:∀ od,W.findObj K D od "__class__" = some (.bind (.builtin "getset_descriptor.__get__") (.builtin "object.__class__"))
 mo:W.mroIn K D (.type "object")=some true
 mb:W.mroIn K D (.type "BaseException")=some true
theorem qB0 {Q:Option Value->Shared->Prop} (C:ExcK K D) (X:K.In s.heap) (I:W.InstAt s.heap x ox D od) (h:Q (some (.ref D)) { s with toks:=s.toks + 1 }):wpAny (model prog w) A (getAttr? (.ref x) "__class__") Q E s:=by
 obtain ⟨hh,g,d,t,os⟩:=s
 have L0:=I.type (M:=model prog w)
 have L1:=W.looks_findIn (M:=model prog w) X C.ga
 have L2:=W.looks_findIn (M:=model prog w) X C.gn
 have L3:=W.looks_find (M:=model prog w) X I (C.fo od)
 have L4:=W.looks_mroIn (M:=model prog w) X C.mb
 have LI:W.Looks (model prog w) hh (isInstance (.ref x) (.type "BaseException")) true:=L0.andThen L4
 have f3:=F.attr_ValueError.ga.bind (.ref x)
 unfold getAttr? getAttrBy? getAttrBy
 refine AA (wpAny_mkText (AA (Bx (As (AA (L0.at (AA (L1.at ?_))))))))
 show wpAny _ _ (getAttrByItsOwn _ _ _ _ _ _) _ _ _
 unfold getAttrByItsOwn
 refine AA (L2.at (AA (Bx (As ?_))))
 show wpAny _ _ (boundAndCalled _ _ _) _ _ _
 unfold boundAndCalled
 refine AA (B2 f3 ?_)
 refine wpAny_call (codeAny_call_builtin F.attr_ValueError.ga.plain F.entry_bexc_ga ?_)
 have hk:builtinKind "BaseException.__getattribute__" = some .slot:=by decide +kernel
 have hsp:splitId "BaseException.__getattribute__" = some ("BaseException","__getattribute__"):=by decide +kernel
 have ha:=F.args_bexc_ga (.ref x) (.str "__class__" t)
 simp only [checkBuiltinCall,hk,hsp]
 refine AA (LI.at ?_)
 rw [AH (show ¬ ((!true)=true) by decide)]
 refine B2 (a:=()) ha ?_
 show wpAny _ A.in1 (Builtin.«object.__getattribute__» ⟨[.ref x,.str "__class__" t],[]⟩) _ _ _
 unfold Builtin.«object.__getattribute__»
 refine AA (AE ?_)
 refine AA (AE ?_)
 refine AA (L0.at (AA (L3.at ?_)))
 show wpAny _ A.in1 (holding [Value.builtin "object.__class__"] (call (.builtin "getset_descriptor.__get__") [.builtin "object.__class__",.ref x,.ref D]) >>= ret) _ _ _
 refine AA (As (wpAny_call (W.class_get X I C.mo ?_)))
 exact AE (AE (AE h))
end
section
variable {X:Cx} {pins:List (Addr×Obj)} {σ:L2.St} {H:Hp} {s:Shared} {xe:Value->Shared->Prop}
theorem got {P:Program} {w:World} {H:Hp} {h:Heap} {a:Addr} {o:HO} (x:ObjOk P w H h a o):∃ u,h.get? a=some u:=by
 cases o with
 |lst xs=>obtain ⟨_,_,_,_,e⟩:=x;exact ⟨_,e⟩
 |tup xs=>obtain ⟨_,_,_,o,e,_⟩:=x;exact ⟨_,e⟩
 |dK kvs=>obtain ⟨_,_,_,_,o,_,_,e,_⟩:=x;exact ⟨_,e⟩
 |dT kvs=>obtain ⟨_,_,_,_,o,_,_,e,_⟩:=x;exact ⟨_,e⟩
 |set S n=>obtain ⟨o,_,_,_,e,_⟩:=x;exact ⟨_,e⟩
 |ins C dx fs=>obtain ⟨_,_,_,e,_⟩:=x;exact ⟨_,e⟩
 |own y=>exact x
 |xd fs=>obtain ⟨_,⟨_,_,_,e,_⟩,_⟩:=x;exact ⟨_,e⟩
 |rng lo hi=>obtain ⟨_,_,_,e⟩:=x;exact ⟨_,e⟩
 |frz ob u=>obtain ⟨e,_⟩:=x;exact ⟨_,e⟩
 |tbl ps=>exact ⟨_,x⟩
 |met f y=>exact ⟨_,x⟩
 |ext φ=>obtain ⟨_,e,_⟩:=x;exact e
end
def ye (A:Around):List Addr:=match A.handled with
 |some (.ref ea)=>[ea]
 |_=>[]
theorem Hnd.frame {A:Around} {h h':Heap} (x:Hnd A h) (k:∀ b∈ye A,∀ o,h.get? b=some o->h'.get? b=some o):Hnd A h':=fun v hv=>by
 obtain ⟨ea,oe,vs,e1,e2,e3⟩:=x v hv
 subst e1
 exact ⟨ea,oe,vs,rfl,k ea (by unfold ye;rw [hv];simp) oe e2,e3⟩
theorem qIE {A:Around} {I:Addr} (hI:∀ ea∈ye A,ea≠I):∀ v,A.handled=some v->v ≠ .ref I:=fun v hv z=>by
 subst z
 exact hI I (by unfold ye;rw [hv];simp) rfl
theorem qAl {prog:Program} {w:World} {A:Around} (I ax:Addr) (hne:ax≠I) (items:Array Value) (hI:∀ ea∈ye A,ea≠I) :
  Walks prog w A I (I::ax::ye A) [I] items.size (fun i v=>items[i]? = some v) (fun i h=>(h.IsListIter I ax i∧h.IsList ax items)∧Hnd A h) where
 sub:=fun b hb=>by simp at hb;simp [hb]
 frame:=fun _ _ _ st hk=>⟨⟨st.1.1.at fun o e=>hk I (by simp) o e,st.1.2.at fun o e=>hk ax (by simp) o e⟩,st.2.frame fun b hb o e=>hk b (by simp [hb]) o e⟩
 item:=fun i s Q E hi st hQ=>wpAny_pyNext_list_item st.1.1 st.1.2 (x:=items[i]) (by simp [hi]) fun h' z1 z2 =>
  hQ _ h' s.toks (by simp [hi]) ⟨⟨z1,st.1.2.extBut z2.extBut hne⟩,st.2.frame fun b hb o e=>(z2.2 b (hI b hb)).trans e⟩ fun b o hb e=>z2.extBut b o (fun h=>hb (by simp [h])) e
 done:=fun s Q E st hQ=>list_end st.2 st.1.1 st.1.2 (by simp) (qIE hI) fun h' z=>hQ h' s.toks fun b o hb e=>z b o (fun h=>hb (by simp [h])) e
 self:=fun _ _ _ _ st hQ=>wpAny_pyIter_listiter st.1.1 hQ
section
variable {X:Cx} {pins:List (Addr×Obj)} {σ:L2.St} {H:Hp} {s:Shared}
theorem qI9 (I:L2.Inv X pins σ H s):∀ ea∈ye X.A,ea≠s.heap.objs.size:=fun ea hea=>by
 have hd:X.A.handled=some (.ref ea):=by
  unfold ye at hea
  split at hea
  ·rename_i a ha;rw [AY.mp hea];exact ha
  ·cases hea
 obtain ⟨a,oe,vs,e1,e2,_⟩:=I.hndH _ hd
 cases e1
 exact AU (AJ e2)
theorem Zd (I:L2.Inv X pins σ H s) {p:Addr} {its:List Value} (pl:PlainL s.heap p its.toArray) {E:Value->Shared->Prop} {Q:Value->Shared->Prop}
  (h:Walks X.prog X.w X.A.in1 s.heap.objs.size (s.heap.objs.size::p::ye X.A) [s.heap.objs.size] its.toArray.size (fun i v=>its.toArray[i]? = some v) (fun i h=>(h.IsListIter s.heap.objs.size p i∧h.IsList p its.toArray)∧Hnd X.A.in1 h) ->
   ((s.heap.push { cls := .type "list_iterator",data := .fields #[.ref p,.int 0 0] }).IsListIter s.heap.objs.size p 0∧(s.heap.push { cls := .type "list_iterator",data := .fields #[.ref p,.int 0 0] }).IsList p its.toArray)∧Hnd X.A.in1 (s.heap.push { cls := .type "list_iterator",data := .fields #[.ref p,.int 0 0] }) ->
   (∀ b∈s.heap.objs.size::p::ye X.A,b < (s.heap.push { cls := .type "list_iterator",data := .fields #[.ref p,.int 0 0] }).objs.size) ->
   (∀ h':Heap,(∀ b o,b ∉ [s.heap.objs.size]->(s.heap.push { cls := .type "list_iterator",data := .fields #[.ref p,.int 0 0] }).get? b=some o->h'.get? b=some o) -> ∀ b o,s.heap.get? b=some o->h'.get? b=some o) ->
   Q (.ref s.heap.objs.size) { s with heap:=s.heap.push { cls := .type "list_iterator",data := .fields #[.ref p,.int 0 0] } }) :
  wpAny (model X.prog X.w) X.A.in1 (pyIter (.ref p)) Q E s:=by
 obtain ⟨ob,po,_⟩:=id pl.isList
 have hlt:p < s.heap.objs.size:=AJ po
 refine wpAny_pyIter_list pl.isList (h (qAl _ p (AU hlt) _ (qI9 I)) ⟨⟨⟨_,AT _ rfl,rfl,rfl⟩,pl.isList.at fun o e=>AF _ e⟩,?_⟩ (fun b hb => ?_) fun h' k b o e => ?_)
 ·exact Hnd.frame (show Hnd X.A.in1 s.heap from I.hndH) fun b _ o e=>AF _ e
 ·rw [A9]
  rcases AL.mp hb with rfl |hb
  ·exact Nat.lt_succ_self _
  ·rcases AL.mp hb with rfl |hb
   ·exact BB hlt
   ·have hd:X.A.handled=some (.ref b):=by
     unfold ye at hb
     split at hb
     ·rename_i a ha;rw [AY.mp hb];exact ha
     ·cases hb
    obtain ⟨a,oe,vs,e1,e2,_⟩:=I.hndH _ hd
    cases e1
    exact BB (AJ e2)
 ·exact k b o (by simp;exact AU (AJ e)) (AF _ e)
theorem qA0:∀ {bs:List Bool} {us:List Value},Vals (bs.map V.bl) us->us=bs.map Value.bool
 |[],_,.nil=>rfl
 |b::bs,_,.cons r t=>by rw [show _=Value.bool b from r,qA0 t];rfl
theorem yk:∀ {ns:List Int} {us:List Value} {i:Nat} {v:Value},Vals (ns.map V.int) us->us[i]? = some v -> ∃ t,v=Value.int (ns.getD i 0) t
 |[],_,_,_,.nil,e=>by simp at e
 |n::ns,_,0,_,.cons r t,e=>by simp at e;subst e;exact r
 |n::ns,_,i + 1,v,.cons r t,e=>by simpa using yk (i:=i) t (by simpa using e)
theorem qDs {prog:Program} {w:World} {A:Around} {bs:List Bool}:TruthOf prog w A (fun i v=>(bs.map Value.bool).toArray[i]? = some v) (fun i=>bs.getD i false):=fun i v s Q E hP hQ=>by
 have hP:(bs.map Value.bool).toArray[i]? = some v:=hP
 rw [List.getElem?_toArray,Ac] at hP
 cases e:bs[i]? with
 |none=>rw [e] at hP;cases hP
 |some b =>
  rw [e] at hP;cases hP
  have hQ:Q (bs.getD i false) s:=hQ
  rw [Af,e] at hQ
  exact AE hQ
theorem qCN (bs:List Bool):(List.range bs.length).all (fun i=>bs.getD i false)=bs.all id:=by
 induction bs with
 |nil=>rfl
 |cons b bs ih =>
  rw [AM,List.range_succ_eq_map,List.all_cons,List.all_map,List.all_cons]
  have:(((fun i=>(b::bs).getD i false) ∘ Nat.succ))=fun i=>bs.getD i false:=by funext i;simp
  rw [this,ih];simp
theorem qCE:wz X (.builtin "all") (fun xs H Q => ∃ (p:Addr) (bs:List Bool),xs=[.ref p]∧SqL X.K H p (bs.map V.bl)∧Q (.bl (bs.all id)) H):=by
 intro pins s σ H xs us Q I r h
 obtain ⟨p,bs,rfl,hq,q⟩:=h
 obtain ⟨u,rfl,rx⟩:=ZA r
 cases rx
 obtain ⟨its,r',pl,hz⟩:=I.list hq
 have e:=qA0 r'
 subst e
 refine call_all_walk (Zd I pl fun W st fp k=>⟨_,_,_,_,_,_,_,rfl,W,st,qDs,fun h' tk hk => ?_⟩)
 rw [show (bs.map Value.bool).toArray.size=bs.length by simp,qCN]
 exact ⟨.bl _,H,I.kept (k h' hk),rfl,q⟩
end
theorem qCf {K:W.Frag} {x D:Addr} (C:ExcK K D):W.KitX K (.ref x) (.ref D) (fun h => ∃ ox od,W.InstAt h x ox D od):=by
 obtain ⟨cd,hcd,_⟩:=Option.bind_eq_some_iff.mp (C.fo none)
 unfold W.clsIn at hcd
 split at hcd
 ·rename_i c' d' cd' sl' ho
  refine ⟨fun _ _ _ ⟨ox,od,I⟩=>I.type,fun M h X p => ?_,fun h tp dd its n sl X htp => ?_,fun {prog w A E Q s} X ⟨ox,od,I⟩ k=>qB0 C X I k⟩
  ·intro A' Q' E' s' k q
   unfold isType loadHead
   exact AA (wpAny_loadPart (k _ _ (X _ _ ho)) (AE q))
  ·refine Bool.eq_false_iff.mpr fun q => ?_
   have e:D=tp:=Value.ref.inj (A7.mp q)
   subst e
   have z:=(X _ _ ho).symm.trans htp
   cases z
 ·cases hcd
end EX
end
section
namespace EV
open PySem PySem.Spec PyProof.Rows L2
inductive PV where
 |non |bl (b:Bool) |int (i:Int) |str (x:Str) |tup (l:List PV) |lst (l:List PV) |ref (i:Nat) |dct |ty (n:String) |fn (a:Addr) |exc (c:Addr) (fs:List (Str×Int))
inductive SO where
 |l (xs:List PV)
 |d (kvs:List (List L2.Key×PV))
 |z (kvs:List (List L2.Key×PV))
abbrev qB:=List SO
structure Exc where
 cls:Addr
 fs:List (Str×Int)
inductive Rs (α:Type) where
 |ok (a:α) (st:qB) |ex (x:Exc) (st:qB) |no
def Rs.bind {α β:Type} (r:Rs α) (k:α->qB->Rs β):Rs β:=match r with
 | .ok a st=>k a st
 | .ex x st => .ex x st
 | .no => .no
abbrev qh:=List (Option PV)
abbrev FE:=qh->qB->Rs PV
abbrev FA:=qh->qB->Rs (List PV)
abbrev FT:=qh->qB->Rs Bool
inductive RS where
 |nx (e:qh) (st:qB) |rt (v:PV) (st:qB) |bk (e:qh) (st:qB) |ct (e:qh) (st:qB) |ex (x:Exc) (st:qB) |no
abbrev FS:=qh->qB->RS
structure Bz where
 b:List Addr
 z:List Addr
def Bz.out (b:Bz) (a:Addr):Prop:=a ∉ b.b∧a ∉ b.z
def KL (K:W.Frag) (a:Addr) (xs:List V):Prop :=
 ∃ (o:Obj) (its:Array Value) (n:Nat),K.lookup a=some o∧o.cls = .type "list" ∧ o.dict=none∧o.data = .seq its n∧its.size≤sizeLine∧Vals xs its.toList
def KT0 (K:W.Frag) (a:Addr) (xs:List V):Prop :=
 ∃ (o:Obj) (its:Array Value) (n:Nat),K.lookup a=some o∧o.cls = .type "tuple" ∧ o.data = .seq its n∧its.size≤sizeLine∧Vals xs its.toList
def KT (K:W.Frag) (a:Addr) (xs:List V):Prop:=KT0 K a xs ∧ ∀ i r,xs≠V.int i::r
def LA (K:W.Frag) (H:Hp) (b:Bz) (a:Addr) (xs:List V):Prop:=(Rd H a (.lst xs)∧b.out a)∨KL K a xs
def TA' (K:W.Frag) (H:Hp) (b:Bz) (a:Addr) (xs:List V):Prop:=(H a=some (.tup xs)∧b.out a)∨KT K a xs
mutual
def RV (K:W.Frag) (H:Hp) (b:Bz):PV->V->Prop
 | .non,v=>v = .non
 | .bl x,v=>v = .bl x
 | .int i,v=>v = .int i
 | .str x,v=>v = .str x
 | .tup l,v => ∃ a xs,v = .ref a∧TA' K H b a xs∧RVs K H b l xs
 | .lst l,v => ∃ a xs,v = .ref a∧LA K H b a xs∧RVs K H b l xs
 | .ref i,v => ∃ a,v = .ref a∧b.b[i]? = some a
 | .dct,v => ∃ a,v = .ref a∧H a=some (.dK [])∧b.out a
 | .ty n,v=>v = .ty n
 | .fn a,v=>v = .ref a
 | .exc c fs,v => ∃ a o u,v = .ref a∧H a=some (.frz o u)∧b.out a∧o.cls = .ref c∧(∃ vs,o.data = .fields vs)∧((fs=[]∧o.dict=none) ∨ ∃ d,o.dict=some d∧H d=some (.xd (fs.map fun p=>(p.1,V.int p.2)))∧b.out d)
def RVs (K:W.Frag) (H:Hp) (b:Bz):List PV->List V->Prop
 |[],xs=>xs=[]
 |p::ps,xs => ∃ x r,xs=x::r∧RV K H b p x∧RVs K H b ps r
end
def SOk (K:W.Frag) (H:Hp) (b:Bz):SO->HO->Prop
 | .l xs,o => ∃ vs,o = .lst vs∧RVs K H b xs vs
 | .d kvs,o => ∃ vs,o = .dT vs∧kvs.map (·.1)=vs.map (·.1)∧RVs K H b (kvs.map (·.2)) (vs.map (·.2))
 | .z kvs,o => ∃ od vs,o = .frz od (.dT vs)∧kvs.map (·.1)=vs.map (·.1)∧RVs K H b (kvs.map (·.2)) (vs.map (·.2))
structure SR (K:W.Frag) (H:Hp) (b:Bz) (st:qB):Prop where
 len:b.b.length=st.length
 nd:b.b.Nodup
 at_:∀ (i:Nat) (x:SO),st[i]? = some x -> ∃ a o,b.b[i]? = some a∧H a=some o∧SOk K H b x o
 zo:∀ a∈b.z,∃ xs,H a=some (.lst xs)
 zb:∀ a∈b.z,a ∉ b.b
structure WE (H:Hp) (b:Bz) (H':Hp) (b':Bz):Prop where
 more:∃ n,b'.b=b.b++n ∧ ∀ a∈n,H a=none
 zm:∃ y,b'.z=y++b.z ∧ ∀ a∈y,H a=none
 keep:∀ a o,H a=some o->b.out a->H' a=some o
 dom:∀ a o,H a=some o -> ∃ o',H' a=some o'
theorem WE.refl (H:Hp) (b:Bz):WE H b H b:=⟨⟨[],by simp,by simp⟩,⟨[],rfl,by simp⟩,fun _ _ h _=>h,fun _ o h=>⟨o,h⟩⟩
theorem WE.none_of {H H':Hp} {b b':Bz} (e:WE H b H' b') {a:Addr} (h:H' a=none):H a=none:=by
 cases q:H a with
 |none=>rfl
 |some o=>obtain ⟨o',e'⟩:=e.dom a o q;rw [h] at e';cases e'
theorem WE.not_in {H H':Hp} {b b':Bz} (e:WE H b H' b') {a:Addr} {o:HO} (h:H a=some o) (hn:b.out a):b'.out a:=by
 obtain ⟨n,hb,hh⟩:=e.more
 obtain ⟨y,hz,hy⟩:=e.zm
 refine ⟨fun hm => ?_,fun hm => ?_⟩
 ·rw [hb] at hm
  rcases Ah.mp hm with hm |hm
  ·exact hn.1 hm
  ·rw [hh a hm] at h;cases h
 ·rw [hz] at hm
  rcases Ah.mp hm with hm |hm
  ·rw [hy a hm] at h;cases h
  ·exact hn.2 hm
theorem WE.trans {H H1 H2:Hp} {b b1 b2:Bz} (e:WE H b H1 b1) (f:WE H1 b1 H2 b2):WE H b H2 b2:=by
 obtain ⟨n,hn,hh⟩:=e.more
 obtain ⟨m,hm,hk⟩:=f.more
 obtain ⟨y,hz,hy⟩:=e.zm
 obtain ⟨x,hx,hw⟩:=f.zm
 refine ⟨⟨n++m,by rw [hm,hn,Av],fun a ha => ?_⟩,⟨x++y,by rw [hx,hz,Av],fun a ha => ?_⟩,fun a o h hb=>f.keep a o (e.keep a o h hb) (e.not_in h hb),fun a o h => ?_⟩
 ·rcases Ah.mp ha with ha |ha
  ·exact hh a ha
  ·exact e.none_of (hk a ha)
 ·rcases Ah.mp ha with ha |ha
  ·exact e.none_of (hw a ha)
  ·exact hy a ha
 ·obtain ⟨o',h'⟩:=e.dom a o h
  exact f.dom a o' h'
theorem WE.ix {H H':Hp} {b b':Bz} (e:WE H b H' b') {i:Nat} {a:Addr} (h:b.b[i]? = some a):b'.b[i]? = some a:=by
 obtain ⟨n,hb,_⟩:=e.more
 have hi:i < b.b.length:=(AV.mp h).1
 rw [hb,Ak hi];exact h
theorem WE.new {H:Hp} {b:Bz} {p:Addr} {o:HO} (h:H p=none):WE H b (upd H p o) b :=
 ⟨⟨[],by simp,by simp⟩,⟨[],rfl,by simp⟩,fun a u e _=>by rw [qP (qJ e h)];exact e,fun a u e=>⟨u,by rw [qP (qJ e h)];exact e⟩⟩
theorem WE.hide {H:Hp} {b:Bz} {p:Addr} {o:HO} (h:H p=none):WE H b (upd H p o) ⟨b.b,p::b.z⟩ :=
 ⟨⟨[],by simp,by simp⟩,⟨[p],rfl,fun a ha=>by rw [AY.mp ha];exact h⟩,fun a u e _=>by rw [qP (qJ e h)];exact e,fun a u e=>⟨u,by rw [qP (qJ e h)];exact e⟩⟩
theorem WE.wr {H:Hp} {b:Bz} {p:Addr} {o:HO} (h:p∈b.b∨p∈b.z):WE H b (upd H p o) b :=
 ⟨⟨[],by simp,by simp⟩,⟨[],rfl,by simp⟩,fun a u e hb=>by rw [qP (fun z=>h.elim (fun q=>hb.1 (by rw [z];exact q)) fun q=>hb.2 (by rw [z];exact q))];exact e,fun a u e=>by
  by_cases hz:a=p
  ·exact ⟨o,by rw [hz];exact QL⟩
  ·exact ⟨u,by rw [qP hz];exact e⟩⟩
theorem Rd.some_of {H:Hp} {a:Addr} {u:HO} (h:Rd H a u):∃ o,H a=some o:=h.elim (fun h=>⟨_,h⟩) fun ⟨_,h⟩=>⟨_,h⟩
theorem Rd.wext {H H':Hp} {b b':Bz} {a:Addr} {u:HO} (e:WE H b H' b') (h:Rd H a u∧b.out a):Rd H' a u∧b'.out a:=by
 obtain ⟨o,ho⟩:=Rd.some_of h.1
 refine ⟨?_,e.not_in ho h.2⟩
 rcases h.1 with q |⟨o',q⟩
 ·exact .inl (e.keep _ _ q h.2)
 ·exact .inr ⟨o',e.keep _ _ q h.2⟩
theorem LA.wext {K:W.Frag} {H H':Hp} {b b':Bz} {a:Addr} {xs:List V} (e:WE H b H' b') (h:LA K H b a xs):LA K H' b' a xs:=h.elim (fun h => .inl (Rd.wext e h)) .inr
theorem TA'.wext {K:W.Frag} {H H':Hp} {b b':Bz} {a:Addr} {xs:List V} (e:WE H b H' b') (h:TA' K H b a xs):TA' K H' b' a xs:=h.elim (fun h => .inl ⟨e.keep _ _ h.1 h.2,e.not_in h.1 h.2⟩) .inr
theorem LA.sq {K:W.Frag} {H:Hp} {b:Bz} {a:Addr} {xs:List V} (h:LA K H b a xs):SqL K H a xs:=h.elim (fun h => .inl h.1) .inr
theorem TA'.sq {K:W.Frag} {H:Hp} {b:Bz} {a:Addr} {xs:List V} (h:TA' K H b a xs):SqT K H a xs:=h.elim (fun h => .inl (.inl h.1)) fun h => .inr h.1
mutual
theorem RV.wext {K:W.Frag} {H H':Hp} {b b':Bz} (e:WE H b H' b'):∀ (p:PV) {v:V},RV K H b p v->RV K H' b' p v
 | .non,_,h=>by unfold RV at h ⊢;exact h
 | .bl _,_,h=>by unfold RV at h ⊢;exact h
 | .int _,_,h=>by unfold RV at h ⊢;exact h
 | .str _,_,h=>by unfold RV at h ⊢;exact h
 | .tup l,_,h=>by
  unfold RV at h ⊢
  obtain ⟨a,xs,h1,h2,h3⟩:=h
  exact ⟨a,xs,h1,h2.wext e,RVs.wext e l h3⟩
 | .lst l,_,h=>by
  unfold RV at h ⊢
  obtain ⟨a,xs,h1,h2,h3⟩:=h
  exact ⟨a,xs,h1,h2.wext e,RVs.wext e l h3⟩
 | .ref i,_,h=>by
  unfold RV at h ⊢
  obtain ⟨a,h1,h2⟩:=h
  exact ⟨a,h1,e.ix h2⟩
 | .ty _,_,h=>by unfold RV at h ⊢;exact h
 | .fn _,_,h=>by unfold RV at h ⊢;exact h
 | .exc _ _,_,h=>by
  unfold RV at h ⊢
  obtain ⟨a,o,u,h1,h2,h3,h4,h6,h5⟩:=h
  exact ⟨a,o,u,h1,e.keep _ _ h2 h3,e.not_in h2 h3,h4,h6,h5.imp id fun ⟨d,q1,q2,q3⟩=>⟨d,q1,e.keep _ _ q2 q3,e.not_in q2 q3⟩⟩
 | .dct,_,h=>by
  unfold RV at h ⊢
  obtain ⟨a,h1,h2,h3⟩:=h
  exact ⟨a,h1,e.keep _ _ h2 h3,e.not_in h2 h3⟩
theorem RVs.wext {K:W.Frag} {H H':Hp} {b b':Bz} (e:WE H b H' b'):∀ (l:List PV) {xs:List V},RVs K H b l xs->RVs K H' b' l xs
 |[],_,h=>by unfold RVs at h ⊢;exact h
 |p::ps,_,h=>by
  unfold RVs at h ⊢
  obtain ⟨x,r,h1,h2,h3⟩:=h
  exact ⟨x,r,h1,RV.wext e p h2,RVs.wext e ps h3⟩
end
structure Ext (H:Hp) (b:Bz) (H':Hp) (b':Bz):Prop extends WE H b H' b' where
 same:b'.z=b.z
 hid:∀ a o,a∈b.z->H a=some o->H' a=some o
 fz:∀ a o u,H a=some (.frz o u)->H' a=some (.frz o u)
theorem Ext.refl (H:Hp) (b:Bz):Ext H b H b:=⟨WE.refl H b,rfl,fun _ _ _ h=>h,fun _ _ _ h=>h⟩
theorem Ext.none_of {H H':Hp} {b b':Bz} (e:Ext H b H' b') {a:Addr} (h:H' a=none):H a=none:=e.toWE.none_of h
theorem Ext.trans {H H1 H2:Hp} {b b1 b2:Bz} (e:Ext H b H1 b1) (f:Ext H1 b1 H2 b2):Ext H b H2 b2:=⟨e.toWE.trans f.toWE,f.same.trans e.same,fun a o ha h=>f.hid a o (by rw [e.same];exact ha) (e.hid a o ha h),fun a o u h=>f.fz a o u (e.fz a o u h)⟩
theorem Ext.ix {H H':Hp} {b b':Bz} (e:Ext H b H' b') {i:Nat} {a:Addr} (h:b.b[i]? = some a):b'.b[i]? = some a:=e.toWE.ix h
theorem Ext.new {H:Hp} {b:Bz} {p:Addr} {o:HO} (h:H p=none):Ext H b (upd H p o) b:=⟨WE.new h,rfl,fun a u _ e=>by rw [qP (qJ e h)];exact e,fun a u _ e=>by rw [qP (qJ e h)];exact e⟩
theorem Ext.wr {H:Hp} {b:Bz} {p:Addr} {o:HO} (h:p∈b.b) (hz:∀ a∈b.z,a ∉ b.b) (hf:∀ o u,H p≠some (.frz o u)):Ext H b (upd H p o) b:=⟨WE.wr (.inl h),rfl,fun a u ha e=>by rw [qP (fun z=>hz a ha (by rw [z];exact h))];exact e,fun a u v e=>by rw [qP (fun z=>hf u v (by rw [← z];exact e))];exact e⟩
theorem nfz {H:Hp} {p:Addr} {u:HO} (h:H p=some u) (hu:∀ o v,u ≠ .frz o v):∀ o v,H p≠some (.frz o v):=fun o v z=>by rw [h] at z;cases z;exact hu _ _ rfl
theorem qHW {H:Hp} {p:Addr} {xs:List V} (h:H p=some (.lst xs)):∀ o v,H p≠some (.frz o v):=nfz h fun _ _ z=>nomatch z
theorem Ext.of_same {H H':Hp} {b:Bz} (h:Same H H'):Ext H b H' b:=⟨⟨⟨[],by simp,by simp⟩,⟨[],rfl,by simp⟩,fun a o e _=>h a o e,fun a o e=>⟨o,h a o e⟩⟩,rfl,fun a o _ e=>h a o e,fun a o u e=>h a _ e⟩
theorem RV.ext {K:W.Frag} {H H':Hp} {b b':Bz} (e:Ext H b H' b') (p:PV) {v:V} (h:RV K H b p v):RV K H' b' p v:=RV.wext e.toWE p h
theorem RVs.ext {K:W.Frag} {H H':Hp} {b b':Bz} (e:Ext H b H' b') (l:List PV) {xs:List V} (h:RVs K H b l xs):RVs K H' b' l xs:=RVs.wext e.toWE l h
theorem RVs.length {K:W.Frag} {H:Hp} {b:Bz}:∀ {l:List PV} {xs:List V},RVs K H b l xs->l.length=xs.length
 |[],_,h=>by unfold RVs at h;rw [h];rfl
 |p::ps,_,h=>by
  unfold RVs at h
  obtain ⟨x,r,rfl,_,h3⟩:=h
  rw [AM,AM,RVs.length h3]
theorem RVs.nil {K:W.Frag} {H:Hp} {b:Bz}:RVs K H b [] []:=by unfold RVs;rfl
theorem RVs.cons {K:W.Frag} {H:Hp} {b:Bz} {p:PV} {ps:List PV} {x:V} {r:List V} (h:RV K H b p x) (t:RVs K H b ps r):RVs K H b (p::ps) (x::r):=by
 unfold RVs;exact ⟨x,r,rfl,h,t⟩
theorem RVs.get {K:W.Frag} {H:Hp} {b:Bz}:∀ {l:List PV} {xs:List V} {i:Nat} {p:PV},RVs K H b l xs->l[i]? = some p -> ∃ x,xs[i]? = some x∧RV K H b p x
 |[],_,_,_,_,h=>by simp at h
 |q::ps,_,0,p,r,h=>by
  unfold RVs at r
  obtain ⟨x,t,rfl,h2,h3⟩:=r
  simp at h;subst h
  exact ⟨x,rfl,h2⟩
 |q::ps,_,i + 1,p,r,h=>by
  unfold RVs at r
  obtain ⟨x,t,rfl,h2,h3⟩:=r
  obtain ⟨y,e,hy⟩:=RVs.get (i:=i) h3 (by simpa using h)
  exact ⟨y,by simpa using e,hy⟩
theorem RVs.append {K:W.Frag} {H:Hp} {b:Bz}:∀ {l m:List PV} {xs ys:List V},RVs K H b l xs->RVs K H b m ys->RVs K H b (l++m) (xs++ys)
 |[],_,_,_,h,g=>by unfold RVs at h;subst h;exact g
 |p::ps,_,_,_,h,g=>by
  unfold RVs at h
  obtain ⟨x,r,rfl,h2,h3⟩:=h
  exact RVs.cons h2 (RVs.append h3 g)
theorem RVs.take {K:W.Frag} {H:Hp} {b:Bz}:∀ {l:List PV} {xs:List V} (n:Nat),RVs K H b l xs->RVs K H b (l.take n) (xs.take n)
 |_,_,0,_=>RVs.nil
 |[],_,_ + 1,h=>by unfold RVs at h;subst h;exact RVs.nil
 |p::ps,_,n + 1,h=>by
  unfold RVs at h
  obtain ⟨x,r,rfl,h2,h3⟩:=h
  exact RVs.cons h2 (RVs.take n h3)
theorem RVs.drop {K:W.Frag} {H:Hp} {b:Bz}:∀ {l:List PV} {xs:List V} (n:Nat),RVs K H b l xs->RVs K H b (l.drop n) (xs.drop n)
 |_,_,0,h=>h
 |[],_,_ + 1,h=>by unfold RVs at h;subst h;exact RVs.nil
 |p::ps,_,n + 1,h=>by
  unfold RVs at h
  obtain ⟨x,r,rfl,h2,h3⟩:=h
  exact RVs.drop n h3
theorem RVs.set {K:W.Frag} {H:Hp} {b:Bz} {p:PV} {x:V} (hp:RV K H b p x):∀ {l:List PV} {xs:List V} (n:Nat),RVs K H b l xs->RVs K H b (l.set n p) (xs.set n x)
 |[],_,_,h=>by unfold RVs at h;subst h;exact RVs.nil
 |q::ps,_,0,h=>by
  unfold RVs at h
  obtain ⟨y,r,rfl,h2,h3⟩:=h
  exact RVs.cons hp h3
 |q::ps,_,n + 1,h=>by
  unfold RVs at h
  obtain ⟨y,r,rfl,h2,h3⟩:=h
  exact RVs.cons h2 (RVs.set hp n h3)
theorem SOk.wext {K:W.Frag} {H H':Hp} {b b':Bz} (e:WE H b H' b'):∀ {x:SO} {o:HO},SOk K H b x o->SOk K H' b' x o
 | .l xs,_,⟨vs,h,r⟩=>⟨vs,h,RVs.wext e xs r⟩
 | .d kvs,_,⟨vs,h,q,r⟩=>⟨vs,h,q,RVs.wext e _ r⟩
 | .z kvs,_,⟨od,vs,h,q,r⟩=>⟨od,vs,h,q,RVs.wext e _ r⟩
theorem SOk.ext {K:W.Frag} {H H':Hp} {b b':Bz} (e:Ext H b H' b') {x:SO} {o:HO} (h:SOk K H b x o):SOk K H' b' x o:=h.wext e.toWE
theorem SR.mem {K:W.Frag} {H:Hp} {b:Bz} {st:qB} (S:SR K H b st) {a:Addr} (h:a∈b.b):∃ o,H a=some o:=by
 obtain ⟨i,hi⟩:=List.getElem?_of_mem h
 have hl:i < b.b.length:=(AV.mp hi).1
 have hs:st[i]? = some (st[i]'(by rw [← S.len];exact hl)):=AS _
 obtain ⟨a',o,h1,h2,_⟩:=S.at_ i _ hs
 rw [hi] at h1;cases h1
 exact ⟨o,h2⟩
theorem SR.new_notin {K:W.Frag} {H:Hp} {b:Bz} {st:qB} (S:SR K H b st) {p:Addr} (h:H p=none):b.out p :=
 ⟨fun hm=>(by obtain ⟨o,e⟩:=S.mem hm;rw [h] at e;cases e),fun hm=>(by obtain ⟨o,e⟩:=S.zo p hm;rw [h] at e;cases e)⟩
theorem SR.new {K:W.Frag} {H:Hp} {b:Bz} {st:qB} (S:SR K H b st) {p:Addr} {o:HO} (h:H p=none):SR K (upd H p o) b st :=
 ⟨S.len,S.nd,fun i x hx=>by
  obtain ⟨a,u,h1,h2,h3⟩:=S.at_ i x hx
  exact ⟨a,u,h1,by rw [qP (qJ h2 h)];exact h2,h3.ext (Ext.new h)⟩,fun a ha=>by
  obtain ⟨u,e⟩:=S.zo a ha
  exact ⟨u,by rw [qP (qJ e h)];exact e⟩,S.zb⟩
theorem qIU {b:List Addr} (nd:b.Nodup) {i j:Nat} {x:Addr} (h1:b[i]? = some x) (h2:b[j]? = some x):i=j:=by
 obtain ⟨hi,e1⟩:=AV.mp h1
 obtain ⟨hj,e2⟩:=AV.mp h2
 exact (List.getElem_inj nd).mp (e1.trans e2.symm)
theorem SR.wr {K:W.Frag} {H:Hp} {b:Bz} {st:qB} (S:SR K H b st) {i:Nat} {p:Addr} {x:SO} {o:HO} (hp:b.b[i]? = some p) (hx:SOk K (upd H p o) b x o):SR K (upd H p o) b (st.set i x):=by
 have hm:p∈b.b:=BX hp
 refine ⟨by simp [S.len],S.nd,fun j y hy => ?_,fun a ha => ?_,S.zb⟩
 ·have hl:i < b.b.length:=(AV.mp hp).1
  by_cases hj:j=i
  ·subst hj
   rw [Bf (by rw [← S.len];exact hl)] at hy
   cases hy
   exact ⟨p,o,hp,QL,hx⟩
  ·rw [BW (Ne.symm hj)] at hy
   obtain ⟨a,u,h1,h2,h3⟩:=S.at_ j y hy
   have hne:a≠p:=fun z=>hj (by subst z;exact qIU S.nd h1 hp)
   exact ⟨a,u,h1,by rw [qP hne];exact h2,h3.wext (WE.wr (.inl hm))⟩
 ·obtain ⟨u,e⟩:=S.zo a ha
  have hz:a≠p:=fun z=>S.zb a ha (by rw [z];exact hm)
  exact ⟨u,by rw [qP hz];exact e⟩
theorem SR.wrz {K:W.Frag} {H:Hp} {b:Bz} {st:qB} (S:SR K H b st) {p:Addr} {ys:List V} (hp:p∈b.z):SR K (upd H p (.lst ys)) b st:=by
 refine ⟨S.len,S.nd,fun j y hy => ?_,fun a ha => ?_,S.zb⟩
 ·obtain ⟨a,u,h1,h2,h3⟩:=S.at_ j y hy
  have hne:a≠p:=fun z=>by subst z;exact S.zb a hp (BX h1)
  exact ⟨a,u,h1,by rw [qP hne];exact h2,h3.wext (WE.wr (.inr hp))⟩
 ·obtain ⟨u,e⟩:=S.zo a ha
  by_cases hz:a=p
  ·exact ⟨ys,by rw [hz];exact QL⟩
  ·exact ⟨u,by rw [qP hz];exact e⟩
structure Sh (b b':Bz):Prop where
 ix:∀ (i:Nat) (a:Addr),b.b[i]? = some a->b'.b[i]? = some a
 out:∀ a,b.out a->b'.out a
mutual
theorem RV.sh {K:W.Frag} {H:Hp} {b b':Bz} (e:Sh b b'):∀ (p:PV) {v:V},RV K H b p v->RV K H b' p v
 | .non,_,h=>by unfold RV at h ⊢;exact h
 | .bl _,_,h=>by unfold RV at h ⊢;exact h
 | .int _,_,h=>by unfold RV at h ⊢;exact h
 | .str _,_,h=>by unfold RV at h ⊢;exact h
 | .tup l,_,h=>by
  unfold RV at h ⊢
  obtain ⟨a,xs,h1,h2,h3⟩:=h
  exact ⟨a,xs,h1,h2.elim (fun q => .inl ⟨q.1,e.out a q.2⟩) .inr,RVs.sh e l h3⟩
 | .lst l,_,h=>by
  unfold RV at h ⊢
  obtain ⟨a,xs,h1,h2,h3⟩:=h
  exact ⟨a,xs,h1,h2.elim (fun q => .inl ⟨q.1,e.out a q.2⟩) .inr,RVs.sh e l h3⟩
 | .ref i,_,h=>by
  unfold RV at h ⊢
  obtain ⟨a,h1,h2⟩:=h
  exact ⟨a,h1,e.ix i a h2⟩
 | .ty _,_,h=>by unfold RV at h ⊢;exact h
 | .fn _,_,h=>by unfold RV at h ⊢;exact h
 | .exc _ _,_,h=>by
  unfold RV at h ⊢
  obtain ⟨a,o,u,h1,h2,h3,h4,h6,h5⟩:=h
  exact ⟨a,o,u,h1,h2,e.out a h3,h4,h6,h5.imp id fun ⟨d,q1,q2,q3⟩=>⟨d,q1,q2,e.out d q3⟩⟩
 | .dct,_,h=>by
  unfold RV at h ⊢
  obtain ⟨a,h1,h2,h3⟩:=h
  exact ⟨a,h1,h2,e.out a h3⟩
theorem RVs.sh {K:W.Frag} {H:Hp} {b b':Bz} (e:Sh b b'):∀ (l:List PV) {xs:List V},RVs K H b l xs->RVs K H b' l xs
 |[],_,h=>by unfold RVs at h ⊢;exact h
 |p::ps,_,h=>by
  unfold RVs at h ⊢
  obtain ⟨x,r,h1,h2,h3⟩:=h
  exact ⟨x,r,h1,RV.sh e p h2,RVs.sh e ps h3⟩
end
theorem SOk.sh {K:W.Frag} {H:Hp} {b b':Bz} (e:Sh b b'):∀ {x:SO} {o:HO},SOk K H b x o->SOk K H b' x o
 | .l xs,_,⟨vs,h,r⟩=>⟨vs,h,RVs.sh e xs r⟩
 | .d kvs,_,⟨vs,h,q,r⟩=>⟨vs,h,q,RVs.sh e _ r⟩
 | .z kvs,_,⟨od,vs,h,q,r⟩=>⟨od,vs,h,q,RVs.sh e _ r⟩
theorem Sh.bare {b:List Addr} {p:Addr} {z:List Addr}:Sh ⟨b,p::z⟩ ⟨b,z⟩:=⟨fun _ _ h=>h,fun a h=>⟨h.1,fun q=>h.2 (AG _ q)⟩⟩
theorem Sh.slot {b:List Addr} {p:Addr} {z:List Addr}:Sh ⟨b,p::z⟩ ⟨b++[p],z⟩:=⟨fun i a h=>by
  rw [Ak (AV.mp h).1];exact h,fun a h=>⟨fun q=>(Ah.mp q).elim h.1 fun q=>h.2 (by rw [AY.mp q];exact AD),fun q=>h.2 (AG _ q)⟩⟩
theorem RV.hide {K:W.Frag} {H:Hp} {b z:List Addr} {p:Addr} {o:HO} (hp:H p=none) (q:PV) {v:V} (h:RV K H ⟨b,z⟩ q v):RV K (upd H p o) ⟨b,p::z⟩ q v:=hd q h
where
 outp {a:Addr} {u:HO} (e:H a=some u) (h:Bz.out ⟨b,z⟩ a):Bz.out ⟨b,p::z⟩ a:=⟨h.1,fun q=>(AL.mp q).elim (fun q=>by subst q;rw [hp] at e;cases e) h.2⟩
 rdd {a:Addr} {u:HO} (h:Rd H a u∧Bz.out ⟨b,z⟩ a):Rd (upd H p o) a u∧Bz.out ⟨b,p::z⟩ a:=by
  obtain ⟨w,hw⟩:=Rd.some_of h.1
  refine ⟨?_,outp hw h.2⟩
  rcases h.1 with q |⟨o',q⟩
  ·exact .inl (by rw [qP (qJ q hp)];exact q)
  ·exact .inr ⟨o',by rw [qP (qJ q hp)];exact q⟩
 hd:∀ (q:PV) {v:V},RV K H ⟨b,z⟩ q v->RV K (upd H p o) ⟨b,p::z⟩ q v
 | .non,_,h=>by unfold RV at h ⊢;exact h
 | .bl _,_,h=>by unfold RV at h ⊢;exact h
 | .int _,_,h=>by unfold RV at h ⊢;exact h
 | .str _,_,h=>by unfold RV at h ⊢;exact h
 | .tup l,_,h=>by
  unfold RV at h ⊢
  obtain ⟨a,xs,h1,h2,h3⟩:=h
  exact ⟨a,xs,h1,h2.elim (fun q => .inl ⟨by rw [qP (qJ q.1 hp)];exact q.1,outp q.1 q.2⟩) .inr,hds l h3⟩
 | .lst l,_,h=>by
  unfold RV at h ⊢
  obtain ⟨a,xs,h1,h2,h3⟩:=h
  exact ⟨a,xs,h1,h2.elim (fun q => .inl (rdd q)) .inr,hds l h3⟩
 | .ref i,_,h=>by
  unfold RV at h ⊢
  exact h
 | .ty _,_,h=>by unfold RV at h ⊢;exact h
 | .fn _,_,h=>by unfold RV at h ⊢;exact h
 | .exc _ _,_,h=>by
  unfold RV at h ⊢
  obtain ⟨a,o',u,h1,h2,h3,h4,h6,h5⟩:=h
  exact ⟨a,o',u,h1,by rw [qP (qJ h2 hp)];exact h2,outp h2 h3,h4,h6,h5.imp id fun ⟨d,q1,q2,q3⟩=>⟨d,q1,by rw [qP (qJ q2 hp)];exact q2,outp q2 q3⟩⟩
 | .dct,_,h=>by
  unfold RV at h ⊢
  obtain ⟨a,h1,h2,h3⟩:=h
  exact ⟨a,h1,by rw [qP (qJ h2 hp)];exact h2,outp h2 h3⟩
 hds:∀ (l:List PV) {xs:List V},RVs K H ⟨b,z⟩ l xs->RVs K (upd H p o) ⟨b,p::z⟩ l xs
 |[],_,h=>by unfold RVs at h ⊢;exact h
 |q::ps,_,h=>by
  unfold RVs at h ⊢
  obtain ⟨x,r,h1,h2,h3⟩:=h
  exact ⟨x,r,h1,hd q h2,hds ps h3⟩
theorem SR.hide {K:W.Frag} {H:Hp} {b z:List Addr} {st:qB} (S:SR K H ⟨b,z⟩ st) {p:Addr} {ys:List V} (hp:H p=none):SR K (upd H p (.lst ys)) ⟨b,p::z⟩ st:=by
 have hn:=S.new_notin hp
 refine ⟨S.len,S.nd,fun i x hx => ?_,fun a ha => ?_,fun a ha => ?_⟩
 ·obtain ⟨a,u,h1,h2,h3⟩:=S.at_ i x hx
  refine ⟨a,u,h1,by rw [qP (qJ h2 hp)];exact h2,?_⟩
  cases x with
  |l xs =>
   obtain ⟨vs,e1,e2⟩:=h3
   exact ⟨vs,e1,RV.hide.hds hp xs e2⟩
  |d kvs =>
   obtain ⟨vs,e1,e2,e3⟩:=h3
   exact ⟨vs,e1,e2,RV.hide.hds hp _ e3⟩
  |z kvs =>
   obtain ⟨od,vs,e1,e2,e3⟩:=h3
   exact ⟨od,vs,e1,e2,RV.hide.hds hp _ e3⟩
 ·rcases AL.mp ha with rfl |ha
  ·exact ⟨ys,QL⟩
  ·obtain ⟨u,e⟩:=S.zo a ha
   exact ⟨u,by rw [qP (qJ e hp)];exact e⟩
 ·rcases AL.mp ha with rfl |ha
  ·exact hn.1
  ·exact S.zb a ha
theorem SR.bare {K:W.Frag} {H:Hp} {b z:List Addr} {st:qB} {p:Addr} (S:SR K H ⟨b,p::z⟩ st):SR K H ⟨b,z⟩ st :=
 ⟨S.len,S.nd,fun i x hx=>by
  obtain ⟨a,u,h1,h2,h3⟩:=S.at_ i x hx
  exact ⟨a,u,h1,h2,h3.sh Sh.bare⟩,fun a ha=>S.zo a (AG _ ha),fun a ha=>S.zb a (AG _ ha)⟩
theorem SR.slot {K:W.Frag} {H:Hp} {b z:List Addr} {st:qB} {p:Addr} {x:SO} {o:HO} (S:SR K H ⟨b,p::z⟩ st) (hz:p ∉ z) (ho:H p=some o) (hx:SOk K H ⟨b,p::z⟩ x o):SR K H ⟨b++[p],z⟩ (st++[x]):=by
 have hp:p ∉ b:=S.zb p AD
 refine ⟨by simp [show b.length=st.length from S.len],?_,fun i y hy => ?_,fun a ha=>S.zo a (AG _ ha),fun a ha hm => ?_⟩
 ·exact Bn.mpr ⟨S.nd,by simp,fun a ha c hc=>by rw [AY.mp hc];intro z;subst z;exact hp ha⟩
 ·by_cases hi:i < st.length
  ·rw [Ak hi] at hy
   obtain ⟨a,u,h1,h2,h3⟩:=S.at_ i y hy
   exact ⟨a,u,Sh.slot.ix i a h1,h2,h3.sh Sh.slot⟩
  ·have hi':i=st.length:=by
    have:=(AV.mp hy).1
    rw [Ab,Bi] at this;omega
   subst hi'
   have e1:(st++[x])[st.length]? = some x:=by simp
   rw [e1] at hy;cases hy
   have hl:b.length=st.length:=S.len
   exact ⟨p,o,by show (b++[p])[st.length]? = some p;rw [← hl];simp,ho,hx.sh Sh.slot⟩
 ·rcases Ah.mp hm with q |q
  ·exact S.zb a (AG _ ha) q
  ·rw [AY.mp q] at ha;exact hz ha
def REnv (K:W.Frag) (H:Hp) (b:Bz) (r:qh) (s:L2.St):Prop:=r.length=s.length ∧ ∀ (i:Nat) (p:PV),r[i]? = some (some p) -> ∃ v,s[i]? = some (some v)∧RV K H b p v
theorem REnv.wext {K:W.Frag} {H H':Hp} {b b':Bz} {r:qh} {s:L2.St} (h:REnv K H b r s) (e:WE H b H' b'):REnv K H' b' r s:=⟨h.1,fun i p q=>by
 obtain ⟨v,h1,h2⟩:=h.2 i p q
 exact ⟨v,h1,RV.wext e p h2⟩⟩
theorem REnv.ext {K:W.Frag} {H H':Hp} {b b':Bz} {r:qh} {s:L2.St} (h:REnv K H b r s) (e:Ext H b H' b'):REnv K H' b' r s:=⟨h.1,fun i p q=>by
 obtain ⟨v,h1,h2⟩:=h.2 i p q
 exact ⟨v,h1,RV.ext e p h2⟩⟩
theorem REnv.set {K:W.Frag} {H:Hp} {b:Bz} {r:qh} {s:L2.St} {p:PV} {v:V} (h:REnv K H b r s) (hv:RV K H b p v) (i:Nat):REnv K H b (r.set i (some p)) (s.set i (some v)):=by
 refine ⟨by simp [h.1],fun j q hq => ?_⟩
 by_cases hj:i=j
 ·subst hj
  have hl:i < r.length:=by
   have:=(AV.mp hq).1
   simpa using this
  rw [Bf hl] at hq
  cases hq
  exact ⟨v,by rw [Bf (by rw [← h.1];exact hl)],hv⟩
 ·rw [BW hj] at hq
  obtain ⟨w,h1,h2⟩:=h.2 j q hq
  exact ⟨w,by rw [BW hj];exact h1,h2⟩
def RX (K:W.Frag) (H:Hp) (b:Bz) (x:Exc) (c:Value) (d:Option Addr):Prop :=
 c = .ref x.cls∧((x.fs=[]∧d=none) ∨ ∃ a,d=some a∧H a=some (.xd (x.fs.map fun p=>(p.1,V.int p.2)))∧b.out a)
def XP (K:W.Frag) (E:XK) (H:Hp) (b:Bz) (x:Exc) (st:qB):Prop := ∀ c d H' b',Ext H b H' b'->SR K H' b' st->RX K H' b' x c d->E c d H'
theorem XP.ext {K:W.Frag} {E:XK} {H H1:Hp} {b b1:Bz} {x:Exc} {st:qB} (h:XP K E H b x st) (e:Ext H b H1 b1):XP K E H1 b1 x st:=fun c d H' b' e' S r=>h c d H' b' (e.trans e') S r
def PostE (K:W.Frag) (E:XK) (H:Hp) (b:Bz) (r:Rs PV) (Q:VK):Prop:=match r with
 | .ok p st => ∀ v H' b',Ext H b H' b'->SR K H' b' st->RV K H' b' p v->Q v H'
 | .ex x st=>XP K E H b x st
 | .no=>False
def PostA (K:W.Frag) (E:XK) (H:Hp) (b:Bz) (r:Rs (List PV)) (Q:List V->Hp->Prop):Prop:=match r with
 | .ok ps st => ∀ vs H' b',Ext H b H' b'->SR K H' b' st->RVs K H' b' ps vs->Q vs H'
 | .ex x st=>XP K E H b x st
 | .no=>False
def PostT (K:W.Frag) (E:XK) (H:Hp) (b:Bz) (r:Rs Bool) (Q:Bool->Hp->Prop):Prop:=match r with
 | .ok k st => ∀ H' b',Ext H b H' b'->SR K H' b' st->Q k H'
 | .ex x st=>XP K E H b x st
 | .no=>False
def PostS (K:W.Frag) (E:XK) (H:Hp) (b:Bz) (r:RS) (D:Ends):Prop:=match r with
 | .nx e st => ∀ s H' b',Ext H b H' b'->SR K H' b' st->REnv K H' b' e s->D.nx s H'
 | .bk e st => ∀ s H' b',Ext H b H' b'->SR K H' b' st->REnv K H' b' e s->D.bk s H'
 | .ct e st => ∀ s H' b',Ext H b H' b'->SR K H' b' st->REnv K H' b' e s->D.ct s H'
 | .rt p st => ∀ v H' b',Ext H b H' b'->SR K H' b' st->RV K H' b' p v->D.rt v H'
 | .ex x st=>XP K E H b x st
 | .no=>False
theorem PostE.ext {K:W.Frag} {E:XK} {H H1:Hp} {b b1:Bz} {r:Rs PV} {Q:VK} (h:PostE K E H b r Q) (e:Ext H b H1 b1):PostE K E H1 b1 r Q:=by
 cases r with
 |ok p st=>exact fun v H' b' e'=>h v H' b' (e.trans e')
 |ex x st=>exact XP.ext h e
 |no=>exact h
theorem PostA.ext {K:W.Frag} {E:XK} {H H1:Hp} {b b1:Bz} {r:Rs (List PV)} {Q:List V->Hp->Prop} (h:PostA K E H b r Q) (e:Ext H b H1 b1):PostA K E H1 b1 r Q:=by
 cases r with
 |ok p st=>exact fun v H' b' e'=>h v H' b' (e.trans e')
 |ex x st=>exact XP.ext h e
 |no=>exact h
theorem PostT.ext {K:W.Frag} {E:XK} {H H1:Hp} {b b1:Bz} {r:Rs Bool} {Q:Bool->Hp->Prop} (h:PostT K E H b r Q) (e:Ext H b H1 b1):PostT K E H1 b1 r Q:=by
 cases r with
 |ok p st=>exact fun H' b' e'=>h H' b' (e.trans e')
 |ex x st=>exact XP.ext h e
 |no=>exact h
theorem PostS.ext {K:W.Frag} {E:XK} {H H1:Hp} {b b1:Bz} {r:RS} {D:Ends} (h:PostS K E H b r D) (e:Ext H b H1 b1):PostS K E H1 b1 r D:=by
 cases r with
 |nx p st=>exact fun v H' b' e'=>h v H' b' (e.trans e')
 |bk p st=>exact fun v H' b' e'=>h v H' b' (e.trans e')
 |ct p st=>exact fun v H' b' e'=>h v H' b' (e.trans e')
 |rt p st=>exact fun v H' b' e'=>h v H' b' (e.trans e')
 |ex x st=>exact XP.ext h e
 |no=>exact h
def rd (K:W.Frag) (E:XK) (f:FE):TE:=fun s H Q => ∃ b r st,SR K H b st∧REnv K H b r s∧PostE K E H b (f r st) Q
def rdA (K:W.Frag) (E:XK) (f:FA):L2.TA:=fun s H Q => ∃ b r st,SR K H b st∧REnv K H b r s∧PostA K E H b (f r st) Q
def rdT (K:W.Frag) (E:XK) (f:FT):TT:=fun s H Q => ∃ b r st,SR K H b st∧REnv K H b r s∧PostT K E H b (f r st) Q
def rdS (K:W.Frag) (E:XK) (f:FS):TS:=fun D s H => ∃ b r st,SR K H b st∧REnv K H b r s∧PostS K E H b (f r st) D
abbrev VE (X:Cx) (E:XK) (e:Expr) (f:FE):Prop:=PE X e (rd X.K E f)
abbrev VA (X:Cx) (E:XK) (e:List Expr) (f:FA):Prop:=PA X e (rdA X.K E f)
abbrev VT (X:Cx) (E:XK) (e:Expr) (f:FT):Prop:=PT X e (rdT X.K E f)
abbrev VS (X:Cx) (E:XK) (e:Stmt) (f:FS):Prop:=PS X e (rdS X.K E f)
abbrev VSs (X:Cx) (E:XK) (e:List Stmt) (f:FS):Prop:=PSs X e (rdS X.K E f)
theorem PE.imp {X:Cx} {e:Expr} {t t':TE} (h:PE X e t) (i:∀ s H Q,t' s H Q->t s H Q):PE X e t':=fun pins s σ H Q I q=>h pins s σ H Q I (i _ _ _ q)
theorem PT.imp {X:Cx} {e:Expr} {t t':TT} (h:PT X e t) (i:∀ s H Q,t' s H Q->t s H Q):PT X e t':=fun pins s σ H Q I q=>h pins s σ H Q I (i _ _ _ q)
theorem PA.imp {X:Cx} {e:List Expr} {t t':L2.TA} (h:PA X e t) (i:∀ s H Q,t' s H Q->t s H Q):PA X e t':=fun pos pins s σ H Q I q=>h pos pins s σ H Q I (i _ _ _ q)
theorem PS.imp {X:Cx} {e:Stmt} {t t':TS} (h:PS X e t) (i:∀ D s H,t' D s H->t D s H):PS X e t':=fun pins s σ H D I q=>h pins s σ H D I (i _ _ _ q)
theorem PSs.imp {X:Cx} {e:List Stmt} {t t':TS} (h:PSs X e t) (i:∀ D s H,t' D s H->t D s H):PSs X e t':=fun pins s σ H D I q=>h pins s σ H D I (i _ _ _ q)
theorem PostE.bind {K:W.Frag} {E:XK} {H:Hp} {b:Bz} {r:Rs PV} {k:PV->qB->Rs PV} {Q R:VK} (P:PostE K E H b (r.bind k) Q)
  (h:∀ p st v H1 b1,Ext H b H1 b1->SR K H1 b1 st->RV K H1 b1 p v->PostE K E H1 b1 (k p st) Q->R v H1):PostE K E H b r R:=by
 cases r with
 |ok p st=>exact fun v H1 b1 e S r=>h p st v H1 b1 e S r (PostE.ext (show PostE K E H b (k p st) Q from P) e)
 |ex x st=>exact P
 |no=>exact P
theorem PostE.bindT {K:W.Frag} {E:XK} {H:Hp} {b:Bz} {r:Rs PV} {k:PV->qB->Rs Bool} {Q:Bool->Hp->Prop} {R:VK} (P:PostT K E H b (r.bind k) Q)
  (h:∀ p st v H1 b1,Ext H b H1 b1->SR K H1 b1 st->RV K H1 b1 p v->PostT K E H1 b1 (k p st) Q->R v H1):PostE K E H b r R:=by
 cases r with
 |ok p st=>exact fun v H1 b1 e S r=>h p st v H1 b1 e S r (PostT.ext (show PostT K E H b (k p st) Q from P) e)
 |ex x st=>exact P
 |no=>exact P
theorem PostT.bind {K:W.Frag} {E:XK} {H:Hp} {b:Bz} {r:Rs Bool} {k:Bool->qB->Rs PV} {Q:VK} {R:Bool->Hp->Prop} (P:PostE K E H b (r.bind k) Q)
  (h:∀ p st H1 b1,Ext H b H1 b1->SR K H1 b1 st->PostE K E H1 b1 (k p st) Q->R p H1):PostT K E H b r R:=by
 cases r with
 |ok p st=>exact fun H1 b1 e S=>h p st H1 b1 e S (PostE.ext (show PostE K E H b (k p st) Q from P) e)
 |ex x st=>exact P
 |no=>exact P
theorem PostT.bindT {K:W.Frag} {E:XK} {H:Hp} {b:Bz} {r:Rs Bool} {k:Bool->qB->Rs Bool} {Q R:Bool->Hp->Prop} (P:PostT K E H b (r.bind k) Q)
  (h:∀ p st H1 b1,Ext H b H1 b1->SR K H1 b1 st->PostT K E H1 b1 (k p st) Q->R p H1):PostT K E H b r R:=by
 cases r with
 |ok p st=>exact fun H1 b1 e S=>h p st H1 b1 e S (PostT.ext (show PostT K E H b (k p st) Q from P) e)
 |ex x st=>exact P
 |no=>exact P
theorem PostA.bind {K:W.Frag} {E:XK} {H:Hp} {b:Bz} {r:Rs (List PV)} {k:List PV->qB->Rs PV} {Q:VK} {R:List V->Hp->Prop} (P:PostE K E H b (r.bind k) Q)
  (h:∀ p st v H1 b1,Ext H b H1 b1->SR K H1 b1 st->RVs K H1 b1 p v->PostE K E H1 b1 (k p st) Q->R v H1):PostA K E H b r R:=by
 cases r with
 |ok p st=>exact fun v H1 b1 e S r=>h p st v H1 b1 e S r (PostE.ext (show PostE K E H b (k p st) Q from P) e)
 |ex x st=>exact P
 |no=>exact P
theorem PostE.bindA {K:W.Frag} {E:XK} {H:Hp} {b:Bz} {r:Rs PV} {k:PV->qB->Rs (List PV)} {Q:List V->Hp->Prop} {R:VK} (P:PostA K E H b (r.bind k) Q)
  (h:∀ p st v H1 b1,Ext H b H1 b1->SR K H1 b1 st->RV K H1 b1 p v->PostA K E H1 b1 (k p st) Q->R v H1):PostE K E H b r R:=by
 cases r with
 |ok p st=>exact fun v H1 b1 e S r=>h p st v H1 b1 e S r (PostA.ext (show PostA K E H b (k p st) Q from P) e)
 |ex x st=>exact P
 |no=>exact P
theorem PostA.bindA {K:W.Frag} {E:XK} {H:Hp} {b:Bz} {r:Rs (List PV)} {k:List PV->qB->Rs (List PV)} {Q R:List V->Hp->Prop} (P:PostA K E H b (r.bind k) Q)
  (h:∀ p st v H1 b1,Ext H b H1 b1->SR K H1 b1 st->RVs K H1 b1 p v->PostA K E H1 b1 (k p st) Q->R v H1):PostA K E H b r R:=by
 cases r with
 |ok p st=>exact fun v H1 b1 e S r=>h p st v H1 b1 e S r (PostA.ext (show PostA K E H b (k p st) Q from P) e)
 |ex x st=>exact P
 |no=>exact P
def Rs.bindS {α:Type} (r:Rs α) (k:α->qB->RS):RS:=match r with
 | .ok a st=>k a st
 | .ex x st => .ex x st
 | .no => .no
theorem PostE.bindS {K:W.Frag} {E:XK} {H:Hp} {b:Bz} {r:Rs PV} {k:PV->qB->RS} {D:Ends} {R:VK} (P:PostS K E H b (r.bindS k) D)
  (h:∀ p st v H1 b1,Ext H b H1 b1->SR K H1 b1 st->RV K H1 b1 p v->PostS K E H1 b1 (k p st) D->R v H1):PostE K E H b r R:=by
 cases r with
 |ok p st=>exact fun v H1 b1 e S r=>h p st v H1 b1 e S r (PostS.ext (show PostS K E H b (k p st) D from P) e)
 |ex x st=>exact P
 |no=>exact P
theorem PostT.bindS {K:W.Frag} {E:XK} {H:Hp} {b:Bz} {r:Rs Bool} {k:Bool->qB->RS} {D:Ends} {R:Bool->Hp->Prop} (P:PostS K E H b (r.bindS k) D)
  (h:∀ p st H1 b1,Ext H b H1 b1->SR K H1 b1 st->PostS K E H1 b1 (k p st) D->R p H1):PostT K E H b r R:=by
 cases r with
 |ok p st=>exact fun H1 b1 e S=>h p st H1 b1 e S (PostS.ext (show PostS K E H b (k p st) D from P) e)
 |ex x st=>exact P
 |no=>exact P
theorem PostA.bindS {K:W.Frag} {E:XK} {H:Hp} {b:Bz} {r:Rs (List PV)} {k:List PV->qB->RS} {D:Ends} {R:List V->Hp->Prop} (P:PostS K E H b (r.bindS k) D)
  (h:∀ p st v H1 b1,Ext H b H1 b1->SR K H1 b1 st->RVs K H1 b1 p v->PostS K E H1 b1 (k p st) D->R v H1):PostA K E H b r R:=by
 cases r with
 |ok p st=>exact fun v H1 b1 e S r=>h p st v H1 b1 e S r (PostS.ext (show PostS K E H b (k p st) D from P) e)
 |ex x st=>exact P
 |no=>exact P
def asL (st:qB):PV->Option (List PV)
 | .lst l=>some l
 | .ref i=>match st[i]? with
  |some (.l xs)=>some xs
  |_=>none
 |_=>none
def asT:PV->Option (List PV)
 | .tup l=>some l
 |_=>none
def w5 (st:qB) (p:PV):Option (List PV):=match p with
 | .tup l=>some l
 |p=>asL st p
section
variable {K:W.Frag} {H:Hp} {b:Bz} {st:qB} {p:PV} {v:V} {l:List PV}
theorem Q3 (S:SR K H b st) (r:RV K H b p v) (h:asL st p=some l):∃ a xs,v = .ref a∧SqL K H a xs∧RVs K H b l xs:=by
 cases p with
 |lst m =>
  unfold RV at r
  obtain ⟨a,xs,h1,h2,h3⟩:=r
  have e:m=l:=AW h
  subst e
  exact ⟨a,xs,h1,h2.sq,h3⟩
 |ref i =>
  unfold RV at r
  obtain ⟨a,h1,h2⟩:=r
  unfold asL at h
  dsimp only at h
  cases q:st[i]? with
  |none=>rw [q] at h;cases h
  |some o =>
   cases o with
   |l ys =>
    rw [q] at h
    have e:ys=l:=AW h
    subst e
    obtain ⟨a',o,e1,e2,vs,e3,e4⟩:=S.at_ i _ q
    rw [h2] at e1;cases e1
    subst e3
    exact ⟨a,vs,h1,SqL.of e2,e4⟩
   |d ys=>rw [q] at h;cases h
   |z ys=>rw [q] at h;cases h
 |_=>cases h
theorem Z7 (S:SR K H b st) (r:RV K H b p v) (h:w5 st p=some l):∃ a xs,v = .ref a∧(SqL K H a xs∨SqT K H a xs)∧RVs K H b l xs:=by
 cases p with
 |tup m =>
  unfold RV at r
  obtain ⟨a,xs,h1,h2,h3⟩:=r
  have e:m=l:=AW h
  subst e
  exact ⟨a,xs,h1,.inr h2.sq,h3⟩
 |lst m =>
  obtain ⟨a,xs,h1,h2,h3⟩:=Q3 S r h
  exact ⟨a,xs,h1,.inl h2,h3⟩
 |ref i =>
  obtain ⟨a,xs,h1,h2,h3⟩:=Q3 S r h
  exact ⟨a,xs,h1,.inl h2,h3⟩
 |_=>cases h
end
abbrev FL:=qh->qB->Rs (List PV)
def PostN (K:W.Frag) (E:XK) (H:Hp) (b:Bz) (r:Rs (List PV)) (Q:VK):Prop:=match r with
 | .ok l st => ∀ p xs H' b',Ext H b H' b'->H p=none->H' p=some (.lst xs)->p ∉ b'.z->SR K H' ⟨b'.b,p::b'.z⟩ st->RVs K H' ⟨b'.b,p::b'.z⟩ l xs->Q (.ref p) H'
 | .ex x st=>XP K E H b x st
 | .no=>False
def rdN (K:W.Frag) (E:XK) (f:FL):TE:=fun s H Q => ∃ b r st,SR K H b st∧REnv K H b r s∧PostN K E H b (f r st) Q
abbrev VN (X:Cx) (E:XK) (e:Expr) (f:FL):Prop:=PE X e (rdN X.K E f)
def vFz (f:FL):FE:=fun r st=>(f r st).bind fun l s => .ok (.lst l) s
theorem PostN.of {K:W.Frag} {E:XK} {H:Hp} {b:Bz} {r:Rs (List PV)} {Q:VK} (P:PostE K E H b (r.bind fun l s => .ok (.lst l) s) Q):PostN K E H b r Q:=by
 cases r with
 |ok l st=>exact fun p xs H' b' e hn hp hz S r=>P _ H' b' e S.bare (by unfold RV;exact ⟨p,xs,rfl,.inl ⟨.inl hp,S.zb p AD,hz⟩,RVs.sh Sh.bare l r⟩)
 |ex x st=>exact P
 |no=>exact P
theorem PostN.ext {K:W.Frag} {E:XK} {H H1:Hp} {b b1:Bz} {r:Rs (List PV)} {Q:VK} (h:PostN K E H b r Q) (e:Ext H b H1 b1):PostN K E H1 b1 r Q:=by
 cases r with
 |ok p st=>exact fun p xs H' b' e' hn=>h p xs H' b' (e.trans e') (e.none_of hn)
 |ex x st=>exact XP.ext h e
 |no=>exact h
theorem PostN.lay {K:W.Frag} {E:XK} {H:Hp} {b:Bz} {st:qB} {l:List PV} {xs:List V} {Q:VK} (P:PostN K E H b (.ok l st) Q) (S:SR K H b st) (r:RVs K H b l xs) {p:Addr} (h:H p=none):Q (.ref p) (upd H p (.lst xs)) :=
 P p xs _ b (Ext.new h) h QL (S.new_notin h).2 (SR.hide S h) (RV.hide.hds h l r)
theorem PostE.layT {K:W.Frag} {E:XK} {H:Hp} {b:Bz} {st:qB} {l:List PV} {xs:List V} {Q:VK} (P:PostE K E H b (.ok (.tup l) st) Q) (S:SR K H b st) (r:RVs K H b l xs) {p:Addr} (h:H p=none):Q (.ref p) (upd H p (.tup xs)) :=
 P _ _ b (Ext.new h) (S.new h) (by unfold RV;exact ⟨p,xs,rfl,.inl ⟨QL,S.new_notin h⟩,RVs.ext (Ext.new h) l r⟩)
theorem PostE.here {K:W.Frag} {E:XK} {H:Hp} {b:Bz} {st:qB} {p:PV} {v:V} {Q:VK} (P:PostE K E H b (.ok p st) Q) (S:SR K H b st) (r:RV K H b p v):Q v H:=P v H b (Ext.refl H b) S r
section
variable {X:Cx} {E:XK} {e a c d:Expr} {es:List Expr} {f fa fb fc:FE} {pos:Pos}
theorem QX {f:FL} (h:VN X E e f):VE X E e (vFz f):=PE.imp h fun s H Q ⟨b,r,st,S,R,P⟩=>⟨b,r,st,S,R,PostN.of P⟩
def vC (p:PV):FE:=fun _ st => .ok p st
def qC (i:Nat):FE:=fun r st=>match r[i]? with
 |some (some p) => .ok p st
 |_ => .no
theorem qCY {p:PV} {v:V} (h:PE X e (tC v)) (hv:∀ H b,RV X.K H b p v):VE X E e (vC p):=PE.imp h fun s H Q ⟨b,r,st,S,R,P⟩=>PostE.here P S (hv H b)
theorem qL {i:Int} {j pos}:VE X E (.Constant (.int i) j pos) (vC (.int i)):=qCY qHk fun _ _=>by unfold RV;rfl
theorem YT {i:Bool} {j pos}:VE X E (.Constant (.bool i) j pos) (vC (.bl i)):=qCY qIb fun _ _=>by unfold RV;rfl
theorem wW {x:Str} {j pos}:VE X E (.Constant (.str x) j pos) (vC (.str x)):=qCY qGY fun _ _=>by unfold RV;rfl
theorem qAs {x:Str} {i:Int} {t:Tok} {pos:Pos} (hg:Gl X x) (hm:X.mg x=some (.int i t)) (hd:(x==("__debug__":Str))=false:=by decide):VE X E (.Name x pos) (vC (.int i)) :=
 qCY (qBM (v := .int i) hg hm ⟨t,rfl⟩ hd) fun _ _=>by unfold RV;rfl
theorem qIT {i:Nat} (h:PE X e (qHp i)):VE X E e (qC i):=PE.imp h fun s H Q ⟨b,r,st,S,R,P⟩=>by
 unfold qC at P
 cases q:r[i]? with
 |none=>rw [q] at P;exact False.elim P
 |some o =>
  cases o with
  |none=>rw [q] at P;exact False.elim P
  |some p =>
   rw [q] at P
   obtain ⟨v,h1,h2⟩:=R.2 i p q
   exact ⟨v,h1,PostE.here P S h2⟩
def qG (g:PV->PV->qB->Rs PV) (fa fb:FE):FE:=fun r st=>(fa r st).bind fun p s1=>(fb r s1).bind fun q s2=>g p q s2
def OpG (X:Cx) (E:XK) (t:R2) (g:PV->PV->qB->Rs PV):Prop :=
 ∀ (H:Hp) (b:Bz) (st:qB) (p q:PV) (u v:V) (Q:VK),SR X.K H b st->RV X.K H b p u->RV X.K H b q v->PostE X.K E H b (g p q st) Q->t u v H Q
theorem yH {t:R2} {g:PV->PV->qB->Rs PV} (hg:OpG X E t g):∀ s H Q,rd X.K E (qG g fa fb) s H Q->tOp t (rd X.K E fa) (rd X.K E fb) s H Q:=fun s H Q ⟨b,r,st,S,R,P⟩ =>
 ⟨b,r,st,S,R,PostE.bind P fun p s1 u H1 b1 e1 S1 r1 P1=>⟨b1,r,s1,S1,R.ext e1,PostE.bind P1 fun q s2 v H2 b2 e2 S2 r2 P2=>hg H2 b2 s2 p q u v Q S2 (RV.ext e2 p r1) r2 P2⟩⟩
theorem Zs {op:Operator} {t:R2} {g:PV->PV->qB->Rs PV} (ho:OpR X (binaryOp op) t) (hg:OpG X E t g) (ha:VE X E a fa) (hb:VE X E c fb):VE X E (.BinOp a op c pos) (qG g fa fb):=PE.imp (qGI ho ha hb) (yH hg)
theorem Y6 {op:CmpOp} {t:R2} {g:PV->PV->qB->Rs PV} (ho:OpR X (compareOp op) t) (hg:OpG X E t g) (ha:VE X E a fa) (hb:VE X E c fb) (hm:behindInMarks op c=false:=by first |exact qz _ |with_unfolding_all rfl):VE X E (.Compare a [op] [c] pos) (qG g fa fb):=PE.imp (qE8 ho ha hb hm) (yH hg)
def gI (g:Int->Int->Option PV):PV->PV->qB->Rs PV:=fun p q st=>match p,q with
 | .int i,.int j=>match g i j with
  |some z => .ok z st
  |none => .no
 |_,_ => .no
theorem qE7 {C:Int->Int->Prop} {h:Int->Int->V} {g:Int->Int->Option PV} (hg:∀ i j z,g i j=some z->C i j ∧ ∀ H b,RV X.K H b z (h i j)):OpG X E (rI C h) (gI g):=by
 intro H b st p q u v Q S rp rq P
 unfold gI at P
 split at P
 ·rename_i i j
  unfold RV at rp rq
  split at P
  ·rename_i z e
   obtain ⟨c,r⟩:=hg i j z e
   exact ⟨i,j,rp,rq,c,PostE.here P S (r H b)⟩
  ·exact P.elim
 ·exact P.elim
theorem jd {h:Int->Int->V} {g:Int->Int->PV} (hg:∀ i j H b,RV X.K H b (g i j) (h i j)):OpG X E (rI0 h) (gI fun i j=>some (g i j)):=by
 intro H b st p q u v Q S rp rq P
 unfold gI at P
 split at P
 ·rename_i i j
  unfold RV at rp rq
  exact ⟨i,j,rp,rq,PostE.here P S (hg i j H b)⟩
 ·exact P.elim
theorem QR {K:W.Frag} {H:Hp} {b:Bz} {i:Int}:RV K H b (.int i) (.int i):=by unfold RV;rfl
theorem Wl {K:W.Frag} {H:Hp} {b:Bz} {i:Bool}:RV K H b (.bl i) (.bl i):=by unfold RV;rfl
def zS:=gI fun i j=>some (.int (i - j))
def zn:=gI fun i j=>if (-(2 ^ 64) < i∧i < 2 ^ 64)∨(-(2 ^ 64) < j∧j < 2 ^ 64) then some (.int (i * j)) else none
def ji:=gI fun i j=>if 0 < j∧j < 1073741824 then some (.int (i / j)) else none
def J9:=gI fun i j=>if 0 < j then some (.int (i % j)) else none
theorem zZ (ha:VE X E a fa) (hb:VE X E c fb):VE X E (.BinOp a .Sub c pos) (qG zS fa fb):=Zs qGV (jd fun _ _ _ _=>QR) ha hb
theorem zf (ha:VE X E a fa) (hb:VE X E c fb):VE X E (.BinOp a .Mult c pos) (qG zn fa fb):=Zs qGw (qE7 fun i j z e=>by
 split at e
 ·rename_i h;cases e;exact ⟨h,fun _ _=>QR⟩
 ·cases e) ha hb
theorem qAO (ha:VE X E a fa) (hb:VE X E c fb):VE X E (.BinOp a .FloorDiv c pos) (qG ji fa fb):=Zs qFO (qE7 fun i j z e=>by
 split at e
 ·rename_i h;cases e;exact ⟨h,fun _ _=>QR⟩
 ·cases e) ha hb
theorem qAd (ha:VE X E a fa) (hb:VE X E c fb):VE X E (.BinOp a .Mod c pos) (qG J9 fa fb):=Zs qGf (qE7 fun i j z e=>by
 split at e
 ·rename_i h;cases e;exact ⟨h,fun _ _=>QR⟩
 ·cases e) ha hb
def qt:=gI fun i j=>some (.int (i + j))
theorem qv (ha:VE X E a fa) (hb:VE X E c fb):VE X E (.BinOp a .Add c pos) (qG qt fa fb):=Zs qHd (jd fun _ _ _ _=>QR) ha hb
def Jw:PV->PV->qB->Rs PV:=fun p q st=>match p,q with
 | .str x,.str y=>if x.length + y.length≤sizeLine then .ok (.str (x++y)) st else .no
 |_,_ => .no
theorem qBS (ha:VE X E a fa) (hb:VE X E c fb):VE X E (.BinOp a .Add c pos) (qG Jw fa fb):=Zs qAo (fun H b st p q u v Q S rp rq P=>by
 unfold Jw at P
 split at P
 ·rename_i x y
  unfold RV at rp rq
  split at P
  ·rename_i h;exact ⟨x,y,rp,rq,h,PostE.here P S (by unfold RV;rfl)⟩
  ·exact P.elim
 ·exact P.elim) ha hb
def gLt:=gI fun i j=>some (.bl (decide (i < j)))
def gLe:=gI fun i j=>some (.bl (decide (i≤j)))
def gGt:=gI fun i j=>some (.bl (decide (j < i)))
theorem qGG:OpG X E (rI0 fun i j => .bl (decide (i < j))) gLt:=jd fun _ _ _ _=>Wl
theorem qGO:OpG X E (rI0 fun i j => .bl (decide (i≤j))) gLe:=jd fun _ _ _ _=>Wl
theorem qDj:OpG X E (rI0 fun i j => .bl (decide (j < i))) gGt:=jd fun _ _ _ _=>Wl
def qC5 (g g':PV->PV->qB->Rs PV) (fa fb fc:FE):FE:=fun r st=>(fa r st).bind fun p s1=>(fb r s1).bind fun q s2=>(g p q s2).bind fun z s3=>match z with
 | .bl true=>(fc r s3).bind fun w s4=>g' q w s4
 | .bl false => .ok (.bl false) s3
 |_ => .no
theorem qD7 {op op':CmpOp} {t t':R2} {g g':PV->PV->qB->Rs PV} (ho:OpR X (compareOp op) t) (ho':OpR X (compareOp op') t') (hg:OpG X E t g) (hg':OpG X E t' g') (ha:VE X E a fa) (hb:VE X E c fb) (hc:VE X E d fc)
  (hm:lastMarks [op,op'] [c,d]=false:=by with_unfolding_all rfl):VE X E (.Compare a [op,op'] [c,d] pos) (qC5 g g' fa fb fc):=by
 refine PE.imp (qEF ho ho' ha hb hc hm) fun s H Q ⟨b,r,st,S,R,P⟩ => ?_
 refine ⟨b,r,st,S,R,PostE.bind P fun p s1 u H1 b1 e1 S1 r1 P1=>⟨b1,r,s1,S1,R.ext e1,PostE.bind P1 fun q s2 v H2 b2 e2 S2 r2 P2 => ?_⟩⟩
 refine hg H2 b2 s2 p q u v _ S2 (RV.ext e2 p r1) r2 (PostE.bind P2 fun z s3 zv H3 b3 e3 S3 r3 P3 => ?_)
 split at P3
 ·unfold RV at r3
  refine ⟨true,r3,Jv ⟨b3,r,s3,S3,((R.ext e1).ext e2).ext e3,PostE.bind P3 fun w s4 wv H4 b4 e4 S4 r4 P4 => ?_⟩⟩
  exact hg' H4 b4 s4 q w v wv Q S4 (RV.ext e4 q (RV.ext e3 q r2)) r4 P4
 ·unfold RV at r3
  exact ⟨false,r3,qAA (PostE.here P3 S3 Wl)⟩
 ·exact P3.elim
def qCu (st:qB):PV->Option Bool
 | .non=>some false
 | .bl x=>some x
 | .int i=>some (i != 0)
 | .tup l=>some (!l.isEmpty)
 | .lst l=>some (!l.isEmpty)
 | .ref i=>(asL st (.ref i)).map fun l => !l.isEmpty
 |_=>none
theorem qD2 {K:W.Frag} {H:Hp} {b:Bz} {st:qB} {p:PV} {v:V} {k:Bool} (S:SR K H b st) (r:RV K H b p v) (h:qCu st p=some k):qDX K v H k:=by
 have emp:∀ {l:List PV} {xs:List V},RVs K H b l xs->(!l.isEmpty) = !xs.isEmpty:=fun {l xs} q=>by
  have:=q.length
  cases l <;> cases xs <;> first |rfl |(simp at this)
 cases p with
 |non=>unfold RV at r;subst r;exact (AW h).symm
 |bl x=>unfold RV at r;subst r;exact (AW h).symm
 |int x=>unfold RV at r;subst r;exact (AW h).symm
 |tup l =>
  unfold RV at r
  obtain ⟨a,xs,rfl,h2,h3⟩:=r
  exact .inr (.inl ⟨xs,h2.sq,by rw [← emp h3];exact (AW h).symm⟩)
 |lst l =>
  obtain ⟨a,xs,rfl,h2,h3⟩:=Q3 S r rfl
  exact .inl ⟨xs,h2,by rw [← emp h3];exact (AW h).symm⟩
 |ref i =>
  unfold qCu at h
  dsimp only at h
  cases q:asL st (.ref i) with
  |none=>rw [q] at h;cases h
  |some l =>
   rw [q] at h
   obtain ⟨a,xs,rfl,h2,h3⟩:=Q3 S r q
   exact .inl ⟨xs,h2,by rw [← emp h3];exact (AW h).symm⟩
 |_=>cases h
def QE (f:FE):FT:=fun r st=>(f r st).bind fun p s=>match qCu s p with
 |some k => .ok k s
 |none => .no
theorem qCj {R:Bool->Hp->Prop} {s:L2.St} {H:Hp} (h:rdT X.K E (QE f) s H R):rd X.K E f s H fun x H' => ∃ k,qDX X.K x H' k∧R k H':=by
 obtain ⟨b,r,st,S,RE,P⟩:=h
 refine ⟨b,r,st,S,RE,PostE.bindT P fun p s1 u H1 b1 e1 S1 r1 P1 => ?_⟩
 split at P1
 ·rename_i k e;exact ⟨k,qD2 S1 r1 e,P1 H1 b1 (Ext.refl _ _) S1⟩
 ·exact P1.elim
theorem wx (h:VE X E e f) (he:∀ whole,isTrue e X.env whole=(do let v ← whole;standAt e.pos;holding [v] (truthy v)):=by intro _;rfl):VT X E e (QE f):=PT.imp (qDy h he) fun s H Q q=>qCj q
def vTB (f:FE):FT:=fun r st=>(f r st).bind fun p s=>match p with
 | .bl k => .ok k s
 |_ => .no
theorem qIW {R:Bool->Hp->Prop} {s:L2.St} {H:Hp} (h:rdT X.K E (vTB f) s H R):rd X.K E f s H fun x H' => ∃ k,x = .bl k∧R k H':=by
 obtain ⟨b,r,st,S,RE,P⟩:=h
 refine ⟨b,r,st,S,RE,PostE.bindT P fun p s1 u H1 b1 e1 S1 r1 P1 => ?_⟩
 split at P1
 ·rename_i k;unfold RV at r1;exact ⟨k,r1,P1 H1 b1 (Ext.refl _ _) S1⟩
 ·exact P1.elim
theorem QJ {op:CmpOp} {t:R2} {g:PV->PV->qB->Rs PV} (ho:OpR X (compareOp op) t) (hg:OpG X E t g) (ha:VE X E a fa) (hb:VE X E c fb) (hm:behindInMarks op c=false:=by first |exact qz _ |with_unfolding_all rfl):VT X E (.Compare a [op] [c] pos) (vTB (qG g fa fb)) :=
 PT.imp (qE9 ho ha hb hm) fun s H Q q=>yH hg s H _ (qIW q)
def wQ (f:FT):FT:=fun r st=>(f r st).bind fun k s => .ok (!k) s
theorem WM {f:FT} (h:VT X E a f):VT X E (.UnaryOp .Not a pos) (wQ f):=PT.imp (qGW h) fun s H Q ⟨b,r,st,S,R,P⟩=>⟨b,r,st,S,R,PostT.bindT P fun k s1 H1 b1 e1 S1 P1=>P1 H1 b1 (Ext.refl _ _) S1⟩
abbrev VW (X:Cx) (E:XK) (e:Expr) (f:FT):Prop:=PW X e (rdT X.K E f)
theorem PW.imp {X:Cx} {e:Expr} {t t':TT} (h:PW X e t) (i:∀ s H Q,t' s H Q->t s H Q):PW X e t':=fun w pins s σ H Q I q=>h w pins s σ H Q I (i _ _ _ q)
def Wn (f g:FT):FT:=fun r st=>(f r st).bind fun k s=>if k=true then g r s else .ok false s
def Wi (f g:FT):FT:=fun r st=>(f r st).bind fun k s=>if k=true then .ok true s else g r s
theorem qBW {f:FT} (h:VT X E a f):VW X E (.BoolOp .And [a] pos) f:=qFI h
theorem ZW {f:FT} (h:VT X E a f):VW X E (.BoolOp .Or [a] pos) f:=qGo h
theorem qAZ {f g:FT} {rest:List Expr} (h:VT X E a f) (h2:VW X E (.BoolOp .And (c::rest) pos) g):VW X E (.BoolOp .And (a::c::rest) pos) (Wn f g):=PW.imp (qGy h h2) fun s H Q ⟨b,r,st,S,R,P⟩ =>
 ⟨b,r,st,S,R,PostT.bindT P fun k s1 H1 b1 e1 S1 P1=>by
  cases k with
  |true=>exact Jv ⟨b1,r,s1,S1,R.ext e1,P1⟩
  |false=>exact qAA (P1 H1 b1 (Ext.refl _ _) S1)⟩
theorem Zt {f g:FT} {rest:List Expr} (h:VT X E a f) (h2:VW X E (.BoolOp .Or (c::rest) pos) g):VW X E (.BoolOp .Or (a::c::rest) pos) (Wi f g):=PW.imp (qIt h h2) fun s H Q ⟨b,r,st,S,R,P⟩ =>
 ⟨b,r,st,S,R,PostT.bindT P fun k s1 H1 b1 e1 S1 P1=>by
  cases k with
  |true=>exact Jv (P1 H1 b1 (Ext.refl _ _) S1)
  |false=>exact qAA ⟨b1,r,s1,S1,R.ext e1,P1⟩⟩
theorem Jb {f:FT} (h:VW X E e f):VT X E e f:=h.pt
def qIN (f:FE):FE:=fun r st=>(f r st).bind fun p s=>match p with
 | .bl k => .ok (.bl (!k)) s
 |_ => .no
theorem qG0 (h:VE X E a fa):VE X E (.UnaryOp .Not a pos) (qIN fa):=PE.imp (qGi h) fun s H Q ⟨b,r,st,S,R,P⟩ =>
 ⟨b,r,st,S,R,PostE.bind P fun p s1 u H1 b1 e1 S1 r1 P1=>by
  split at P1
  ·rename_i k;unfold RV at r1;exact ⟨k,r1,PostE.here P1 S1 Wl⟩
  ·exact P1.elim⟩
def ZU (f g:FE):FE:=fun r st=>(f r st).bind fun p s=>match p with
 | .bl true=>g r s
 | .bl false => .ok (.bl false) s
 |_ => .no
theorem zw {op} (h:VE X E a fa):VE X E (.BoolOp op [a] pos) fa:=qG7 h
theorem zl {rest:List Expr} (h:VE X E a fa) (h2:VE X E (.BoolOp .And (c::rest) pos) fb):VE X E (.BoolOp .And (a::c::rest) pos) (ZU fa fb):=PE.imp (qHL h h2) fun s H Q ⟨b,r,st,S,R,P⟩ =>
 ⟨b,r,st,S,R,PostE.bind P fun p s1 u H1 b1 e1 S1 r1 P1=>by
  split at P1
  ·unfold RV at r1;exact ⟨true,r1,Jv ⟨b1,r,s1,S1,R.ext e1,P1⟩⟩
  ·unfold RV at r1;exact ⟨false,r1,qAA (PostE.here P1 S1 Wl)⟩
  ·exact P1.elim⟩
def vIf (t:FT) (f g:FE):FE:=fun r st=>(t r st).bind fun k s=>if k=true then f r s else g r s
theorem qF4 {t:FT} (hc:VT X E e t) (ha:VE X E a fa) (hb:VE X E c fb):VE X E (.IfExp e a c pos) (vIf t fa fb):=PE.imp (qDu hc ha hb) fun s H Q ⟨b,r,st,S,R,P⟩ =>
 ⟨b,r,st,S,R,PostT.bind P fun k s1 H1 b1 e1 S1 P1=>by
  cases k with
  |true=>exact Jv ⟨b1,r,s1,S1,R.ext e1,P1⟩
  |false=>exact qAA ⟨b1,r,s1,S1,R.ext e1,P1⟩⟩
def qD:FA:=fun _ st => .ok [] st
def qA (f:FE) (g:FA):FA:=fun r st=>(f r st).bind fun p s=>(g r s).bind fun ps s' => .ok (p::ps) s'
theorem qF:VA X E [] qD:=PA.imp yM fun s H Q ⟨b,r,st,S,R,P⟩=>P [] H b (Ext.refl _ _) S RVs.nil
theorem Qa {f:FE} {g:FA} (h:VE X E e f) (h2:VA X E es g) (hs:starEach (e::es) X.env=(false,eval e X.env)::starEach es X.env:=by rfl):VA X E (e::es) (qA f g):=PA.imp (ZN h h2 hs) fun s H Q ⟨b,r,st,S,R,P⟩ =>
 ⟨b,r,st,S,R,PostE.bindA P fun p s1 u H1 b1 e1 S1 r1 P1=>⟨b1,r,s1,S1,R.ext e1,PostA.bindA P1 fun ps s2 us H2 b2 e2 S2 r2 P2=>P2 (u::us) H2 b2 (Ext.refl _ _) S2 (RVs.cons (RV.ext e2 p r1) r2)⟩⟩
def Qr (g:FA):FE:=fun r st=>(g r st).bind fun ps s=>if ps.length≤sizeLine then .ok (.tup ps) s else .no
theorem wB {g:FA} {x1} (h:VA X E es g):VE X E (.Tuple es x1 pos) (Qr g):=PE.imp (qGe h) fun s H Q ⟨b,r,st,S,R,P⟩ =>
 ⟨b,r,st,S,R,PostA.bind P fun ps s1 us H1 b1 e1 S1 r1 P1=>by
  split at P1
  ·rename_i hl;exact ⟨by rw [← r1.length];exact hl,fun p hp=>PostE.layT P1 S1 r1 hp⟩
  ·exact P1.elim⟩
def wt (g:FA):FL:=fun r st=>(g r st).bind fun ps s=>if ps.length≤sizeLine then .ok ps s else .no
theorem PostA.bindN {K:W.Frag} {E:XK} {H:Hp} {b:Bz} {r:Rs (List PV)} {k:List PV->qB->Rs (List PV)} {Q:VK} {R:List V->Hp->Prop} (P:PostN K E H b (r.bind k) Q)
  (h:∀ p st v H1 b1,Ext H b H1 b1->SR K H1 b1 st->RVs K H1 b1 p v->PostN K E H1 b1 (k p st) Q->R v H1):PostA K E H b r R:=by
 cases r with
 |ok p st=>exact fun v H1 b1 e S r=>h p st v H1 b1 e S r (PostN.ext (show PostN K E H b (k p st) Q from P) e)
 |ex x st=>exact P
 |no=>exact P
theorem PostE.bindN {K:W.Frag} {E:XK} {H:Hp} {b:Bz} {r:Rs PV} {k:PV->qB->Rs (List PV)} {Q:VK} {R:VK} (P:PostN K E H b (r.bind k) Q)
  (h:∀ p st v H1 b1,Ext H b H1 b1->SR K H1 b1 st->RV K H1 b1 p v->PostN K E H1 b1 (k p st) Q->R v H1):PostE K E H b r R:=by
 cases r with
 |ok p st=>exact fun v H1 b1 e S r=>h p st v H1 b1 e S r (PostN.ext (show PostN K E H b (k p st) Q from P) e)
 |ex x st=>exact P
 |no=>exact P
theorem WR {g:FA} (h:VA X E es g):VN X E (.List es pos) (wt g):=PE.imp (qHh h) fun s H Q ⟨b,r,st,S,R,P⟩ =>
 ⟨b,r,st,S,R,PostA.bindN P fun ps s1 us H1 b1 e1 S1 r1 P1=>by
  split at P1
  ·rename_i hl;exact ⟨by rw [← r1.length];exact hl,fun p hp=>PostN.lay P1 S1 r1 hp⟩
  ·exact P1.elim⟩
theorem qFb {K:W.Frag} {H:Hp} {b:Bz} {l:List PV} {xs:List V} {i:Int} {p:PV} (r:RVs K H b l xs) (h:atI l i=some p):∃ x,atI xs i=some x∧RV K H b p x:=by
 unfold atI at h ⊢
 rw [← r.length]
 cases q:ixN l.length i with
 |none=>rw [q] at h;cases h
 |some j=>rw [q] at h;exact r.get h
def gIx:PV->PV->qB->Rs PV:=fun p q st=>match q with
 | .int i=>match w5 st p with
  |some l=>match atI l i with
   |some z => .ok z st
   |none => .no
  |none => .no
 |_ => .no
theorem wl (ha:VE X E a fa) (hb:VE X E c fb) (hs:Yx c:=by exact fun _ _=>rfl):VE X E (.Subscript a c pos) (qG gIx fa fb):=PE.imp (qGF qC2 ha hb hs) (yH fun H b st p q u v Q S rp rq P=>by
 unfold gIx at P
 split at P
 ·rename_i i
  unfold RV at rq
  split at P
  ·rename_i l e
   split at P
   ·rename_i z ez
    obtain ⟨x1,xs,h1,h2,h3⟩:=Z7 S rp e
    obtain ⟨x,h4,h5⟩:=qFb h3 ez
    rcases h2 with h2 |h2
    ·exact .inl ⟨x1,xs,i,x,h1,rq,h2,h4,PostE.here P S h5⟩
    ·exact .inr (.inl ⟨x1,xs,i,x,h1,rq,h2,h4,PostE.here P S h5⟩)
   ·exact P.elim
  ·exact P.elim
 ·exact P.elim)
def qE (g:List PV->qB->Rs PV) (t:FA):FE:=fun r st=>(t r st).bind fun ps s=>g ps s
def spG (K:W.Frag) (n:Nat) (g:List PV->qB->Rs PV):Sp:=fun vs H Q E=>vs.length=n ∧ ∃ b ps st,SR K H b st∧RVs K H b ps vs∧PostE K E H b (g ps st) Q
def qGm (X:Cx) (E:XK) (x:Str) (g:List PV->qB->Rs PV):Prop := ∀ (p pos:Pos) (e:Expr) (es:List Expr) (t:FA),VA X E (e::es) t->starEach (e::es) X.env=(false,eval e X.env)::starEach es X.env->(backTo pos (starEach es X.env)).any (·.1)=false->VE X E (.Call (.Name x p) (e::es) [] pos) (qE g t)
theorem qT {x:Str} {g:List PV->qB->Rs PV} {t:FA} {p:Pos} (hc:qGm X E x g) (ha:VA X E (e::es) t) (he:starEach (e::es) X.env=(false,eval e X.env)::starEach es X.env:=by rfl) (hpl:(backTo pos (starEach es X.env)).any (·.1)=false:=by rfl):VE X E (.Call (.Name x p) (e::es) [] pos) (qE g t):=hc p pos e es t ha he hpl
theorem qJr {CX:CXT} {k n:Nat} {fa:Addr} {fd:FuncData} {ps:List Str} {x:Str} {g:List PV->qB->Rs PV} (F:FnOk X.prog X.w X.K X.mg X.base CX k fa fd ps (spG X.K ps.length g)) (hr:Room k X.A) (hg:Gl X x) (hm:X.mg x=some (.ref fa)) (hk:W.keepIn X.K (.ref fa)=true)
  (hb:Binds X.K fd ps []) (hx:ZQ CX X E) (hlen:∀ l st,g l st ≠ .no->l.length=ps.length) (hdb:(x==("__debug__":Str))=false:=by decide):qGm X E x g:=fun p pos e es t ha he hpl =>
 PE.imp (qEh F hr hg hm hk hb .nil hx ha hdb he hpl) fun s H Q ⟨b,r,st,S,R,P⟩=>⟨b,r,st,S,R,PostA.bind P fun l s1 us H1 b1 e1 S1 r1 P1=>by
  have hne:g l s1 ≠ .no:=fun z=>by rw [z] at P1;exact P1
  rw [A6]
  exact ⟨by rw [← r1.length];exact hlen l s1 hne,b1,l,s1,S1,r1,P1⟩⟩
def Zp (X:Cx) (E:XK) (t:List V->Hp->VK->Prop) (g:List PV->qB->Rs PV):Prop :=
 ∀ (H:Hp) (b:Bz) (st:qB) (ps:List PV) (vs:List V) (Q:VK),SR X.K H b st->RVs X.K H b ps vs->PostE X.K E H b (g ps st) Q->t vs H Q
theorem wN {x:Str} {id:String} {t:List V->Hp->VK->Prop} {g:List PV->qB->Rs PV} {ta:FA} {p:Pos} (hc:wz X (.builtin id) t) (hG:Zp X E t g) (hg:Gl X x) (hm:X.mg x=none) (hv:bootBuiltins x=some (.builtin id)) (ha:VA X E (e::es) ta) (hn:x ≠ "__name__" := by decide) (hdb:(x==("__debug__":Str))=false:=by decide)
  (he:starEach (e::es) X.env=(false,eval e X.env)::starEach es X.env:=by rfl) (hpl:(backTo pos (starEach es X.env)).any (·.1)=false:=by rfl):VE X E (.Call (.Name x p) (e::es) [] pos) (qE g ta) :=
 PE.imp (qDt hc hg hm hv ha hn hdb he hpl) fun s H Q ⟨b,r,st,S,R,P⟩=>⟨b,r,st,S,R,PostA.bind P fun l s1 us H1 b1 e1 S1 r1 P1=>hG H1 b1 s1 l us Q S1 r1 P1⟩
theorem Za {x:Str} {T:String} {t:List V->Hp->VK->Prop} {g:List PV->qB->Rs PV} {ta:FA} {p:Pos} (hc:wz X (.type T) t) (hG:Zp X E t g) (hg:Gl X x) (hm:X.mg x=none) (hv:bootBuiltins x=some (.type T)) (ha:VA X E (e::es) ta) (hn:x ≠ "__name__" := by decide) (hdb:(x==("__debug__":Str))=false:=by decide)
  (he:starEach (e::es) X.env=(false,eval e X.env)::starEach es X.env:=by rfl) (hpl:(backTo pos (starEach es X.env)).any (·.1)=false:=by rfl):VE X E (.Call (.Name x p) (e::es) [] pos) (qE g ta) :=
 PE.imp (qB6 hc hg hm hv ha hn hdb he hpl) fun s H Q ⟨b,r,st,S,R,P⟩=>⟨b,r,st,S,R,PostA.bind P fun l s1 us H1 b1 e1 S1 r1 P1=>hG H1 b1 s1 l us Q S1 r1 P1⟩
theorem RVs.one {K:W.Frag} {H:Hp} {b:Bz} {p:PV} {vs:List V} (h:RVs K H b [p] vs):∃ v,vs=[v]∧RV K H b p v:=by
 unfold RVs at h
 obtain ⟨x,r,rfl,h2,h3⟩:=h
 unfold RVs at h3;subst h3
 exact ⟨x,rfl,h2⟩
theorem RVs.two {K:W.Frag} {H:Hp} {b:Bz} {p q:PV} {vs:List V} (h:RVs K H b [p,q] vs):∃ v w,vs=[v,w]∧RV K H b p v∧RV K H b q w:=by
 unfold RVs at h
 obtain ⟨x,r,rfl,h2,h3⟩:=h
 obtain ⟨y,rfl,h4⟩:=RVs.one h3
 exact ⟨x,y,rfl,h2,h4⟩
def zR:List PV->qB->Rs PV:=fun ps st=>match ps with
 |[p]=>match w5 st p with
  |some l => .ok (.int l.length) st
  |none => .no
 |_ => .no
theorem qGU:Zp X E (fun xs H Q => ∃ p ys,xs=[.ref p]∧(SqL X.K H p ys∨SqT X.K H p ys)∧Q (.int ys.length) H) zR:=by
 intro H b st ps vs Q S r P
 unfold zR at P
 split at P
 ·rename_i p
  obtain ⟨v,rfl,r1⟩:=RVs.one r
  split at P
  ·rename_i l e
   obtain ⟨a,xs,rfl,h2,h3⟩:=Z7 S r1 e
   refine ⟨a,xs,rfl,h2,?_⟩
   rw [← h3.length]
   exact PostE.here P S QR
  ·exact P.elim
 ·exact P.elim
def wH:List PV->qB->Rs PV:=fun ps st=>match ps with
 |[p]=>match w5 st p with
  |some l => .ok (.tup l) st
  |none => .no
 |_ => .no
theorem qDW:Zp X E (fun xs H Q => ∃ p ys,xs=[.ref p]∧((SqL X.K H p ys ∧ ∀ l,H l=none->Q (.ref l) (upd H l (.tup ys)))∨(SqT X.K H p ys∧Q (.ref p) H))) wH:=by
 intro H b st ps vs Q S r P
 unfold wH at P
 split at P
 ·rename_i p
  obtain ⟨v,rfl,r1⟩:=RVs.one r
  split at P
  ·rename_i l e
   cases p with
   |tup m =>
    have e':m=l:=AW e
    subst e'
    have r0:=r1
    unfold RV at r1
    obtain ⟨a,xs,rfl,h2,h3⟩:=r1
    exact ⟨a,xs,rfl,.inr ⟨h2.sq,PostE.here P S r0⟩⟩
   |lst m =>
    obtain ⟨a,xs,rfl,h2,h3⟩:=Q3 S r1 e
    exact ⟨a,xs,rfl,.inl ⟨h2,fun p hp=>PostE.layT P S h3 hp⟩⟩
   |ref i =>
    obtain ⟨a,xs,rfl,h2,h3⟩:=Q3 S r1 e
    exact ⟨a,xs,rfl,.inl ⟨h2,fun p hp=>PostE.layT P S h3 hp⟩⟩
   |_=>cases e
  ·exact P.elim
 ·exact P.elim
def qCU:List PV->qB->Rs PV:=fun ps st=>match ps with
 |[.int i] => .ok (.int i) st
 |[.bl k] => .ok (.int (if k then 1 else 0)) st
 |_ => .no
theorem qHC:Zp X E (fun xs H Q=>(∃ i,xs=[.int i]∧Q (.int i) H) ∨ ∃ k,xs=[.bl k]∧Q (.int (if k then 1 else 0)) H) qCU:=by
 intro H b st ps vs Q S r P
 unfold qCU at P
 split at P
 ·obtain ⟨v,rfl,r1⟩:=RVs.one r
  unfold RV at r1;subst r1
  exact .inl ⟨_,rfl,PostE.here P S QR⟩
 ·obtain ⟨v,rfl,r1⟩:=RVs.one r
  unfold RV at r1;subst r1
  exact .inr ⟨_,rfl,PostE.here P S QR⟩
 ·exact P.elim
def qAI:List PV->qB->Rs PV:=fun ps st=>match ps with
 |[.int i,.int j] => .ok (.int (if j > i then j else i)) st
 |_ => .no
def yY:List PV->qB->Rs PV:=fun ps st=>match ps with
 |[.int i,.int j] => .ok (.int (if j < i then j else i)) st
 |_ => .no
theorem qHo:Zp X E (fun xs H Q => ∃ i j,xs=[.int i,.int j]∧Q (.int (if j > i then j else i)) H) qAI:=by
 intro H b st ps vs Q S r P
 unfold qAI at P
 split at P
 ·obtain ⟨v,w,rfl,r1,r2⟩:=RVs.two r
  unfold RV at r1 r2;subst r1;subst r2
  exact ⟨_,_,rfl,PostE.here P S QR⟩
 ·exact P.elim
theorem qHl:Zp X E (fun xs H Q => ∃ i j,xs=[.int i,.int j]∧Q (.int (if j < i then j else i)) H) yY:=by
 intro H b st ps vs Q S r P
 unfold yY at P
 split at P
 ·obtain ⟨v,w,rfl,r1,r2⟩:=RVs.two r
  unfold RV at r1 r2;subst r1;subst r2
  exact ⟨_,_,rfl,PostE.here P S QR⟩
 ·exact P.elim
end
def QY:FS:=fun r st => .nx r st
def qS (F G:FS):FS:=fun r st=>match F r st with
 | .nx r' st'=>G r' st'
 |o=>o
section
variable {X:Cx} {E:XK} {e a c d:Expr} {es:List Expr} {f fa fb fc:FE} {pos:Pos} {F G:FS} {s1:Stmt} {ss:List Stmt}
theorem QP:VSs X E [] QY:=PSs.imp qEl fun D s H ⟨b,r,st,S,R,P⟩=>P s H b (Ext.refl _ _) S R
theorem PostS.seq {K:W.Frag} {E:XK} {H:Hp} {b:Bz} {o:RS} {G:FS} {D:Ends} (P:PostS K E H b (match o with | .nx r' st'=>G r' st' |o=>o) D):PostS K E H b o { D with nx:=rdS K E G D }:=by
 cases o with
 |nx r st=>exact fun s H' b' e S R=>⟨b',r,st,S,R,PostS.ext (show PostS K E H b (G r st) D from P) e⟩
 |rt p st=>exact P
 |bk p st=>exact P
 |ct p st=>exact P
 |ex x st=>exact P
 |no=>exact P
theorem qK (h1:VS X E s1 F) (h2:VSs X E ss G):VSs X E (s1::ss) (qS F G):=PSs.imp (qCb h1 h2) fun D s H ⟨b,r,st,S,R,P⟩=>⟨b,r,st,S,R,PostS.seq P⟩
theorem qR (h1:VS X E s1 F):VSs X E [s1] F:=qEy h1
def qo (f:FE):FS:=fun r st=>(f r st).bindS fun p s => .rt p s
theorem qk (h:VE X E e f):VS X E (.Return (some e) pos) (qo f):=PS.imp (qDZ h) fun D s H ⟨b,r,st,S,R,P⟩ =>
 ⟨b,r,st,S,R,PostE.bindS P fun p s1 u H1 b1 e1 S1 r1 P1=>P1 u H1 b1 (Ext.refl _ _) S1 r1⟩
def Zb (f:FL):FS:=fun r st=>(f r st).bindS fun l s => .rt (.ref s.length) (s++[.l l])
def Q4 (t:FT) (F G:FS):FS:=fun r st=>(t r st).bindS fun k s=>if k=true then F r s else G r s
theorem wP {t:FT} {bs cs:List Stmt} (hc:VT X E e t) (ha:VSs X E bs F) (hb:VSs X E cs G):VS X E (.If e bs cs pos) (Q4 t F G):=PS.imp (qIj hc ha hb) fun D s H ⟨b,r,st,S,R,P⟩ =>
 ⟨b,r,st,S,R,PostT.bindS P fun k s1 H1 b1 e1 S1 P1=>by
  cases k with
  |true=>exact Jv ⟨b1,r,s1,S1,R.ext e1,P1⟩
  |false=>exact qAA ⟨b1,r,s1,S1,R.ext e1,P1⟩⟩
def qc (i:Nat) (f:FE):FS:=fun r st=>(f r st).bindS fun p s => .nx (r.set i (some p)) s
theorem qy (i:Nat) {x:Str} {p':Pos} (hN:X.N.Nodup) (h:VE X E e f) (hi:X.N[i]? = some x:=by rfl) (hx:Loc X.env.scope x:=by first |exact Or.inl rfl |exact Or.inr rfl) (hs:swapsWith e (some (.Name x p')) pos.line X.env=pure false:=by rfl) (hf:X.fn x=true∨X.env.scope.names.lookup x=some .local:=by first |exact .inl rfl |exact .inr rfl |assumption) :
  VS X E (.Assign [.Name x p'] e pos) (qc i f):=PS.imp (qET hN hi hx h hs hf) fun D s H ⟨b,r,st,S,R,P⟩ =>
 ⟨b,r,st,S,R,PostE.bindS P fun p s1 u H1 b1 e1 S1 r1 P1=>P1 _ H1 b1 (Ext.refl _ _) S1 ((R.ext e1).set r1 i)⟩
def zX (i:Nat) (f:FL):FS:=fun r st=>(f r st).bindS fun l s => .nx (r.set i (some (.ref s.length))) (s++[.l l])
theorem Ext.adopt {H H':Hp} {b b':Bz} {p:Addr} (e:Ext H b H' b') (hn:H p=none):Ext H b H' ⟨b'.b++[p],b'.z⟩:=by
 obtain ⟨n,hb,hh⟩:=e.more
 refine ⟨⟨⟨n++[p],by rw [hb,Av],fun a ha => ?_⟩,e.zm,e.keep,e.dom⟩,e.same,e.hid,e.fz⟩
 rcases Ah.mp ha with ha |ha
 ·exact hh a ha
 ·rw [AY.mp ha];exact hn
theorem PostN.bindS {K:W.Frag} {E:XK} {H:Hp} {b:Bz} {r:Rs (List PV)} {k:PV->qB->RS} {D:Ends} {R:VK} (P:PostS K E H b (r.bindS fun l s=>k (.ref s.length) (s++[.l l])) D)
  (h:∀ q st v H1 b1,Ext H b H1 b1->SR K H1 b1 st->RV K H1 b1 q v->PostS K E H1 b1 (k q st) D->R v H1):PostN K E H b r R:=by
 cases r with
 |ok l st =>
  intro p xs H' b' e hn hp hz S rs
  have e':=e.adopt hn
  have hl:b'.b.length=st.length:=S.len
  refine h (.ref st.length) (st++[.l l]) (.ref p) H' ⟨b'.b++[p],b'.z⟩ e' (S.slot (x := .l l) hz hp ⟨xs,rfl,rs⟩) ?_ (PostS.ext (show PostS K E H b (k (.ref st.length) (st++[.l l])) D from P) e')
  unfold RV
  exact ⟨p,rfl,by show (b'.b++[p])[st.length]? = some p;rw [← hl];simp⟩
 |ex x st=>exact P
 |no=>exact P
theorem qA9 (i:Nat) {f:FL} {x:Str} {p':Pos} (hN:X.N.Nodup) (h:VN X E e f) (hi:X.N[i]? = some x:=by rfl) (hx:Loc X.env.scope x:=by first |exact Or.inl rfl |exact Or.inr rfl) (hs:swapsWith e (some (.Name x p')) pos.line X.env=pure false:=by rfl) (hf:X.fn x=true∨X.env.scope.names.lookup x=some .local:=by first |exact .inl rfl |exact .inr rfl |assumption) :
  VS X E (.Assign [.Name x p'] e pos) (zX i f):=PS.imp (qET hN hi hx h hs hf) fun D s H ⟨b,r,st,S,R,P⟩ =>
 ⟨b,r,st,S,R,PostN.bindS (k:=fun q s => .nx (r.set i (some q)) s) P fun p s1 u H1 b1 e1 S1 r1 P1=>P1 _ H1 b1 (Ext.refl _ _) S1 ((R.ext e1).set r1 i)⟩
theorem qAz {f:FL} (h:VN X E e f):VS X E (.Return (some e) pos) (Zb f):=PS.imp (qDZ h) fun D s H ⟨b,r,st,S,R,P⟩ =>
 ⟨b,r,st,S,R,PostN.bindS (k:=fun q s => .rt q s) P fun p s1 u H1 b1 e1 S1 r1 P1=>P1 u H1 b1 (Ext.refl _ _) S1 r1⟩
abbrev FG:=PV->qh->Option qh
abbrev FGs:=List PV->qh->Option qh
def rdG (K:W.Frag) (g:FG):TG:=fun v s H Q => ∃ b r p st,SR K H b st∧REnv K H b r s∧RV K H b p v ∧ ∃ r',g p r=some r' ∧ ∀ s',REnv K H b r' s'->Q s' H
def qJR (K:W.Frag) (g:FGs):TGs:=fun v s H Q => ∃ b r p st,SR K H b st∧REnv K H b r s∧RVs K H b p v ∧ ∃ r',g p r=some r' ∧ ∀ s',REnv K H b r' s'->Q s' H
abbrev VG (X:Cx) (e:Expr) (g:FG):Prop:=PG X e (rdG X.K g)
abbrev VGs (X:Cx) (e:List Expr) (g:FGs):Prop:=PGs X e (qJR X.K g)
theorem PG.imp {X:Cx} {e:Expr} {t t':TG} (h:PG X e t) (i:∀ v s H Q,t' v s H Q->t v s H Q):PG X e t':=fun pins s σ H v u Q I r q=>h pins s σ H v u Q I r (i _ _ _ _ q)
theorem PGs.imp {X:Cx} {e:List Expr} {t t':TGs} (h:PGs X e t) (i:∀ v s H Q,t' v s H Q->t v s H Q):PGs X e t':=fun pins s σ H v u Q I r q=>h pins s σ H v u Q I r (i _ _ _ _ q)
def QM (i:Nat):FG:=fun p r=>some (r.set i (some p))
theorem QO (i:Nat) {x:Str} (hN:X.N.Nodup) (hi:X.N[i]? = some x:=by rfl) (hx:Loc X.env.scope x:=by first |exact Or.inl rfl |exact Or.inr rfl) (hf:X.fn x=true∨X.env.scope.names.lookup x=some .local:=by first |exact .inl rfl |exact .inr rfl |assumption):VG X (.Name x pos) (QM i) :=
 PG.imp (qFZ hN hi hx hf) fun v s H Q ⟨b,r,p,st,S,R,rv,r',e,q⟩=>q _ (by cases e;exact R.set rv i)
def w8:FGs:=fun l r=>match l with
 |[]=>some r
 |_=>none
def qd (g:FG) (gs:FGs):FGs:=fun l r=>match l with
 |p::ps=>match g p r with
  |some r'=>gs ps r'
  |none=>none
 |[]=>none
theorem wf:VGs X [] w8:=PGs.imp qFd fun v s H Q ⟨b,r,p,st,S,R,rv,r',e,q⟩=>by
 cases p with
 |nil=>unfold RVs at rv;subst rv;cases e;exact ⟨rfl,q s R⟩
 |cons _ _=>cases e
theorem qj {g:FG} {gs:FGs} (h1:VG X e g) (h2:VGs X es gs) (hs:(assignEach (e::es) X.env).map (·.2)=assign e X.env::(assignEach es X.env).map (·.2):=by rfl):VGs X (e::es) (qd g gs) :=
 PGs.imp (qEQ h1 h2 hs) fun v s H Q ⟨b,r,p,st,S,R,rv,r',e,q⟩=>by
  cases p with
  |nil=>cases e
  |cons p ps =>
   unfold RVs at rv
   obtain ⟨x,xr,rfl,h3,h4⟩:=rv
   unfold qd at e
   dsimp only at e
   cases e2:g p r with
   |none=>rw [e2] at e;cases e
   |some r2 =>
    rw [e2] at e
    exact ⟨x,xr,rfl,b,r,p,st,S,R,h3,r2,e2,fun s' R'=>⟨b,r2,ps,st,S,R',h4,r',e,q⟩⟩
def wu (n:Nat) (gs:FGs):FG:=fun p r=>match p with
 | .tup l=>if l.length=n then gs l r else none
 |_=>none
theorem WZ {k:Nat} {n:Nat} {gs:FGs} (hc:X.calm=true) (h:VGs X es gs) (hn:(assignEach es X.env).length=n:=by rfl) (hst:(assignEach es X.env).findIdx? (·.1)=none:=by rfl):VG X (.Tuple es k pos) (wu n gs) :=
 PG.imp (qGu hc h hn hst) fun v s H Q ⟨b,r,p,st,S,R,rv,r',e,q⟩=>by
  unfold wu at e
  split at e
  ·rename_i l
   split at e
   ·rename_i hl
    unfold RV at rv
    obtain ⟨a,xs,rfl,h2,h3⟩:=rv
    exact ⟨a,xs,rfl,h2.sq,by rw [← h3.length];exact hl,b,r,l,st,S,R,h3,r',e,q⟩
   ·cases e
  ·cases e
def Zk (f:FE) (g:FG):FS:=fun r st=>(f r st).bindS fun p s=>match g p r with
 |some r' => .nx r' s
 |none => .no
theorem jT {g:FG} (h:VE X E e f) (hg:VG X d g) (hs:swapsWithSole [d] e pos.line X.env=pure false:=by rfl) (hw:swappedStores [d] e X.env=pure none:=by rfl)
  (h1:(assignEach [d] X.env).map (·.2)=[assign d X.env]:=by rfl):VS X E (.Assign [d] e pos) (Zk f g):=PS.imp (qEK h hg hs hw h1) fun D s H ⟨b,r,st,S,R,P⟩ =>
 ⟨b,r,st,S,R,PostE.bindS P fun p s1 u H1 b1 e1 S1 r1 P1=>by
  cases e2:g p r with
  |none=>rw [e2] at P1;exact P1.elim
  |some r'=>rw [e2] at P1;exact ⟨b1,r,p,s1,S1,R.ext e1,r1,r',e2,fun s' R'=>P1 s' H1 b1 (Ext.refl _ _) S1 R'⟩⟩
def Jl (i j:Nat) (t:FA):FS:=fun r st=>(t r st).bindS fun l s=>match l with
 |[p,q] => .nx ((r.set i (some p)).set j (some q)) s
 |_ => .no
theorem qCl (i j:Nat) {x y:Str} {t:FA} {px py pt:Pos} {kt k2 pt2} (hc:X.calm=true) (hN:X.N.Nodup) (ha:VA X E [a,c] t) (hw:swappedStores [.Tuple [.Name x px,.Name y py] kt pt] (.Tuple [a,c] k2 pt2) X.env=pure (some [x,y]):=by rfl)
  (hi:X.N[i]? = some x:=by rfl) (hj:X.N[j]? = some y:=by rfl) (hij:i≠j:=by decide) (hx:X.env.scope.names.lookup x=some .local:=by rfl) (hy:X.env.scope.names.lookup y=some .local:=by rfl)
  (hs:swapsWithSole [.Tuple [.Name x px,.Name y py] kt pt] (.Tuple [a,c] k2 pt2) pos.line X.env=pure false:=by rfl):VS X E (.Assign [.Tuple [.Name x px,.Name y py] kt pt] (.Tuple [a,c] k2 pt2) pos) (Jl i j t) :=
 PS.imp (qGv hc hN hi hj hij hx hy ha hw hs) fun D s H ⟨b,r,st,S,R,P⟩=>⟨b,r,st,S,R,PostA.bindS P fun l s1 us H1 b1 e1 S1 r1 P1=>by
  split at P1
  ·obtain ⟨u,v,rfl,h1,h2⟩:=RVs.two r1
   exact ⟨u,v,rfl,P1 _ H1 b1 (Ext.refl _ _) S1 (((R.ext e1).set h1 i).set h2 j)⟩
  ·exact P1.elim⟩
def YU (st:qB) (o i v:PV):Option qB:=match o,i with
 | .ref n,.int k=>match st[n]? with
  |some (.l xs)=>match ixN xs.length k with
   |some j=>some (st.set n (.l (xs.set j v)))
   |none=>none
  |_=>none
 |_,_=>none
def qBG (fo fi f:FE):FS:=fun r st=>(f r st).bindS fun p s1=>(fo r s1).bindS fun o s2=>(fi r s2).bindS fun i s3=>match YU s3 o i p with
 |some s4 => .nx r s4
 |none => .no
theorem qES {K:W.Frag} {H:Hp} {b:Bz} {st st':qB} {o i p:PV} {ov iv v:V} {Q:Hp->Prop} (S:SR K H b st) (ro:RV K H b o ov) (ri:RV K H b i iv) (rp:RV K H b p v) (e:YU st o i p=some st')
  (q:∀ H' b',Ext H b H' b'->SR K H' b' st'->Q H'):qGA ov iv v H Q:=by
 unfold YU at e
 split at e
 ·rename_i n k
  split at e
  ·rename_i xs e1
   split at e
   ·rename_i j e2
    cases e
    unfold RV at ro ri
    obtain ⟨a,rfl,ha⟩:=ro
    obtain ⟨a',o',h1,h2,vs,rfl,h4⟩:=S.at_ n _ e1
    rw [ha] at h1;cases h1
    have hm:a∈b.b:=BX ha
    refine ⟨a,vs,k,j,rfl,ri,h2,by rw [← h4.length];exact e2,q _ b (Ext.wr hm S.zb (qHW h2)) (S.wr (x := .l (xs.set j p)) ha ⟨_,rfl,?_⟩)⟩
    have ew:Ext H b (upd H a (.lst (vs.set j v))) b:=Ext.wr hm S.zb (qHW h2)
    exact RVs.set (RV.ext ew p rp) j (RVs.ext ew xs h4)
   ·cases e
  ·cases e
 ·cases e
theorem qG9 {fo fi:FE} {o i:Expr} {tpos:Pos} (ho:VE X E o fo) (hi:VE X E i fi) (h:VE X E e f)
  (hs:swapsWithSole [.Subscript o i tpos] e pos.line X.env=pure false:=by rfl) (hw:swappedStores [.Subscript o i tpos] e X.env=pure none:=by rfl) (h1:(assignEach [.Subscript o i tpos] X.env).map (·.2)=[assign (.Subscript o i tpos) X.env]:=by rfl)
  (ha:∀ v,assign (.Subscript o i tpos) X.env v=(do
   let ov ← holding [v] (eval o X.env)
   let iv ← holding [v,ov] (eval i X.env)
   standAt tpos
   holding [v,ov,iv] (setItem ov iv v)
   release [v,ov,iv] []):=by intro _;rfl):VS X E (.Assign [.Subscript o i tpos] e pos) (qBG fo fi f) :=
 PS.imp (qEK h (qHu ho hi qCm ha) hs hw h1) fun D s H ⟨b,r,st,S,R,P⟩=>⟨b,r,st,S,R,PostE.bindS P fun p s1 u H1 b1 e1 S1 r1 P1 =>
  ⟨b1,r,s1,S1,R.ext e1,PostE.bindS P1 fun o s2 ou H2 b2 e2 S2 r2 P2=>⟨b2,r,s2,S2,(R.ext e1).ext e2,PostE.bindS P2 fun i s3 iu H3 b3 e3 S3 r3 P3=>by
   split at P3
   ·rename_i s4 e4
    exact qES S3 (RV.ext e3 o r2) r3 (RV.ext e3 p (RV.ext e2 p r1)) e4 fun H' b' e' S'=>P3 s H' b' e' S' ((((R.ext e1).ext e2).ext e3).ext e')
   ·exact P3.elim⟩⟩⟩
structure ItP where
 l:List PV
 G:qB->Prop
def Fz (H H':Hp):Prop := ∀ a o u,H a=some (.frz o u)->H' a=some (.frz o u)
def Zz (K:W.Frag) (H0:Hp) (b0:Bz) (J:It) (w:ItP):Prop := ∀ H1 b1 st1,WE H0 b0 H1 b1->Fz H0 H1->SR K H1 b1 st1->w.G st1 ->
 (∀ (i:Nat) (p:PV),w.l[i]? = some p->J.go i H1 ∧ ∀ x H2,J.yld i H1 x H2->Same H1 H2∧SR K H2 b1 st1∧RV K H2 b1 p x) ∧ ∀ i,w.l.length≤i->J.stop i H1
def PostI (K:W.Frag) (E:XK) (H:Hp) (b:Bz) (r:Rs ItP) (R:It->Hp->Prop):Prop:=match r with
 | .ok w st => ∀ J H' b',Ext H b H' b'->SR K H' b' st->Zz K H' b' J w->R J H'
 | .ex x st=>XP K E H b x st
 | .no=>False
abbrev FI:=qh->qB->Rs ItP
def rdI (K:W.Frag) (E:XK) (f:FI):TI:=fun s H R => ∃ b r st,SR K H b st∧REnv K H b r s∧PostI K E H b (f r st) R
abbrev VI (X:Cx) (E:XK) (tg e:Expr) (f:FI):Prop:=PI X tg e (rdI X.K E f)
theorem PostI.ext {K:W.Frag} {E:XK} {H H1:Hp} {b b1:Bz} {r:Rs ItP} {R:It->Hp->Prop} (h:PostI K E H b r R) (e:Ext H b H1 b1):PostI K E H1 b1 r R:=by
 cases r with
 |ok p st=>exact fun J H' b' e'=>h J H' b' (e.trans e')
 |ex x st=>exact XP.ext h e
 |no=>exact h
theorem PostE.bindI {K:W.Frag} {E:XK} {H:Hp} {b:Bz} {r:Rs PV} {k:PV->qB->Rs ItP} {Q:It->Hp->Prop} {R:VK} (P:PostI K E H b (r.bind k) Q)
  (h:∀ p st v H1 b1,Ext H b H1 b1->SR K H1 b1 st->RV K H1 b1 p v->PostI K E H1 b1 (k p st) Q->R v H1):PostE K E H b r R:=by
 cases r with
 |ok p st=>exact fun v H1 b1 e S r=>h p st v H1 b1 e S r (PostI.ext (show PostI K E H b (k p st) Q from P) e)
 |ex x st=>exact P
 |no=>exact P
theorem PostA.bindI {K:W.Frag} {E:XK} {H:Hp} {b:Bz} {r:Rs (List PV)} {k:List PV->qB->Rs ItP} {Q:It->Hp->Prop} {R:List V->Hp->Prop} (P:PostI K E H b (r.bind k) Q)
  (h:∀ p st v H1 b1,Ext H b H1 b1->SR K H1 b1 st->RVs K H1 b1 p v->PostI K E H1 b1 (k p st) Q->R v H1):PostA K E H b r R:=by
 cases r with
 |ok p st=>exact fun v H1 b1 e S r=>h p st v H1 b1 e S r (PostI.ext (show PostI K E H b (k p st) Q from P) e)
 |ex x st=>exact P
 |no=>exact P
def qI4 (p:PV) (st:qB):Rs ItP:=match p with
 | .ref i=>match asL st (.ref i) with
  |some l => .ok ⟨l,fun s=>s[i]? = some (.l l)⟩ st
  |none => .no
 |p=>match w5 st p with
  |some l => .ok ⟨l,fun _=>True⟩ st
  |none => .no
def qx (f:FE):FI:=fun r st=>(f r st).bind qI4
theorem qHa {l tg:Expr} {tl:TE} (hl:PE X l tl):PI X tg l (fun σ H R=>tl σ H fun x H1 => ∃ a,x = .ref a∧(((∃ xs,SqL X.K H1 a xs)∧R (Itl X.K a) H1)∨((∃ xs,SqT X.K H1 a xs)∧R (Itt X.K a) H1))):=by
 intro pins s σ H R I h
 refine thn (hl pins s σ H _ I h) fun v s1 ⟨x,H1,I1,r1,q1⟩ => ?_
 obtain ⟨a,e,q⟩:=q1
 subst e
 cases r1
 rcases q with ⟨⟨xs,hq⟩,q⟩ |⟨⟨xs,hq⟩,q⟩
 ·obtain ⟨its,rv,p,hz⟩:=I1.list hq
  refine wpAny_pyIter_list p.isList ?_
  refine ⟨s1.heap.objs.size,[s1.heap.objs.size],_,_,H1,rfl,I1.kept (t':=s1.toks) fun b o e=>AF _ e,qCS a _,⟨_,AT _ rfl,rfl,rfl⟩,fun b hb => ?_,q⟩
  have e:b=s1.heap.objs.size:=by simpa using hb
  subst e
  exact I1.fpOk (AI _) (I1.hok.fresh (AI _))
 ·obtain ⟨its,rv,p,hz⟩:=I1.tuple hq
  refine wpAny_pyIter_tuple (show s1.heap.IsTuple a its.toArray from p) ?_
  refine ⟨s1.heap.objs.size,[s1.heap.objs.size],_,_,H1,rfl,I1.kept (t':=s1.toks) fun b o e=>AF _ e,qAX a _,⟨_,AT _ rfl,rfl,rfl⟩,fun b hb => ?_,q⟩
  have e:b=s1.heap.objs.size:=by simpa using hb
  subst e
  exact I1.fpOk (AI _) (I1.hok.fresh (AI _))
theorem YR {K:W.Frag} {H0:Hp} {b0:Bz} {a:Addr} {l:List PV} {G:qB->Prop}
  (h:∀ H1 b1 st1,WE H0 b0 H1 b1->SR K H1 b1 st1->G st1 -> ∃ xs,SqL K H1 a xs∧RVs K H1 b1 l xs):Zz K H0 b0 (Itl K a) ⟨l,G⟩:=by
 intro H1 b1 st1 e _ S g
 obtain ⟨xs,hq,r⟩:=h H1 b1 st1 e S g
 refine ⟨fun i p hp => ?_,fun i hi=>⟨xs,hq,by rw [← r.length];exact hi⟩⟩
 obtain ⟨x,hx,rx⟩:=r.get hp
 exact ⟨⟨xs,x,hq,hx⟩,fun y H2 ⟨e2,hy⟩=>by
  subst e2
  have:=hy xs hq
  rw [hx] at this;cases this
  exact ⟨Same.refl _,S,rx⟩⟩
theorem qDP {K:W.Frag} {H0:Hp} {b0:Bz} {a:Addr} {l:List PV} {G:qB->Prop}
  (h:∀ H1 b1 st1,WE H0 b0 H1 b1->SR K H1 b1 st1->G st1 -> ∃ xs,SqT K H1 a xs∧RVs K H1 b1 l xs):Zz K H0 b0 (Itt K a) ⟨l,G⟩:=by
 intro H1 b1 st1 e _ S g
 obtain ⟨xs,hq,r⟩:=h H1 b1 st1 e S g
 refine ⟨fun i p hp => ?_,fun i hi=>⟨xs,hq,by rw [← r.length];exact hi⟩⟩
 obtain ⟨x,hx,rx⟩:=r.get hp
 exact ⟨⟨xs,x,hq,hx⟩,fun y H2 ⟨e2,hy⟩=>by
  subst e2
  have:=hy xs hq
  rw [hx] at this;cases this
  exact ⟨Same.refl _,S,rx⟩⟩
theorem wn {tg:Expr} (h:VE X E e f):VI X E tg e (qx f):=fun pins s σ H R I q=>qHa h pins s σ H R I (by
 obtain ⟨b,r,st,S,RE,P⟩:=q
 refine ⟨b,r,st,S,RE,PostE.bindI P fun p s1 u H1 b1 e1 S1 r1 P1 => ?_⟩
 unfold qI4 at P1
 split at P1
 ·rename_i i
  split at P1
  ·rename_i l el
   have r0:=r1
   unfold RV at r1
   obtain ⟨a,rfl,ha⟩:=r1
   obtain ⟨a',xs,e2,hq,hr⟩:=Q3 S1 r0 el
   cases e2
   refine ⟨a,rfl,.inl ⟨⟨xs,hq⟩,P1 _ H1 b1 (Ext.refl _ _) S1 (YR fun H2 b2 st2 e2 S2 g2 => ?_)⟩⟩
   obtain ⟨a'',o,k1,k2,vs,rfl,k4⟩:=S2.at_ i _ g2
   rw [e2.ix ha] at k1;cases k1
   exact ⟨vs,SqL.of k2,k4⟩
  ·exact P1.elim
 ·split at P1
  ·rename_i l el
   cases p with
   |tup m =>
    have em:m=l:=AW el
    subst em
    unfold RV at r1
    obtain ⟨a,xs,rfl,h2,h3⟩:=r1
    exact ⟨a,rfl,.inr ⟨⟨xs,h2.sq⟩,P1 _ H1 b1 (Ext.refl _ _) S1 (qDP fun H2 b2 st2 e2 S2 _=>⟨xs,(h2.wext e2).sq,RVs.wext e2 m h3⟩)⟩⟩
   |lst m =>
    have em:m=l:=AW el
    subst em
    unfold RV at r1
    obtain ⟨a,xs,rfl,h2,h3⟩:=r1
    exact ⟨a,rfl,.inl ⟨⟨xs,h2.sq⟩,P1 _ H1 b1 (Ext.refl _ _) S1 (YR fun H2 b2 st2 e2 S2 _=>⟨xs,(h2.wext e2).sq,RVs.wext e2 m h3⟩)⟩⟩
   |ref i=>rename_i hx;exact (hx i rfl).elim
   |_=>cases el
  ·exact P1.elim)
def zQ (lo hi:Int):List PV:=(List.range (hi - lo).toNat).map fun (i:Nat)=>PV.int (lo + (i:Int))
def Y2 (l:List PV) (st:qB):Rs ItP:=match l with
 |[.int j]=>if -(2 ^ 62)≤j∧j < 2 ^ 62 then .ok ⟨zQ 0 j,fun _=>True⟩ st else .no
 |_ => .no
def Y3 (l:List PV) (st:qB):Rs ItP:=match l with
 |[.int i,.int j]=>if -(2 ^ 62)≤i∧i < 2 ^ 62 ∧ -(2 ^ 62)≤j∧j < 2 ^ 62 then .ok ⟨zQ i j,fun _=>True⟩ st else .no
 |_ => .no
theorem jf {K:W.Frag} {H0:Hp} {b0:Bz} {lo hi:Int}:Zz K H0 b0 (Itr lo (hi - lo).toNat) ⟨zQ lo hi,fun _=>True⟩:=by
 intro H1 b1 st1 e _ S g
 have hl:(zQ lo hi).length=(hi - lo).toNat:=by simp [zQ]
 refine ⟨fun i p hp => ?_,fun i hi'=>by rw [show (ItP.mk (zQ lo hi) fun _=>True).l.length=(hi - lo).toNat from hl] at hi';exact hi'⟩
 have hi':i < (hi - lo).toNat:=by
  have:=(AV.mp hp).1
  rw [← hl];exact this
 unfold zQ at hp
 dsimp only at hp
 rw [Ac,CL hi'] at hp
 cases hp
 exact ⟨hi',fun x H2 ⟨e1,e2⟩=>by subst e1;subst e2;exact ⟨Same.refl _,S,QR⟩⟩
def Q1 (t:FA):FI:=fun r st=>(t r st).bind Y2
def Yc (t:FA):FI:=fun r st=>(t r st).bind Y3
theorem QV {tg:Expr} {t:FA} {p:Pos} (hg:Gl X "range") (hm:X.mg "range" = none) (ha:VA X E [a] t) (hs:starEach [a] X.env=[(false,eval a X.env)]:=by rfl):VI X E tg (.Call (.Name "range" p) [a] [] pos) (Q1 t):=fun pins s σ H R I q=>qCB hg hm ha hs pins s σ H R I (by
 obtain ⟨b,r,st,S,RE,P⟩:=q
 refine ⟨b,r,st,S,RE,PostA.bindI P fun l s1 us H1 b1 e1 S1 r1 P1 => ?_⟩
 unfold Y2 at P1
 split at P1
 ·obtain ⟨u,rfl,h1⟩:=RVs.one r1
  unfold RV at h1;subst h1
  split at P1
  ·rename_i j hj
   refine ⟨j,rfl,hj.1,hj.2,?_⟩
   have:=P1 (Itr 0 (j - 0).toNat) H1 b1 (Ext.refl _ _) S1 jf
   rw [Int.sub_zero] at this
   exact this
  ·exact P1.elim
 ·exact P1.elim)
theorem qBu {tg:Expr} {t:FA} {p:Pos} (hg:Gl X "range") (hm:X.mg "range" = none) (ha:VA X E [a,c] t) (hs:starEach [a,c] X.env=[(false,eval a X.env),(false,eval c X.env)]:=by rfl) (hs2:starEach [c] X.env=[(false,eval c X.env)]:=by rfl):VI X E tg (.Call (.Name "range" p) [a,c] [] pos) (Yc t):=fun pins s σ H R I q=>qCI hg hm ha hs hs2 pins s σ H R I (by
 obtain ⟨b,r,st,S,RE,P⟩:=q
 refine ⟨b,r,st,S,RE,PostA.bindI P fun l s1 us H1 b1 e1 S1 r1 P1 => ?_⟩
 unfold Y3 at P1
 split at P1
 ·obtain ⟨u,v,rfl,h1,h2⟩:=RVs.two r1
  unfold RV at h1 h2;subst h1;subst h2
  split at P1
  ·rename_i i j hj
   exact ⟨i,j,rfl,hj,P1 _ H1 b1 (Ext.refl _ _) S1 jf⟩
  ·exact P1.elim
 ·exact P1.elim)
theorem PSs.unbare {X:Cx} {st:List Stmt} {t:TS} (h:PSs X.nox st t) {pins:List (Addr×Obj)} {s:Shared} {σ:L2.St} {H:Hp} {D:Ends} {E:Value->Shared->Prop} (I:L2.Inv X pins σ H s) (q:t D σ H):wpAny (model X.prog X.w) X.A (execs st X.env) (SP X pins D) E s :=
 wpAny_noRaise (thn (h pins s σ H D (I.wish _) q) fun f s' hs=>hs.unwish)
theorem PG.unbare {X:Cx} {tg:Expr} {t:TG} (h:PG X.nox tg t) {pins:List (Addr×Obj)} {s:Shared} {σ:L2.St} {H:Hp} {v:V} {u:Value} {Q:L2.St->Hp->Prop} {E:Value->Shared->Prop} (I:L2.Inv X pins σ H s) (r:RelV v u) (q:t v σ H Q):wpAny (model X.prog X.w) X.A (assign tg X.env u) (fun _ s' => ∃ σ' H',L2.Inv X pins σ' H' s'∧Q σ' H') E s :=
 wpAny_noRaise (thn (h pins s σ H v u Q (I.wish _) r q) fun f s' ⟨σ',H',I',q'⟩=>⟨σ',H',I'.unwish,q'⟩)
theorem qFQ {tg iter:Expr} {body:List Stmt} {wi:TI} {g:TG} {tb:TS} {pos:Pos} (hi:PI X tg iter wi) (hg:PG X.nox tg g) (hb:PSs X.nox body tb)
  (hs:∀ x,foldedSetIterable iter X.env x=pure x:=by intro _;rfl):PS X (.For tg iter body [] pos) (qJa wi g tb):=by
 intro pins s σ H D I h
 refine wpAny_For (thn (hi pins s σ H _ I h) fun v s1 h1=>thn h1 fun itv s2 h2 => ?_) hs
 obtain ⟨it,fp,tn,J,H2,e,I2,T,st2,f2,W,⟨m0,w0⟩,turn⟩:=h2
 subst e
 have stat:∀ {H':Hp},(∀ b∈fp,H' b=none) -> ∀ b∈fp,ze X pins H' b:=fun hn b hb=>⟨hn b hb,(f2 b hb).2⟩
 refine codeAny_forLoop_any (fun n s' => ∃ i σ' H',L2.Inv X pins σ' H' s'∧tn i s'.heap∧(∀ b∈fp,H' b=none)∧W i n σ' H') ?_ m0 ⟨0,σ,H2,I2,st2,fun b hb=>(f2 b hb).1,w0⟩
 rintro n s3 ⟨i,σ3,H3,I3,st3,fr3,w3⟩
 rcases turn i n σ3 H3 w3 with ⟨stop,qn⟩ |⟨go,N,hN,step⟩
 ·refine thn (T.done X rfl rfl rfl rfl i pins s3 σ3 H3 _ I3 (stat fr3) st3 stop) fun r s4 ⟨hr,I4⟩ => ?_
  subst hr
  exact wpAny_execs_nil ⟨σ3,H3,I4,qn⟩
 ·refine thn (T.item X rfl rfl rfl rfl i pins s3 σ3 H3 _ I3 (stat fr3) st3 go) fun r s4 ⟨u,hr,h4⟩ => ?_
  subst hr
  refine thn h4 fun _ s5 ⟨x,H5,I5,r5,y5,st5,fr5⟩ => ?_
  have I5':=I5.pinned (stat fr5) (T.obj _ _ st5)
  refine thn (PG.unbare hg I5' r5 (step x H5 y5)) fun _ s6 ⟨σ6,H6,I6,q6⟩ => ?_
  refine thn (PSs.unbare hb I6 q6) fun f s7 q7 => ?_
  have again:∀ {σ7:L2.St} {H7:Hp},L2.Inv X (pins++zc fp s5.heap) σ7 H7 s7->N σ7 H7 -> ∃ m,m < n ∧ ∃ i σ' H',L2.Inv X pins σ' H' s7∧tn i s7.heap∧(∀ b∈fp,H' b=none)∧W i m σ' H':=fun {σ7 H7} I7 n7=>by
   obtain ⟨m',hm,w7⟩:=hN σ7 H7 n7
   refine ⟨m',hm,i + 1,σ7,H7,I7.unpinned,T.keep _ _ _ st5 fun b hb o e=>(I7.pin (b,o) (Aq _ (Aq _ (W2 hb e)))).1,fun b hb => ?_,w7⟩
   obtain ⟨o,e,d⟩:=T.obj _ _ st5 b hb
   exact (I7.pin (b,o) (Aq _ (Aq _ (W2 hb e)))).2.1
  cases f with
  |next=>obtain ⟨σ7,H7,I7,n7⟩:=q7;exact again I7 n7
  |cont=>obtain ⟨σ7,H7,I7,n7⟩:=q7;exact again I7 n7
  |brk=>obtain ⟨σ7,H7,I7,q7⟩:=q7;exact ⟨σ7,H7,I7.unpinned,q7⟩
  |ret v=>obtain ⟨x7,σ7,H7,I7,r7,q7⟩:=q7;exact ⟨x7,σ7,H7,I7.unpinned,r7,q7⟩
open Classical in
noncomputable def Qh (G:qB->Prop) (g:FG) (F:FS):List PV->qh->qB->RS
 |[],r,st=>if G st then .nx r st else .no
 |p::ps,r,st=>if G st then
   match g p r with
   |none => .no
   |some r1=>match F r1 st with
    | .nx r2 s2=>Qh G g F ps r2 s2
    | .ct r2 s2=>Qh G g F ps r2 s2
    | .bk r2 s2 => .nx r2 s2
    | .rt v s2 => .rt v s2
    | .ex _ _ => .no
    | .no => .no
  else .no
noncomputable def WQ (fi:FI) (g:FG) (F:FS):FS:=fun r st=>(fi r st).bindS fun w s=>Qh w.G g F w.l r s
theorem PostI.bindS {K:W.Frag} {E:XK} {H:Hp} {b:Bz} {r:Rs ItP} {k:ItP->qB->RS} {D:Ends} {R:It->Hp->Prop} (P:PostS K E H b (r.bindS k) D)
  (h:∀ w st J H1 b1,Ext H b H1 b1->SR K H1 b1 st->Zz K H1 b1 J w->PostS K E H1 b1 (k w st) D->R J H1):PostI K E H b r R:=by
 cases r with
 |ok p st=>exact fun J H1 b1 e S r=>h p st J H1 b1 e S r (PostS.ext (show PostS K E H b (k p st) D from P) e)
 |ex x st=>exact P
 |no=>exact P
theorem zF {tg iter:Expr} {body:List Stmt} {fi:FI} {g:FG} (hi:VI X E tg iter fi) (hg:VG X.nox tg g) (hb:VSs X.nox E0 body F) (hs:∀ x,foldedSetIterable iter X.env x=pure x:=by intro _;rfl):VS X E (.For tg iter body [] pos) (WQ fi g F):=by
 refine PS.imp (qFQ hi hg hb hs) fun D s H ⟨b,r,st,S,R,P⟩ => ?_
 refine ⟨b,r,st,S,R,PostI.bindS P fun w st1 J H1 b1 e1 S1 it P1 => ?_⟩
 refine ⟨fun i m σ' H' => ∃ b2 r2 st2,Ext H1 b1 H' b2∧SR X.K H' b2 st2∧REnv X.K H' b2 r2 σ'∧m=w.l.length + 1 - i∧i≤w.l.length∧PostS X.K E H' b2 (Qh w.G g F (w.l.drop i) r2 st2) D,⟨w.l.length + 1,b1,r,st1,Ext.refl _ _,S1,R.ext e1,by omega,BG _,by simpa using P1⟩,?_⟩
 rintro i m σ' H' ⟨b2,r2,st2,e2,S2,R2,hm,hi',P2⟩
 by_cases hlt:i < w.l.length
 ·have hd:w.l.drop i=w.l[i]::w.l.drop (i + 1):=List.drop_eq_getElem_cons hlt
  rw [hd] at P2
  unfold Qh at P2
  by_cases hG:w.G st2
  ·rw [AC hG] at P2
   obtain ⟨h1,h2⟩:=it H' b2 st2 e2.toWE e2.fz S2 hG
   obtain ⟨go,yl⟩:=h1 i w.l[i] (AS hlt)
   refine .inr ⟨go,fun σ3 H3 => ∃ b3 r3 st3,Ext H1 b1 H3 b3∧SR X.K H3 b3 st3∧REnv X.K H3 b3 r3 σ3∧PostS X.K E H3 b3 (Qh w.G g F (w.l.drop (i + 1)) r3 st3) D,?_,?_⟩
   ·rintro σ3 H3 ⟨b3,r3,st3,k1,k2,k3,k4⟩
    exact ⟨w.l.length + 1 - (i + 1),by omega,b3,r3,st3,k1,k2,k3,rfl,hlt,k4⟩
   ·intro x H3 hx
    obtain ⟨e3',S3,r3⟩:=yl x H3 hx
    have e3:Ext H' b2 H3 b2:=Ext.of_same e3'
    cases eg:g w.l[i] r2 with
    |none=>rw [eg] at P2;exact P2.elim
    |some r4 =>
     rw [eg] at P2
     refine ⟨b2,r2,w.l[i],st2,S3,R2.ext e3,r3,r4,eg,fun s4 R4=>⟨b2,r4,st2,S3,R4,?_⟩⟩
     have P3:=PostS.ext P2 e3
     dsimp only at P3
     have e13:=e2.trans e3
     cases eF:F r4 st2 with
     |nx r5 s5=>rw [eF] at P3;exact fun s6 H6 b6 e6 S6 R6=>⟨b6,r5,s5,e13.trans e6,S6,R6,PostS.ext P3 e6⟩
     |ct r5 s5=>rw [eF] at P3;exact fun s6 H6 b6 e6 S6 R6=>⟨b6,r5,s5,e13.trans e6,S6,R6,PostS.ext P3 e6⟩
     |bk r5 s5=>rw [eF] at P3;exact P3
     |rt v s5=>rw [eF] at P3;exact P3
     |ex x s5=>rw [eF] at P3;exact P3.elim
     |no=>rw [eF] at P3;exact P3.elim
  ·rw [AH hG] at P2;exact P2.elim
 ·have hl:i=w.l.length:=by omega
  subst hl
  rw [List.drop_length] at P2
  unfold Qh at P2
  by_cases hG:w.G st2
  ·rw [AC hG] at P2
   obtain ⟨h1,h2⟩:=it H' b2 st2 e2.toWE e2.fz S2 hG
   exact .inl ⟨h2 _ (AI _),P2 σ' H' b2 (Ext.refl _ _) S2 R2⟩
  ·rw [AH hG] at P2;exact P2.elim
end
theorem q9 {x n:Str} {a c:Addr} {r:List (Str×Addr)} (h:List.lookup x ((n,a)::r)=some c):(x=n∧a=c)∨(x≠n∧List.lookup x r=some c):=by
 rw [An] at h
 cases hb:x==n with
 |true=>rw [hb] at h;exact .inl ⟨A7.mp hb,AW h⟩
 |false=>rw [hb] at h;exact .inr ⟨fun z=>(by rw [A7.mpr z] at hb;cases hb),h⟩
theorem Qi {x:Str} {c:Addr}:∀ {names:List (Str×NameKind)} {n:Nat} {acc:List (Str×Addr)},(cellsFrom n names acc).lookup x=some c->(n≤c∧(x,NameKind.cell)∈names)∨acc.lookup x=some c
 |[],_,_,h => .inr h
 |(nm,k)::r,n,acc,h=>by
  unfold cellsFrom at h
  split at h
  ·rename_i hk
   have hk':k = .cell:=by simpa using hk
   rcases Qi h with ⟨h1,h2⟩ |h1
   ·exact .inl ⟨Nat.le_of_succ_le h1,AG _ h2⟩
   ·rcases q9 h1 with ⟨e1,e2⟩ |⟨_,e2⟩
    ·exact .inl ⟨Nat.le_of_eq e2,by rw [e1,hk'];exact AD⟩
    ·exact .inr e2
  ·rcases Qi h with ⟨h1,h2⟩ |h1
   ·exact .inl ⟨h1,AG _ h2⟩
   ·exact .inr h1
theorem Wa {x:Str} {c:Addr} {n0:Nat}:∀ {names:List (Str×NameKind)} {n:Nat} {acc:List (Str×Addr)},n0≤n->((∃ a,acc.lookup x=some a∧n0≤a)∨(x,NameKind.cell)∈names)->(cellsFrom n names acc).lookup x=some c->n0≤c
 |[],_,acc,_,h,e=>by
  rcases h with ⟨a,h1,h2⟩ |h
  ·have:acc.lookup x=some c:=e
   rw [h1] at this;cases this;exact h2
  ·exact absurd h (by simp)
 |(nm,k)::r,n,acc,hn,h,e=>by
  unfold cellsFrom at e
  split at e
  ·rename_i hk
   refine Wa (n:=n + 1) (Nat.le_succ_of_le hn) ?_ e
   by_cases hx:x=nm
   ·exact .inl ⟨n,by rw [An,hx,Az],hn⟩
   ·rcases h with ⟨a,h1,h2⟩ |h
    ·exact .inl ⟨a,by rw [An,Bj hx];exact h1,h2⟩
    ·rcases AL.mp h with q |q
     ·exact absurd (CJ q).1 hx
     ·exact .inr q
  ·rename_i hk
   refine Wa hn ?_ e
   rcases h with h |h
   ·exact .inl h
   ·rcases AL.mp h with q |q
    ·exact absurd (by rw [← (CJ q).2];rfl) hk
    ·exact .inr q
theorem Wc {x y:Str} {c:Addr}:∀ {names:List (Str×NameKind)} {n:Nat} {acc:List (Str×Addr)},(∀ z a,acc.lookup z=some a->a < n)->(cellsFrom n names acc).lookup x=some c->(cellsFrom n names acc).lookup y=some c ->
  x=y∨(acc.lookup x=some c∧acc.lookup y=some c)
 |[],_,_,_,h1,h2 => .inr ⟨h1,h2⟩
 |(nm,k)::r,n,acc,hb,h1,h2=>by
  unfold cellsFrom at h1 h2
  split at h1
  ·rename_i hk
   rw [AC hk] at h2
   have hb':∀ z a,List.lookup z ((nm,n)::acc)=some a->a < n + 1:=fun z a h=>by
    rcases q9 h with ⟨_,e⟩ |⟨_,e⟩
    ·rw [← e];exact Nat.lt_succ_self _
    ·exact BB (hb z a e)
   rcases Wc hb' h1 h2 with e |⟨e1,e2⟩
   ·exact .inl e
   ·rcases q9 e1 with ⟨p1,p2⟩ |⟨p1,p2⟩ <;> rcases q9 e2 with ⟨q1,q2⟩ |⟨q1,q2⟩
    ·exact .inl (p1.trans q1.symm)
    ·exact absurd (hb y c q2) (by rw [← p2];exact Bk _)
    ·exact absurd (hb x c p2) (by rw [← q2];exact Bk _)
    ·exact .inr ⟨p2,q2⟩
  ·rename_i hk
   rw [AH hk] at h2
   exact Wc hb h1 h2
theorem we {x:Str}:∀ {names:List (Str×NameKind)} {n:Nat} {acc:List (Str×Addr)},((∃ a,acc.lookup x=some a)∨(x,NameKind.cell)∈names) -> ∃ c,(cellsFrom n names acc).lookup x=some c
 |[],_,_,h=>h.elim (fun h=>h) fun h=>absurd h (by simp)
 |(nm,k)::r,n,acc,h=>by
  unfold cellsFrom
  split
  ·rename_i hk
   refine we ?_
   by_cases hx:x=nm
   ·exact .inl ⟨n,by rw [An,hx,Az]⟩
   ·rcases h with ⟨a,h1⟩ |h
    ·exact .inl ⟨a,by rw [An,Bj hx];exact h1⟩
    ·rcases AL.mp h with q |q
     ·exact absurd (CJ q).1 hx
     ·exact .inr q
  ·rename_i hk
   refine we ?_
   rcases h with h |h
   ·exact .inl h
   ·rcases AL.mp h with q |q
    ·exact absurd (by rw [← (CJ q).2];rfl) hk
    ·exact .inr q
theorem WP {x:Str} {c:Addr}:∀ {names:List (Str×NameKind)} {h:Heap} {acc:List (Str×Addr)},(cellsFrom h.objs.size names acc).lookup x=some c->(∃ o,acc.lookup x=some c∧o=())∨(pushCells h names).IsCell c none
 |[],_,_,e => .inl ⟨(),e,rfl⟩
 |(nm,k)::r,h,acc,e=>by
  unfold cellsFrom at e
  unfold pushCells
  split at e
  ·rename_i hk
   rw [AC hk]
   have e':(cellsFrom (h.push { cls := .type "cell",data := .cell none }).objs.size r ((nm,h.objs.size)::acc)).lookup x=some c:=by rw [A9];exact e
   rcases WP e' with ⟨_,q,_⟩ |q
   ·rcases q9 q with ⟨_,e2⟩ |⟨_,e2⟩
    ·subst e2
     exact .inr ⟨_,CN _ _ _ _ (AT _ rfl),rfl⟩
    ·exact .inl ⟨(),e2,rfl⟩
   ·exact .inr q
  ·rename_i hk
   rw [AH hk]
   exact WP e
def clF (env:Env):List (Str×NameKind)->List (Str×Addr)->List (Str×Addr)
 |[],acc=>acc
 |(n,k)::r,acc=>if k == .free then clF env r ((n,(env.cells.lookup n).getD 0)::acc) else clF env r acc
theorem qC3 {env:Env} (f:Str×NameKind->List (Str×Addr)->Sem (ForInStep (List (Str×Addr))))
  (hf:∀ n k acc,f (n,k) acc=if k == .free then (do let a ← cellOf env n;pure (.yield ((n,a)::acc))) else pure (.yield acc)) :
  ∀ (names:List (Str×NameKind)) (acc:List (Str×Addr)),(∀ x∈names,x.2 = .free -> ∃ c,env.cells.lookup x.1=some c)->forIn names acc f=(pure (clF env names acc):Sem _)
 |[],acc,_=>by rw [List.forIn_nil];rfl
 |(n,k)::r,acc,h=>by
  rw [List.forIn_cons,hf]
  unfold clF
  have ih:=fun a=>qC3 f hf r a fun x hx=>h x (AG _ hx)
  split
  ·rename_i hk
   have hk':k = .free:=by simpa using hk
   obtain ⟨c,e⟩:=h (n,k) AD hk'
   have ec:cellOf env n=pure c:=by unfold cellOf;rw [show env.cells.lookup n=some c from e]
   rw [ec]
   simp only [pure_bind]
   rw [ih,show env.cells.lookup n=some c from e];rfl
  ·simp only [pure_bind]
   exact ih acc
theorem yj {scope:Scope} {env:Env} (h:∀ x∈scope.names,x.2 = .free -> ∃ c,env.cells.lookup x.1=some c):closureFor scope env=pure (clF env scope.names []):=by
 unfold closureFor
 dsimp only
 rw [qC3 _ (fun n k acc=>by cases hk:k==NameKind.free <;> simp [hk]) _ _ h]
 rfl
theorem yU {env:Env} {x:Str} {c:Addr}:∀ {names:List (Str×NameKind)} {acc:List (Str×Addr)},(∀ y∈names,y.2 = .free -> ∃ c,env.cells.lookup y.1=some c)->(clF env names acc).lookup x=some c->env.cells.lookup x=some c∨acc.lookup x=some c
 |[],_,_,e => .inr e
 |(n,k)::r,acc,h,e=>by
  unfold clF at e
  have h':=fun y hy=>h y (AG _ hy)
  split at e
  ·rename_i hk
   have hk':k = .free:=by simpa using hk
   obtain ⟨a,ea⟩:=h (n,k) AD hk'
   rcases yU h' e with q |q
   ·exact .inl q
   ·rcases q9 q with ⟨e1,e2⟩ |⟨_,e2⟩
    ·rw [show env.cells.lookup n=some a from ea] at e2
     exact .inl (by rw [e1,show env.cells.lookup n=some a from ea];exact B3 some e2)
    ·exact .inr e2
  ·exact yU h' e
theorem Z8 {env:Env} {x:Str}:∀ {names:List (Str×NameKind)} {acc:List (Str×Addr)},((x,NameKind.free)∈names ∨ ∃ a,acc.lookup x=some a) -> ∃ c,(clF env names acc).lookup x=some c
 |[],_,h=>h.elim (fun h=>absurd h (by simp)) fun h=>h
 |(n,k)::r,acc,h=>by
  unfold clF
  split
  ·refine Z8 ?_
   by_cases hx:x=n
   ·exact .inr ⟨_,by rw [An,hx,Az]⟩
   ·rcases h with h |⟨a,h⟩
    ·rcases AL.mp h with q |q
     ·exact absurd (CJ q).1 hx
     ·exact .inl q
    ·exact .inr ⟨a,by rw [An,Bj hx];exact h⟩
  ·rename_i hk
   refine Z8 ?_
   rcases h with h |h
   ·rcases AL.mp h with q |q
    ·exact absurd (by rw [← (CJ q).2];rfl) hk
    ·exact .inl q
   ·exact .inr h
def qJi (X:Cx) (scope:Scope) (C:Addr):Env :=
 { scope:=relabel scope X.env,locals:=C,globals:=X.env.globals,cells:=cellsFrom (C + 1) scope.names (clF X.env scope.names []),qual:=X.env.qual,func:=none,code:=X.env.code,frame:=X.env.frame,builtins:=X.env.builtins }
def cCx (X:Cx) (scope:Scope) (N:List Str) (s:Shared) (H:Hp) (fp:List Addr) (pn:List (Addr×Obj)):Cx where
 prog:=X.prog
 w:=X.w
 K:=X.K
 mg:=X.mg
 base:=X.base
 A:=X.A
 N:=N
 s₀:=s
 H₀:=H
 env:=qJi X scope s.heap.objs.size
 outer:=X.stack
 stack:=X.stack
 ex:=fp
 fn:=fun x=>scope.names.lookup x==some .cell
 calm:=X.calm
 pn:=pn
 xe:=fun _ _=>False
structure CSc (X:Cx) (scope:Scope) (capN locN:List Str) (caps:List Nat):Prop where
 kind:scope.kind = .function
 nd:(scope.names.map (·.1)).Nodup
 fr:∀ x∈scope.names,x.2 = .free->(X.env.kindOf x.1=some .cell∨X.env.kindOf x.1=some .free)
 len:capN.length=caps.length
 cap:∀ (i:Nat) (x:Str) (j:Nat),capN[i]? = some x->caps[i]? = some j->X.N[j]? = some x∧(x,NameKind.free)∈scope.names
theorem WI {x:Str} {k:NameKind}:∀ {names:List (Str×NameKind)},(names.map (·.1)).Nodup->(x,k)∈names->names.lookup x=some k
 |(n,k')::r,nd,h=>by
  rw [AK,BK] at nd
  rw [An]
  rcases AL.mp h with q |q
  ·obtain ⟨rfl,rfl⟩:=CJ q
   rw [Az]
  ·have hne:x≠n:=fun z=>nd.1 (by rw [← z];exact AQ.mpr ⟨(x,k),q,rfl⟩)
   rw [Bj hne]
   exact WI nd.2 q
theorem wK {env:Env} {x:Str}:∀ {names:List (Str×NameKind)},
  (names.map fun (n,k)=>if (k==NameKind.free&&env.scope.kind == .function&&env.kindOf n==some .cell) then (n,NameKind.cell) else (n,k)).lookup x=(names.lookup x).map fun k=>if (k==NameKind.free&&env.scope.kind == .function&&env.kindOf x==some .cell) then NameKind.cell else k
 |[]=>rfl
 |(n,k)::r=>by
  rw [AK,An]
  show List.lookup x ((if (k==NameKind.free&&env.scope.kind == .function&&env.kindOf n==some .cell)=true then (n,NameKind.cell) else (n,k))::_)=_
  cases hx:x==n with
  |true =>
   have hx':x=n:=A7.mp hx
   subst hx'
   by_cases hc:(k==NameKind.free&&env.scope.kind == .function&&env.kindOf x==some .cell)=true
   ·rw [AC hc]
    simp only [An,Az,Option.map_some]
    rw [AC hc]
   ·rw [AH hc]
    simp only [An,Az,Option.map_some]
    rw [AH hc]
  |false =>
   by_cases hc:(k==NameKind.free&&env.scope.kind == .function&&env.kindOf n==some .cell)=true
   ·rw [AC hc]
    simp only [An,hx]
    exact wK
   ·rw [AH hc]
    simp only [An,hx]
    exact wK
theorem yX {X:Cx} {scope:Scope} {capN locN:List Str} {caps:List Nat} (cs:CSc X scope capN locN caps) {pins:List (Addr×Obj)} {σ:L2.St} {H:Hp} {s s4:Shared} {fp:List Addr} (I:L2.Inv X pins σ H s) (hf:∀ b∈fp,ze X pins H b) (hlt:∀ b∈fp,b < s.heap.objs.size)
  (h4:s4={ s with heap:=pushCells (s.heap.push { cls := .type "dict",data := .dict #[] }) scope.names }) :
  L2.Inv (cCx X scope (capN++locN) s H fp (X.pn++pins)) [] ((caps.map fun j=>(σ[j]?).join)++List.replicate locN.length none) H s4:=by
 have hfree:∀ x∈scope.names,x.2 = .free -> ∃ c,X.env.cells.lookup x.1=some c:=fun x hx hk=>I.ok.has x.1 (cs.fr x hx hk)
 have keep:∀ b o,s.heap.get? b=some o->s4.heap.get? b=some o:=fun b o e=>by subst h4;exact CN _ _ _ _ (AF _ e)
 have clook:∀ x c,(clF X.env scope.names []).lookup x=some c->X.env.cells.lookup x=some c:=fun x c e=>(yU hfree e).elim (fun q=>q) fun q=>by cases q
 have clt:∀ x c,(clF X.env scope.names []).lookup x=some c->c < s.heap.objs.size:=fun x c e=>by
  obtain ⟨v,q⟩:=I.cell x c (clook x c e)
  exact q.lt
 have cases':∀ x c,(cellsFrom (s.heap.objs.size + 1) scope.names (clF X.env scope.names [])).lookup x=some c->(s.heap.objs.size + 1≤c)∨(c < s.heap.objs.size∧X.env.cells.lookup x=some c):=fun x c e=>by
  rcases Qi e with ⟨q,_⟩ |q
  ·exact .inl q
  ·exact .inr ⟨clt x c q,clook x c q⟩
 have isfree:∀ x,(X.env.kindOf x=some .cell∨X.env.kindOf x=some .free)->True:=fun _ _=>trivial
 refine ⟨⟨I.ok.mod,cs.kind,I.ok.glob,I.ok.blt,AI _,fun x y c h1 h2 => ?_,fun x hx => ?_,fun x c hx e => ?_,I.ok.hd,I.ok.frames,.inl rfl,fun b hb=>⟨AU (hlt b hb),fun x c e => ?_⟩,fun b o e=>I.bs b o e,Aa I.ok.bsz I.sz,fun b o e hb => ?_,fun b hb hm => ?_,I.stack,I.stkFree⟩,
  by subst h4;rfl,by subst h4;exact I.bare,Un.kept keep,?_,fun x c e => ?_,I.hok.fresh (AI _),fun x c e => ?_,fun p hp => ?_,I.hok.kept keep,?_,I.hnd⟩
 ·rcases Wc (fun z a e=>BB (clt z a e)) h1 h2 with e |⟨e1,e2⟩
  ·exact e
  ·exact I.ok.inj x y c (clook x c e1) (clook y c e2)
 ·refine we ?_
  have hx':(relabel scope X.env).names.lookup x=some .cell∨(relabel scope X.env).names.lookup x=some .free:=hx
  have e:(relabel scope X.env).names.lookup x=(scope.names.lookup x).map fun k=>if (k==NameKind.free&&X.env.scope.kind == .function&&X.env.kindOf x==some .cell) then NameKind.cell else k:=wK
  rw [e] at hx'
  cases q:scope.names.lookup x with
  |none=>rw [q] at hx';rcases hx' with z |z <;> cases z
  |some k =>
   rw [q] at hx'
   have hm:=BN q
   by_cases hk:k = .free
   ·subst hk
    exact .inl (Z8 (.inl hm))
   ·have hkf:(k==NameKind.free)=false:=by simpa using hk
    simp only [Option.map_some,hkf,Bool.false_and,BF,BY] at hx'
    rcases hx' with z |z
    ·cases z;exact .inr hm
    ·cases z;exact absurd rfl hk
 ·have hx':scope.names.lookup x=some .cell:=by simpa [cCx] using hx
  exact Nat.le_of_succ_le (Wa (n0:=s.heap.objs.size + 1) (AI _) (.inr (BN hx')) e)
 ·rcases cases' x c e with q |⟨q,q'⟩
  ·exact fun z=>by rw [z] at q;exact absurd (hlt b hb) (Nat.not_lt.mpr (Nat.le_of_succ_le q))
  ·exact (hf b hb).2.2.2.2.1 x c q'
 ·obtain ⟨_,_,_,h3,_⟩:=hf b hb
  rcases h3 with q |q
  ·exact I.ok.noex b o e q
  ·exact absurd (AJ e) (Nat.not_lt.mpr (Aa I.ok.bsz q))
 ·obtain ⟨_,h1,h2,_⟩:=hf b hb
  exact (AL.mp (I.stkSub b hm)).elim h1 h2
 ·refine ⟨fun _=>none,?_,fun i x v e1 e2 e3 => ?_⟩
  ·subst h4
   exact (Heap.Ns.new s.heap (.type "dict")).keeps (CN _ _)
  ·have hi:i < caps.length:=by
    by_cases hi:i < caps.length
    ·exact hi
    ·rw [A1 (by simpa using hi),Bw] at e2
     split at e2 <;> cases e2
   rw [Ak (by simpa using hi),Ac] at e2
   have e1':(capN++locN)[i]? = some x:=e1
   rw [Ak (by rw [cs.len];exact hi)] at e1'
   cases ej:caps[i]? with
   |none=>rw [ej] at e2;cases e2
   |some j =>
    rw [ej] at e2
    obtain ⟨k1,k2⟩:=cs.cap i x j e1' ej
    have e2':σ[j]? = some (some v):=by
     have e2'':(σ[j]?).join=some v:=AW e2
     cases q:σ[j]? with
     |none=>rw [q] at e2'';cases e2''
     |some o=>rw [q] at e2'';exact B3 some e2''
    have hk:=cs.fr _ k2 rfl
    obtain ⟨m,hn,hl⟩:=I.loc
    obtain ⟨u,ru,lu⟩:=hl j x v k1 e2' (hk.elim (fun z => .inr (.inl z)) fun z => .inr (.inr z))
    refine ⟨u,ru,.inr ?_⟩
    have hc:∃ c,X.env.cells.lookup x=some c∧s.heap.IsCell c (some u):=by
     rcases lu with ⟨z,_⟩ |⟨_,z⟩
     ·rcases hk with y |y <;> · rw [z] at y;cases y
     ·exact z
    obtain ⟨c,c1,c2⟩:=hc
    obtain ⟨c',e'⟩:=Z8 (env:=X.env) (acc:=[]) (.inl k2)
    have e2:=clook x c' e'
    rw [c1] at e2;cases e2
    have hlk:scope.names.lookup x=some .free:=WI cs.nd k2
    refine ⟨?_,c,?_,c2.keeps keep⟩
    ·show (relabel scope X.env).names.lookup x=some .cell∨(relabel scope X.env).names.lookup x=some .free
     have e:(relabel scope X.env).names.lookup x=(scope.names.lookup x).map fun k=>if (k==NameKind.free&&X.env.scope.kind == .function&&X.env.kindOf x==some .cell) then NameKind.cell else k:=wK
     rw [e,hlk]
     simp only [Option.map_some]
     split
     ·exact .inl rfl
     ·exact .inr rfl
    ·obtain ⟨d,hd⟩:=we (names:=scope.names) (n:=s.heap.objs.size + 1) (acc:=clF X.env scope.names []) (x:=x) (.inl ⟨c,e'⟩)
     rcases Qi hd with ⟨q,q'⟩ |q
     ·have:=WI cs.nd q'
      rw [hlk] at this;cases this
     ·rw [e'] at q;cases q;exact hd
 ·rcases Qi e with ⟨q,_⟩ |q
  ·have e':(cellsFrom (s.heap.push { cls := .type "dict",data := .dict #[] }).objs.size scope.names (clF X.env scope.names [])).lookup x=some c:=by rw [A9];exact e
   rcases WP e' with ⟨_,z,_⟩ |z
   ·obtain ⟨v,y⟩:=I.cell x c (clook x c z)
    exact ⟨v,y.keeps keep⟩
   ·subst h4;exact ⟨none,z⟩
  ·obtain ⟨v,y⟩:=I.cell x c (clook x c q)
   exact ⟨v,y.keeps keep⟩
 ·rcases cases' x c e with q |⟨q,q'⟩
  ·exact I.hok.fresh (Nat.le_of_succ_le q)
  ·exact I.freeC x c q'
 ·have hp':p∈X.pn++pins:=by simpa [cCx] using hp
  obtain ⟨k1,k2,k3,k4,k5⟩:=I.pin p hp'
  exact ⟨keep _ _ k1,k2,AU (AJ k1),fun z=>(AL.mp (I.stkSub p.1 z)).elim k3 k4,k5⟩
 ·show ((caps.map fun j=>(σ[j]?).join)++List.replicate locN.length none).length=(capN++locN).length
  rw [Ab,AB,List.length_replicate,Ab,cs.len]
theorem JB {X:Cx} {scope:Scope} {N:List Str} {pins:List (Addr×Obj)} {σ σ':L2.St} {H H':Hp} {s s':Shared} {h'':Heap} {fp:List Addr} (I:L2.Inv X pins σ H s) (hf:∀ b∈fp,ze X pins H b)
  (J:L2.Inv (cCx X scope N s H fp (X.pn++pins)) [] σ' H' s') (sb:Heap.SameBut s.heap.objs.size s'.heap h''):L2.Inv X pins σ H' { s' with heap:=h'' }:=by
 have hos:s'.os=s.os:=J.os
 have hC:∀ b o,s.heap.get? b=some o->b≠s.heap.objs.size:=fun b o e=>AU (AJ e)
 have u:Un (frs X.stack) fp H H' s.heap h'':=by
  have u0:=J.base
  exact ⟨fun b o e n h1 h2=>sb.extBut b o (hC b o e) (u0.keep b o e n h1 h2),fun b o e n h1 h2=>(u0.slot b o e n h1 h2).elim fun sl q=>⟨sl,sb.extBut b _ (hC b o e) q⟩,u0.free,fun b o e h2=>(u0.there b o e h2).elim fun o' q=>⟨o',sb.extBut b o' (hC b o e) q⟩,u0.tups,u0.frzs,u0.tbls⟩
 have hok:HOk X.prog X.w H' h'':=fun a o e=>by
  refine (J.hok a o e).stay (fun b v hb q=>sb.extBut b v ?_ q) (fun _ q=>q) fun _ _ q=>q
  have hn:H' s.heap.objs.size=none:=J.free
  rcases hb with z |z
  ·rw [z];exact qJ e hn
  ·exact qJ z hn
 obtain ⟨hh,g,d,t,os'⟩:=s'
 obtain rfl:os'=s.os:=hos
 have fin:=L2.Inv.call (s:=s) (h':=h'') (g':=g) (d':=d) (t':=t) (ch:=fp) I u hok J.bare fun b hb=>by
  obtain ⟨k0,k1,k2,k3,k4,k5⟩:=hf b hb
  exact ⟨k3,k1,k4,k5⟩
 exact fin
theorem YJ {elt:Expr} {gens:List Comprehension} {scope:Scope} {pos:Pos} {d:Nat} {it acc:Value} {env:Env} {g:Comprehension} (hg:gens[d]? = some g) (ha:g.is_async=0) (hn:gens[d + 1]? = none) :
  compTurn (.ListComp elt gens scope pos) d it acc env=(standAt g.iter.pos >>= fun _=>pyNext it >>= fun r=>match r with
   |none=>pure (.done .next)
   |some v=>letOwnedTupleGo g.target it v >>= fun _=>assign g.target env v >>= fun _ =>
    (forIn g.ifs true fun c r=>if r=true then do let ok ← isTrue c env (eval c env);pure (ForInStep.yield ok) else pure (ForInStep.yield r)) >>= fun ok =>
    if ok=true then (eval elt env >>= fun x=>call (.builtin "list.append") [acc,x] >>= fun _=>pure ()) >>= fun _=>again (.compLoop (.ListComp elt gens scope pos) d it acc env)
    else again (.compLoop (.ListComp elt gens scope pos) d it acc env)):=by
 unfold compTurn
 dsimp only
 rw [hg]
 dsimp only
 rw [hn,ha]
 rfl
theorem YH {elt:Expr} {gens:List Comprehension} {scope:Scope} {pos:Pos} {d:Nat} {it acc:Value} {env:Env} {g g':Comprehension} (hg:gens[d]? = some g) (ha:g.is_async=0) (hn:gens[d + 1]? = some g') (ha':g'.is_async=0) :
  compTurn (.ListComp elt gens scope pos) d it acc env=(standAt g.iter.pos >>= fun _=>pyNext it >>= fun r=>match r with
   |none=>pure (.done .next)
   |some v=>letOwnedTupleGo g.target it v >>= fun _=>assign g.target env v >>= fun _ =>
    (forIn g.ifs true fun c r=>if r=true then do let ok ← isTrue c env (eval c env);pure (ForInStep.yield ok) else pure (ForInStep.yield r)) >>= fun ok =>
    if ok=true then (eval g'.iter env >>= fun x=>standAt g'.iter.pos >>= fun _=>foldedSetIterable g'.iter env x >>= fun x=>holding [x] (pyIter x) >>= fun it'=>runOwn (.compStart (.ListComp elt gens scope pos) (d + 1) it' acc env) env >>= fun _=>again (.compLoop (.ListComp elt gens scope pos) d it acc env))
    else again (.compLoop (.ListComp elt gens scope pos) d it acc env)):=by
 unfold compTurn
 dsimp only
 rw [hg]
 dsimp only
 rw [hn,ha]
 dsimp only
 rw [ha']
 rfl
theorem Wu {prog:Program} {w:World} {A:Around} {R:Result->Shared->Prop} {s:Shared} {elt:Expr} {gens:List Comprehension} {scope:Scope} {pos:Pos} {d:Nat} {it acc:Value} {env:Env} {g:Comprehension} (hg:gens[d]? = some g) (ha:g.is_async=0)
  (h0:codeAny (model prog w) A (.compLoop (.ListComp elt gens scope pos) d it acc env) R s)
  (h:wpAny (model prog w) A (pyIter it) (fun it' s'=>codeAny (model prog w) A (.compLoop (.ListComp elt gens scope pos) d it' acc env) R s') (notedBy (model prog w) A env fun x s'=>R (.error x) s') s) :
  codeAny (model prog w) A (.compStart (.ListComp elt gens scope pos) d it acc env) R s:=by
 refine codeAny_of_tree ?_
 show wpAny _ _ ((compStart (.ListComp elt gens scope pos) d it acc env).onRaise (fun x=>do noteFrame x env;standAt theWindowsPlace)) _ _ s
 refine wpAny_notedAt ?_
 unfold compStart
 have e1:(clausesOf (.ListComp elt gens scope pos))[d]? = some g:=hg
 rw [e1]
 simp only [Option.elim_some,ha]
 refine AA (wpAny_askSetting (wpAny_ite ?_))
 split
 ·exact AA (AE (AE (And.intro rfl h0)))
 ·exact AA (CP (AA (CF (AA (BP h (fun it' s' h'=>AE (And.intro rfl h')) fun _ _ x=>x)))))
structure GenF where
 fi:FI
 g:FG
 ts:List FT
def Qb:List FT->FT
 |[],_,st => .ok true st
 |t::ts,r,st=>(t r st).bind fun k s=>if k=true then Qb ts r s else .ok false s
open Classical in
noncomputable def qf (G:qB->Prop) (k:PV->qB->Rs (List PV)):List PV->qB->Rs (List PV)
 |[],st=>if G st then .ok [] st else .no
 |p::ps,st=>if G st then (k p st).bind fun l s=>(qf G k ps s).bind fun m s' => .ok (l++m) s' else .no
def QH (g:GenF) (rest:FL) (r:qh) (p:PV) (s:qB):Rs (List PV):=match g.g p r with
 |none => .no
 |some r'=>(Qb g.ts r' s).bind fun k s1=>if k=true then rest r' s1 else .ok [] s1
noncomputable def QW:List GenF->FE->FL
 |[],f=>fun r st=>(f r st).bind fun p s => .ok [p] s
 |g::gs,f=>fun r st=>(g.fi r st).bind fun w s=>qf w.G (QH g (QW gs f) r) w.l s
def Le (r r':qh):Prop:=r.length=r'.length ∧ ∀ (i:Nat) (p:PV),r[i]? = some (some p)->r'[i]? = some (some p)
theorem REnv.le {K:W.Frag} {H:Hp} {b:Bz} {r r':qh} {s:L2.St} (h:REnv K H b r' s) (l:Le r r'):REnv K H b r s:=⟨l.1.trans h.1,fun i p e=>h.2 i p (l.2 i p e)⟩
def qA3 (g:FG):Prop := ∀ p r r',g p r=some r'->Le r r'
inductive TsOk (X:Cx):List Expr->List FT->Prop where
 |nil:TsOk X [] []
 |cons {e:Expr} {t:FT} {es:List Expr} {ts:List FT} (h:VT X E0 e t) (r:TsOk X es ts):TsOk X (e::es) (t::ts)
theorem jY {X:Cx} (hx:∀ e s,X.xe e s->False):∀ {es:List Expr} {ts:List FT},TsOk X es ts -> ∀ {pins:List (Addr×Obj)} {s:Shared} {σ:L2.St} {H:Hp} {b:Bz} {r:qh} {st st':qB} {k:Bool} {Q:Bool->Shared->Prop} {E:Value->Shared->Prop},L2.Inv X pins σ H s->SR X.K H b st->REnv X.K H b r σ->Qb ts r st = .ok k st' ->
  (∀ s' H' b',L2.Inv X pins σ H' s'->Ext H b H' b'->SR X.K H' b' st'->Q k s') ->
  wpAny (model X.prog X.w) X.A (forIn es true fun c r=>if r=true then do let ok ← isTrue c X.env (eval c X.env);pure (ForInStep.yield ok) else pure (ForInStep.yield r)) Q E s
 |_,_,.nil,pins,s,σ,H,b,r,st,st',k,Q,E,I,S,R,e,q=>by
  cases e
  exact wpAny_tests_nil (q s H b I (Ext.refl _ _) S)
 |_,_,@TsOk.cons _ c t es ts h hr,pins,s,σ,H,b,r,st,st',k,Q,E,I,S,R,e,q=>by
  rw [List.forIn_cons]
  simp only [CI]
  unfold Qb at e
  cases et:t r st with
  |no=>rw [et] at e;cases e
  |ex x s1=>rw [et] at e;cases e
  |ok k1 s1 =>
   rw [et] at e
   have e:(if k1=true then Qb ts r s1 else .ok false s1) = .ok k st':=e
   refine AA (AA (BP (h pins s σ H (fun k' H'=>k'=k1 ∧ ∃ b',Ext H b H' b'∧SR X.K H' b' s1) I ⟨b,r,st,S,R,by rw [et];exact fun H' b' e' S'=>⟨rfl,b',e',S'⟩⟩) (fun k' s2 hq => ?_) fun e' s' z=>(hx e' s' z).elim))
   obtain ⟨H2,I2,rfl,b2,e2,S2⟩:=hq
   refine AE ?_
   dsimp only
   cases k' with
   |true =>
    rw [AC rfl] at e
    exact jY hx hr I2 S2 (R.ext e2) e fun s' H' b' I' e' S'=>q s' H' b' I' (e2.trans e') S'
   |false =>
    rw [AH Ap] at e
    cases e
    have skip:∀ (es:List Expr),wpAny (model X.prog X.w) X.A (forIn es false fun c r=>if r=true then do let ok ← isTrue c X.env (eval c X.env);pure (ForInStep.yield ok) else pure (ForInStep.yield r)) Q E s2:=by
     intro es
     induction es with
     |nil=>rw [List.forIn_nil];exact AE (q s2 H2 b2 I2 e2 S2)
     |cons c es ih =>
      rw [List.forIn_cons]
      simp only [BF,BY]
      exact AA (AE ih)
    exact skip es
structure GOk (X:Cx) (c:Comprehension) (g:GenF):Prop where
 tg:VG X c.target g.g
 fr:qA3 g.g
 ts:TsOk X c.ifs g.ts
 asy:c.is_async=0
structure GOk' (X:Cx) (c:Comprehension) (g:GenF):Prop extends GOk X c g where
 it:VI X E0 c.target c.iter g.fi
 fold:∀ x,foldedSetIterable c.iter X.env x=pure x
inductive GsOk (X:Cx):List Comprehension->List GenF->Prop where
 |nil:GsOk X [] []
 |cons {c:Comprehension} {g:GenF} {cs:List Comprehension} {gs:List GenF} (h:GOk' X c g) (r:GsOk X cs gs):GsOk X (c::cs) (g::gs)
theorem qBl {X:Cx} (hx:∀ e s,X.xe e s->False) {pins:List (Addr×Obj)} {s:Shared} {σ:L2.St} {H:Hp} {D:Addr} {xs:List V} {y:V} {u:Value} {Q:Value->Shared->Prop} {E:Value->Shared->Prop} (I:L2.Inv X pins σ H s) (hD:H D=some (.lst xs)) (hl:xs.length < sizeLine) (ry:RelV y u)
  (q:∀ v s',L2.Inv X pins σ (upd H D (.lst (xs++[y]))) s'->Q v s'):wpAny (model X.prog X.w) X.A (call (.builtin "list.append") [.ref D,u]) Q E s :=
 BP (Yq pins s σ H (.ref D) [y] (.ref D) [u] (fun v H'=>H'=upd H D (.lst (xs++[y]))) I rfl (.cons ry .nil) ⟨D,xs,y,rfl,rfl,hD,hl,rfl⟩) (fun v s' ⟨x,H',I',r',e⟩=>by subst e;exact q v s' I') fun e' s' z=>(hx e' s' z).elim
structure DE (D:Addr) (H:Hp) (b:Bz) (H':Hp) (b':Bz):Prop extends WE H b H' b' where
 same:b'.z=b.z
 hid:∀ a o,a∈b.z->a≠D->H a=some o->H' a=some o
 fz:∀ a o u,a≠D->H a=some (.frz o u)->H' a=some (.frz o u)
theorem DE.of {D:Addr} {H H':Hp} {b b':Bz} (e:Ext H b H' b'):DE D H b H' b':=⟨e.toWE,e.same,fun a o ha _ h=>e.hid a o ha h,fun a o u _ h=>e.fz a o u h⟩
theorem DE.trans {D:Addr} {H H1 H2:Hp} {b b1 b2:Bz} (e:DE D H b H1 b1) (f:DE D H1 b1 H2 b2):DE D H b H2 b2:=⟨e.toWE.trans f.toWE,f.same.trans e.same,fun a o ha hn h=>f.hid a o (by rw [e.same];exact ha) hn (e.hid a o ha hn h),fun a o u n h=>f.fz a o u n (e.fz a o u n h)⟩
theorem DE.wr {D:Addr} {H:Hp} {b:Bz} {o:HO} (h:D∈b.z):DE D H b (upd H D o) b:=⟨WE.wr (.inr h),rfl,fun a u ha hn e=>by rw [qP hn];exact e,fun a u v hn e=>by rw [qP hn];exact e⟩
def qJl (X:Cx) (D:Addr) (c:Code) (inner:Sem Fin) (rest:FL):Prop :=
 ∀ (pins:List (Addr×Obj)) (s:Shared) (σ:L2.St) (H:Hp) (b:Bz) (r:qh) (st st':qB) (l:List PV) (accV:List V) (QF:Fin->Shared->Prop) (E:Value->Shared->Prop),L2.Inv X pins σ H s->SR X.K H b st->REnv X.K H b r σ->D∈b.z->H D=some (.lst accV) ->
  rest r st = .ok l st'->accV.length + l.length≤sizeLine ->
  (∀ s' σ' H' b' lV,L2.Inv X pins σ' H' s'->DE D H b H' b'->SR X.K H' b' st'->REnv X.K H' b' r σ'->H' D=some (.lst (accV++lV))->RVs X.K H' b' l lV->QF (.again c) s')->wpAny (model X.prog X.w) X.A inner QF E s
theorem jl {X:Cx} (hx:∀ e s,X.xe e s->False) {elt:Expr} {gens:List Comprehension} {scope:Scope} {pos:Pos} {d:Nat} {it D:Addr} {c:Comprehension} {g:GenF} (hg:GOk X c g) {inner:Sem Fin} {rest:FL} (hin:qJl X D (.compLoop (.ListComp elt gens scope pos) d (.ref it) (.ref D) X.env) inner rest)
  (hturn:compTurn (.ListComp elt gens scope pos) d (.ref it) (.ref D) X.env=(standAt c.iter.pos >>= fun _=>pyNext (.ref it) >>= fun r=>match r with
   |none=>pure (.done .next)
   |some v=>letOwnedTupleGo c.target (.ref it) v >>= fun _=>assign c.target X.env v >>= fun _ =>
    (forIn c.ifs true fun c r=>if r=true then do let ok ← isTrue c X.env (eval c X.env);pure (ForInStep.yield ok) else pure (ForInStep.yield r)) >>= fun ok =>
    if ok=true then inner else again (.compLoop (.ListComp elt gens scope pos) d (.ref it) (.ref D) X.env)))
  {pins:List (Addr×Obj)} {s:Shared} {σ:L2.St} {H:Hp} {b:Bz} {r:qh} {st st':qB} {fp:List Addr} {tn:Nat->Heap->Prop} {J:It} {w:ItP} {accV:List V} {l:List PV} {R:Result->Shared->Prop}
  (I:L2.Inv X pins σ H s) (S:SR X.K H b st) (RE:REnv X.K H b r σ) (hDz:D∈b.z) (hD:H D=some (.lst accV)) (T:Turn X.prog X.w X.K X.A c.target J fp it tn) (t0:tn 0 s.heap) (hf:∀ a∈fp,ze X pins H a)
  (hit:Zz X.K H b J w)
  (hv:qf w.G (QH g rest r) w.l st = .ok l st') (hsz:accV.length + l.length≤sizeLine)
  (hR:∀ s' σ' H' b' lV,L2.Inv X pins σ' H' s'->DE D H b H' b'->SR X.K H' b' st'->REnv X.K H' b' r σ'->H' D=some (.lst (accV++lV))->RVs X.K H' b' l lV->R (.ok .next) s') :
  codeAny (model X.prog X.w) X.A (.compLoop (.ListComp elt gens scope pos) d (.ref it) (.ref D) X.env) R s:=by
 have stat:∀ {H':Hp},(∀ a∈fp,H' a=none) -> ∀ a∈fp,ze X pins H' a:=fun hn a ha=>⟨hn a ha,(hf a ha).2⟩
 refine codeAny_loop rfl (fun n s1 => ∃ i σ1 H1 b1 st1 done doneV m,n=w.l.length + 1 - i∧i≤w.l.length∧L2.Inv X pins σ1 H1 s1∧DE D H b H1 b1∧SR X.K H1 b1 st1∧REnv X.K H1 b1 r σ1∧H1 D=some (.lst (accV++doneV))∧RVs X.K H1 b1 done doneV∧tn i s1.heap∧(∀ a∈fp,H1 a=none) ∧
  qf w.G (QH g rest r) (w.l.drop i) st1 = .ok m st'∧done++m=l) ?_ (w.l.length + 1)
  ⟨0,σ,H,b,st,[],[],l,by omega,BG _,I,DE.of (Ext.refl _ _),S,RE,by simpa using hD,RVs.nil,t0,fun a ha=>(hf a ha).1,by simpa using hv,rfl⟩
 rintro n s1 ⟨i,σ1,H1,b1,st1,done,doneV,m,hn,hi,I1,e1,S1,R1,hD1,rd1,t1,fr1,hv1,hm⟩
 show wpAny _ X.A ((compTurn (.ListComp elt gens scope pos) d (.ref it) (.ref D) X.env).onRaise (fun x=>do noteFrame x X.env;theTreesLotGoes x)) _ _ s1
 refine wpAny_noted ?_
 rw [hturn]
 refine AA (CF (AA ?_))
 have hz1:D∈b1.z:=by rw [e1.same];exact hDz
 by_cases hlt:i < w.l.length
 ·have hd:w.l.drop i=w.l[i]::w.l.drop (i + 1):=List.drop_eq_getElem_cons hlt
  rw [hd] at hv1
  unfold qf at hv1
  by_cases hG:w.G st1
  ·rw [AC hG] at hv1
   obtain ⟨h1,h2⟩:=hit H1 b1 st1 e1.toWE (fun a o u h=>e1.fz a o u (fun z=>by rw [z,hD] at h;cases h) h) S1 hG
   obtain ⟨go,yl⟩:=h1 i w.l[i] (AS hlt)
   cases ek:QH g rest r w.l[i] st1 with
   |no=>rw [ek] at hv1;cases hv1
   |ex x s5=>rw [ek] at hv1;cases hv1
   |ok l1 s5 =>
    rw [ek] at hv1
    have hv1:(qf w.G (QH g rest r) (w.l.drop (i + 1)) s5).bind (fun m s' => .ok (l1++m) s') = .ok m st':=hv1
    cases ek2:qf w.G (QH g rest r) (w.l.drop (i + 1)) s5 with
    |no=>rw [ek2] at hv1;cases hv1
    |ex x s6=>rw [ek2] at hv1;cases hv1
    |ok m2 s6 =>
     rw [ek2] at hv1
     have hv1:Rs.ok (l1++m2) s6 = .ok m st':=hv1
     injection hv1 with hv1a hv1b
     subst hv1a;subst hv1b
     refine thn (T.item X rfl rfl rfl rfl i pins s1 σ1 H1 _ I1 (stat fr1) t1 go) fun rr s2 ⟨u,hr,h4⟩ => ?_
     subst hr
     refine AA (thn h4 fun _ s3 ⟨x,H3,I3,r3,y3,t3,fr3⟩ => ?_)
     obtain ⟨sm3,S3,rx3⟩:=yl x H3 y3
     have e3:Ext H1 b1 H3 b1:=Ext.of_same sm3
     have hD3:=sm3 _ _ hD1
     unfold QH at ek
     cases eg:g.g w.l[i] r with
     |none=>rw [eg] at ek;cases ek
     |some r' =>
      rw [eg] at ek
      have ek:(Qb g.ts r' st1).bind (fun k s1=>if k=true then rest r' s1 else .ok [] s1) = .ok l1 s5:=ek
      cases et:Qb g.ts r' st1 with
      |no=>rw [et] at ek;cases ek
      |ex x s7=>rw [et] at ek;cases ek
      |ok k s7 =>
       rw [et] at ek
       have ek:(if k=true then rest r' s7 else .ok [] s7) = .ok l1 s5:=ek
       have I3':=I3.pinned (stat fr3) (T.obj _ _ t3)
       refine AA (BP (hg.tg _ s3 σ1 H3 x u (fun σ' H'=>H'=H3∧REnv X.K H3 b1 r' σ') I3' r3 ⟨b1,r,w.l[i],st1,S3,R1.ext e3,rx3,r',eg,fun s' R'=>⟨rfl,R'⟩⟩) (fun _ s4 hq => ?_) fun e' s' z=>(hx e' s' z).elim)
       obtain ⟨σ4,H4,I4,rfl,R4⟩:=hq
       refine AA (jY hx hg.ts I4 S3 R4 et fun s5' H5 b5 I5 e5 S5 => ?_)
       have hz5:D∈b5.z:=by rw [e5.same];exact hz1
       have hD5:=e5.hid _ _ hz1 hD3
       have e15:DE D H b H5 b5:=(e1.trans (DE.of e3)).trans (DE.of e5)
       have back:∀ {s7':Shared} {σ7:L2.St} {H7:Hp} {b7:Bz} {l1V:List V},L2.Inv X (pins++zc fp s3.heap) σ7 H7 s7'->DE D H5 b5 H7 b7->SR X.K H7 b7 s5->REnv X.K H7 b7 r' σ7->H7 D=some (.lst (accV++doneV++l1V))->RVs X.K H7 b7 l1 l1V ->
         ∃ m,m < n ∧ ∃ i σ1 H1 b1 st1 done doneV mm,m=w.l.length + 1 - i∧i≤w.l.length∧L2.Inv X pins σ1 H1 s7'∧DE D H b H1 b1∧SR X.K H1 b1 st1∧REnv X.K H1 b1 r σ1∧H1 D=some (.lst (accV++doneV))∧RVs X.K H1 b1 done doneV∧tn i s7'.heap∧(∀ a∈fp,H1 a=none) ∧
         qf w.G (QH g rest r) (w.l.drop i) st1 = .ok mm s6∧done++mm=l:=fun {s7' σ7 H7 b7 l1V} I7 e7 S7 R7 hD7 rl7=>by
        refine ⟨w.l.length + 1 - (i + 1),by omega,i + 1,σ7,H7,b7,s5,done++l1,doneV++l1V,m2,rfl,hlt,I7.unpinned,e15.trans e7,S7,R7.le (hg.fr _ _ _ eg),by rw [hD7,Av],?_,T.keep _ _ _ t3 fun a ha o e=>(I7.pin (a,o) (Aq _ (Aq _ (W2 ha e)))).1,fun a ha => ?_,ek2,by rw [Av];exact hm⟩
        ·exact RVs.append (RVs.wext e7.toWE done (RVs.ext e5 done (RVs.ext e3 done rd1))) rl7
        ·obtain ⟨o,e,_⟩:=T.obj _ _ t3 a ha
         exact (I7.pin (a,o) (Aq _ (Aq _ (W2 ha e)))).2.1
       cases k with
       |false =>
        rw [AH Ap] at ek ⊢
        injection ek with ek1 ek2'
        subst ek1;subst ek2'
        refine AE ⟨rfl,back I5 (DE.of (Ext.refl _ _)) S5 (R4.ext e5) (by rw [A6];exact hD5) RVs.nil⟩
       |true =>
        rw [AC rfl] at ek ⊢
        refine hin _ s5' σ4 H5 b5 r' s7 s5 l1 (accV++doneV) _ _ I5 S5 (R4.ext e5) hz5 hD5 ek ?_ fun s8 σ8 H8 b8 lV I8 e8 S8 R8 hD8 r8=>⟨rfl,back I8 e8 S8 R8 hD8 r8⟩
        have h1:=rd1.length
        have h2:l.length=done.length + (l1.length + m2.length):=by rw [← hm,Ab,Ab]
        rw [Ab];omega
  ·rw [AH hG] at hv1;cases hv1
 ·have hl:i=w.l.length:=by omega
  subst hl
  rw [List.drop_length] at hv1
  unfold qf at hv1
  by_cases hG:w.G st1
  ·rw [AC hG] at hv1
   injection hv1 with k1 k2
   subst k1;subst k2
   obtain ⟨h1,h2⟩:=hit H1 b1 st1 e1.toWE (fun a o u h=>e1.fz a o u (fun z=>by rw [z,hD] at h;cases h) h) S1 hG
   refine thn (T.done X rfl rfl rfl rfl _ pins s1 σ1 H1 _ I1 (stat fr1) t1 (h2 _ (AI _))) fun r2 s2 ⟨hr,I2⟩ => ?_
   subst hr
   rw [A6] at hm
   subst hm
   exact AE (hR s2 σ1 H1 b1 doneV I2 e1 S1 R1 hD1 rd1)
  ·rw [AH hG] at hv1;cases hv1
theorem YS {X:Cx} (hx:∀ e s,X.xe e s->False) {elt:Expr} {gens:List Comprehension} {scope:Scope} {pos:Pos} {f:FE} {D:Addr} (he:VE X E0 elt f) :
  ∀ (gs:List GenF) (cs:List Comprehension) (d:Nat) (c:Comprehension) (g:GenF),gens.drop d=c::cs->GOk X c g->GsOk X cs gs ->
  ∀ (pins:List (Addr×Obj)) (s:Shared) (σ:L2.St) (H:Hp) (b:Bz) (r:qh) (st st':qB) (it:Addr) (fp:List Addr) (tn:Nat->Heap->Prop) (J:It) (w:ItP) (accV:List V) (l:List PV) (R:Result->Shared->Prop),
  L2.Inv X pins σ H s->SR X.K H b st->REnv X.K H b r σ->D∈b.z->H D=some (.lst accV)->Turn X.prog X.w X.K X.A c.target J fp it tn->tn 0 s.heap->(∀ a∈fp,ze X pins H a)->Zz X.K H b J w ->
  qf w.G (QH g (QW gs f) r) w.l st = .ok l st'->accV.length + l.length≤sizeLine ->
  (∀ s' σ' H' b' lV,L2.Inv X pins σ' H' s'->DE D H b H' b'->SR X.K H' b' st'->REnv X.K H' b' r σ'->H' D=some (.lst (accV++lV))->RVs X.K H' b' l lV->R (.ok .next) s') ->
  codeAny (model X.prog X.w) X.A (.compLoop (.ListComp elt gens scope pos) d (.ref it) (.ref D) X.env) R s:=by
 intro gs
 induction gs with
 |nil =>
  intro cs d c g hdr hg hgs pins s σ H b r st st' it fp tn J w accV l R I S RE hDz hD T t0 hf hit hv hsz hR
  cases hgs
  have hgd:gens[d]? = some c:=by
   have:(gens.drop d)[0]? = some c:=by rw [hdr];rfl
   simpa using this
  have hgn:gens[d + 1]? = none:=by
   have:(gens.drop d)[1]? = none:=by rw [hdr];rfl
   simpa using this
  refine jl hx hg ?_ (YJ hgd hg.asy hgn) I S RE hDz hD T t0 hf hit hv hsz hR
  intro pins s σ H b r st st' l accV QF E I S RE hDz hD hv hsz q
  have hv:(f r st).bind (fun p s => .ok [p] s) = .ok l st':=hv
  cases ef:f r st with
  |no=>rw [ef] at hv;cases hv
  |ex x s1=>rw [ef] at hv;cases hv
  |ok p s1 =>
   rw [ef] at hv
   have hv:Rs.ok [p] s1 = .ok l st':=hv
   injection hv with h1 h2
   subst h1;subst h2
   refine AA (AA (BP (he pins s σ H (fun v H' => ∃ b',Ext H b H' b'∧SR X.K H' b' s1∧RV X.K H' b' p v) I ⟨b,r,st,S,RE,by rw [ef];exact fun v H' b' e' S' r'=>⟨b',e',S',r'⟩⟩) (fun u s2 hq => ?_) fun e' s' z=>(hx e' s' z).elim))
   obtain ⟨v,H2,I2,rv,b2,e2,S2,r2⟩:=hq
   have hz2:D∈b2.z:=by rw [e2.same];exact hDz
   refine AA (qBl hx I2 (e2.hid _ _ hDz hD) (by rw [Bi] at hsz;omega) rv fun _ s3 I3=>AE (AE ?_))
   have dw:DE D H2 b2 (upd H2 D (.lst (accV++[v]))) b2:=DE.wr hz2
   exact q s3 σ _ b2 [v] I3 ((DE.of e2).trans dw) (SR.wrz S2 hz2) ((RE.ext e2).wext dw.toWE) QL (RVs.cons (RV.wext dw.toWE p r2) RVs.nil)
 |cons g2 gs ih =>
  intro cs d c g hdr hg hgs pins s σ H b r st st' it fp tn J w accV l R I S RE hDz hD T t0 hf hit hv hsz hR
  cases hgs with
  | @cons c2 _ cs _ h2 hr2 =>
   have hgd:gens[d]? = some c:=by
    have:(gens.drop d)[0]? = some c:=by rw [hdr];rfl
    simpa using this
   have hgn:gens[d + 1]? = some c2:=by
    have:(gens.drop d)[1]? = some c2:=by rw [hdr];rfl
    simpa using this
   have hdr2:gens.drop (d + 1)=c2::cs:=by
    have:(gens.drop d).drop 1=c2::cs:=by rw [hdr];rfl
    rwa [List.drop_drop] at this
   refine jl hx hg ?_ (YH hgd hg.asy hgn h2.asy) I S RE hDz hD T t0 hf hit hv hsz hR
   intro pins s σ H b r st st' l accV QF E I S RE hDz hD hv hsz q
   have hv:(g2.fi r st).bind (fun w s=>qf w.G (QH g2 (QW gs f) r) w.l s) = .ok l st':=hv
   cases ef:g2.fi r st with
   |no=>rw [ef] at hv;cases hv
   |ex x s1=>rw [ef] at hv;cases hv
   |ok w2 s1 =>
    rw [ef] at hv
    have hv:qf w2.G (QH g2 (QW gs f) r) w2.l s1 = .ok l st':=hv
    have hi:=h2.it pins s σ H (fun J H' => ∃ b',Ext H b H' b'∧SR X.K H' b' s1∧Zz X.K H' b' J w2) I ⟨b,r,st,S,RE,by rw [ef];exact fun J H' b' e' S' i'=>⟨b',e',S',i'⟩⟩
    refine AA (BP hi (fun u s2 hq => ?_) fun e' s' z=>(hx e' s' z).elim)
    refine AA (CF (AA (B2 (h2.fold u) (AA (As (BP hq (fun itv s3 hq3 => ?_) fun e' s' z=>(hx e' s' z).elim))))))
    obtain ⟨it2,fp2,tn2,J2,H3,rfl,I3,T2,t2,f2,b3,e3,S3,i3⟩:=hq3
    have hz3:D∈b3.z:=by rw [e3.same];exact hDz
    have hD3:=e3.hid _ _ hDz hD
    refine AA (wpAny_runOwn ?_)
    have loop:=ih cs (d + 1) c2 g2 hdr2 h2.toGOk hr2 pins s3 σ H3 b3 r s1 st' it2 fp2 tn2 J2 w2 accV l (fun r s'=>match r with
     | .ok f=>wpAny (model X.prog X.w) X.A (again (.compLoop (.ListComp elt gens scope pos) d (.ref it) (.ref D) X.env)) QF E s'
     | .error e=>cameBackBy (model X.prog X.w) X.A X.env E e s') I3 S3 (RE.ext e3) hz3 hD3 T2 t2 f2 i3 hv hsz
     fun s' σ' H' b' lV I' e' S' R' hD' r'=>AE (q s' σ' H' b' lV I' ((DE.of e3).trans e') S' R' hD' r')
    exact Wu hgn h2.asy loop (T2.self X.A 0 s3 _ _ t2 loop)
theorem JA {M:Model} {A:Around} {E:Value->Shared->Prop} {s:Shared} {scope:Scope} {env:Env} {cl:List (Str×Addr)} {Q:Env->Shared->Prop}
  (h:Q { scope:=scope,locals:=s.heap.objs.size,globals:=env.globals,cells:=cellsFrom (s.heap.objs.size + 1) scope.names cl,qual:=env.qual,func:=none,code:=env.code,frame:=env.frame,builtins:=env.builtins } { s with heap:=pushCells (s.heap.push { cls := .type "dict",data := .dict #[] }) scope.names }) :
  wpAny M A (newFunctionEnv scope env.globals cl [] env.qual none .none (some env)) Q E s:=by
 simp only [newFunctionEnv,Option.isSome_some,CI]
 refine AA (wpAny_alloc ?_)
 refine AA (wpAny_layCells _ (fun name kind cells=>by cases hkc:kind==NameKind.cell <;> simp [hkc]) _ _ _ _ ?_)
 rw [show ({ s with heap:=s.heap.push { cls := .type "dict",data := .dict #[] } }:Shared).heap.objs.size=s.heap.objs.size + 1 from A9 ..]
 exact AA (AE (AE h))
def WA (caps:List Nat) (n:Nat) (r:qh):qh:=(caps.map fun j=>(r[j]?).join)++List.replicate n none
noncomputable def qp (caps:List Nat) (n:Nat) (fi:FI) (g:FG) (ts:List FT) (gs:List GenF) (f:FE):FL:=fun r st=>(fi r st).bind fun w s=>match qf w.G (QH ⟨fi,g,ts⟩ (QW gs f) (WA caps n r)) w.l s with
 | .ok l s'=>if l.length≤sizeLine then .ok l s' else .no
 |_ => .no
theorem JF {K:W.Frag} {H:Hp} {b:Bz} {r:qh} {σ:L2.St} {caps:List Nat} {n:Nat} (R:REnv K H b r σ):REnv K H b (WA caps n r) ((caps.map fun j=>(σ[j]?).join)++List.replicate n none):=by
 refine ⟨by simp [WA],fun i p e => ?_⟩
 unfold WA at e
 by_cases hi:i < caps.length
 ·rw [Ak (by simpa using hi),Ac] at e
  rw [Ak (by simpa using hi),Ac]
  cases ej:caps[i]? with
  |none=>rw [ej] at e;cases e
  |some j =>
   rw [ej] at e
   have e':(r[j]?).join=some p:=AW e
   have e2:r[j]? = some (some p):=by
    cases q:r[j]? with
    |none=>rw [q] at e';cases e'
    |some o=>rw [q] at e';exact B3 some e'
   obtain ⟨v,h1,h2⟩:=R.2 j p e2
   refine ⟨v,?_,h2⟩
   show some (σ[j]?).join=some (some v)
   rw [h1];rfl
 ·rw [A1 (by simpa using hi),Bw] at e
  split at e <;> cases e
theorem YX {K:W.Frag} {H:Hp} {b:Bz} {J:It} {w:ItP} {D:Addr} {o:HO} (h:Zz K H b J w) (hD:H D=none):Zz K (upd H D o) ⟨b.b,D::b.z⟩ J w:=fun H1 b1 st1 e f S g=>h H1 b1 st1 ((WE.hide hD).trans e) (fun a o u q=>f a o u (by rw [qP (qJ q hD)];exact q)) S g
theorem QZ {X:Cx} {E:XK} {elt:Expr} {c:Comprehension} {cs:List Comprehension} {scope:Scope} {pos:Pos} {capN locN:List Str} {caps:List Nat} {fi:FI} {g:FG} {ts:List FT} {gs:List GenF} {f:FE} (hcs:CSc X scope capN locN caps)
  (hi:VI X E c.target c.iter fi) (sub:∀ s H fp pn,VE (cCx X scope (capN++locN) s H fp pn) E0 elt f∧GOk (cCx X scope (capN++locN) s H fp pn) c ⟨fi,g,ts⟩∧GsOk (cCx X scope (capN++locN) s H fp pn) cs gs)
  (hs:∀ x,foldedSetIterable c.iter X.env x=pure x:=by intro _;rfl):VN X E (.ListComp elt (c::cs) scope pos) (qp caps locN.length fi g ts gs f):=by
 intro pins s σ H Q I hq
 obtain ⟨b,r,st,S,RE,P⟩:=hq
 have hfree:∀ x∈scope.names,x.2 = .free -> ∃ c,X.env.cells.lookup x.1=some c:=fun x hx hk=>I.ok.has x.1 (hcs.fr x hx hk)
 obtain ⟨c1,c2,c3,c4⟩:=c
 have hasy:c4=0:=(sub s H [] []).2.1.asy
 subst hasy
 rw [eval_ListComp]
 refine wpAny_comprehension_free (use:=none) rfl hs (yj hfree) hcs.kind (fun x hx hl=>WI hcs.nd (by rw [← hl];exact hx)) ?_
 show wpAny _ _ (eval c2 X.env) _ _ s
 unfold qp at P
 cases ef:fi r st with
 |no=>rw [ef] at P;exact P.elim
 |ex x s1 =>
  rw [ef] at P
  refine thn (hi pins s σ H (fun _ _=>False) I ⟨b,r,st,S,RE,by rw [ef];exact P⟩) fun v s2 h2=>thn h2 fun itv s3 h3 => ?_
  obtain ⟨_,_,_,_,_,_,_,_,_,_,z⟩:=h3
  exact z.elim
 |ok w s1 =>
  rw [ef] at P
  refine thn (hi pins s σ H (fun J H' => ∃ b',Ext H b H' b'∧SR X.K H' b' s1∧Zz X.K H' b' J w) I ⟨b,r,st,S,RE,by rw [ef];exact fun J H' b' e' S' i'=>⟨b',e',S',i'⟩⟩) fun v s2 h2=>thn h2 fun itv s3 h3 => ?_
  obtain ⟨it,fp,tn,J,H2,rfl,I2,T,t2,f2,b2,e2,S2,i2⟩:=h3
  have P:PostN X.K E H b (match qf w.G (QH ⟨fi,g,ts⟩ (QW gs f) (WA caps locN.length r)) w.l s1 with | .ok l s'=>if l.length≤sizeLine then .ok l s' else .no |_ => .no) Q:=P
  cases ev:qf w.G (QH ⟨fi,g,ts⟩ (QW gs f) (WA caps locN.length r)) w.l s1 with
  |no=>rw [ev] at P;exact P.elim
  |ex x s4=>rw [ev] at P;exact P.elim
  |ok l st' =>
   rw [ev] at P
   have P:PostN X.K E H b (if l.length≤sizeLine then .ok l st' else .no) Q:=P
   by_cases hl:l.length≤sizeLine
   ·rw [AC hl] at P
    have hfr:H2 s3.heap.objs.size=none:=I2.hok.fresh (AI _)
    refine By ?_
    generalize hs3:({ s3 with heap:=s3.heap.push { cls := .type "list",data := .seq ([]:List Value).toArray } }:Shared)=s3'
    have I3:L2.Inv X pins σ (upd H2 s3.heap.objs.size (.lst [])) s3':=by
     rw [← hs3]
     exact I2.laid (t':=s3.toks) (fun a u e=>AF _ e) (AI _) (show ObjOk X.prog X.w _ _ _ (.lst []) from ⟨BG _,[],0,.nil,AT _ rfl⟩)
    have k3:∀ a o,s3.heap.get? a=some o->s3'.heap.get? a=some o:=fun a o e=>by rw [← hs3];exact AF _ e
    have hlt:∀ a∈fp,a < s3.heap.objs.size:=fun a ha=>by
     obtain ⟨o,e,_⟩:=T.obj _ _ t2 a ha
     exact AJ e
    have f3:∀ a∈fp,ze X pins (upd H2 s3.heap.objs.size (.lst [])) a:=fun a ha=>⟨by rw [qP (AU (hlt a ha))];exact (f2 a ha).1,(f2 a ha).2⟩
    have hlt3:∀ a∈fp,a < s3'.heap.objs.size:=fun a ha=>by
     obtain ⟨o,e,_⟩:=T.obj _ _ t2 a ha
     exact AJ (k3 a o e)
    generalize hD:s3.heap.objs.size=D at I3 f3 hfr
    refine JA ?_
    have J0:=yX hcs I3 f3 hlt3 rfl
    obtain ⟨he,hg,hgs⟩:=sub s3' (upd H2 D (.lst [])) fp (X.pn++pins)
    have k4:∀ a o,s3'.heap.get? a=some o->(pushCells (s3'.heap.push { cls := .type "dict",data := .dict #[] }) scope.names).get? a=some o:=fun a o e=>CN _ _ _ _ (AF _ e)
    have hDz:D ∉ b2.z:=(S2.new_notin hfr).2
    have loop:=YS (X:=cCx X scope (capN++locN) s3' (upd H2 D (.lst [])) fp (X.pn++pins)) (fun _ _ z=>z) (gens:=⟨c1,c2,c3,0⟩::cs) (scope:=scope) (pos:=pos) (D:=D) he gs cs 0 ⟨c1,c2,c3,0⟩ ⟨fi,g,ts⟩ rfl hg hgs [] _ _ _ ⟨b2.b,D::b2.z⟩ (WA caps locN.length r) s1 st' it fp tn J w [] l
     (compPost (model X.prog X.w) X.A X.xe none (EP X pins σ Q) (.ref D) s3'.heap.objs.size) J0 (SR.hide S2 hfr) (JF ((RE.ext e2).wext (WE.hide hfr))) AD QL T (T.keep _ _ _ t2 fun a ha o e=>k4 a o (k3 a o e))
     (fun a ha=>⟨(f3 a ha).1,(J0.ok.exf a ha).1,J0.ok.exfs a ha,.inl ha,(J0.ok.exf a ha).2,fun p hp=>(f3 a ha).2.2.2.2.2 p (by simpa [cCx] using hp)⟩) (YX i2 hfr) ev (by simpa using hl)
     (fun s' σ' H' b' lV I' e' S' R' hD' r'=>by
      obtain ⟨m,hn,_⟩:=I'.loc
      refine ⟨m,hn,fun h'' sb => ?_⟩
      have fin:=JB I3 f3 I' sb
      have hz':b'.z=D::b2.z:=e'.same
      refine ⟨.ref D,H',fin,rfl,?_⟩
      have ex:Ext H2 b2 H' ⟨b'.b,b2.z⟩:=by
       refine ⟨⟨?_,⟨[],rfl,by simp⟩,fun a o ha ho => ?_,fun a o ha => ?_⟩,rfl,fun a o hz ha => ?_,fun a o u ha=>e'.fz a o u (qJ ha hfr) (by rw [qP (qJ ha hfr)];exact ha)⟩
       ·obtain ⟨n,hb,hh⟩:=e'.more
        exact ⟨n,hb,fun a ha=>by
         have:=hh a ha
         by_cases q:a=D
         ·rw [q];exact hfr
         ·rwa [qP q] at this⟩
       ·have hne:a≠D:=qJ ha hfr
        exact e'.keep a o (by rw [qP hne];exact ha) ⟨ho.1,fun z=>(AL.mp z).elim hne ho.2⟩
       ·have hne:a≠D:=qJ ha hfr
        exact e'.dom a o (by rw [qP hne];exact ha)
       ·have hne:a≠D:=qJ ha hfr
        exact e'.hid a o (AG _ hz) hne (by rw [qP hne];exact ha)
      have hb':(⟨b'.b,D::b2.z⟩:Bz)=b':=by rw [← hz']
      refine P D lV H' ⟨b'.b,b2.z⟩ (e2.trans ex) (e2.none_of hfr) (by simpa using hD') hDz ?_ ?_
      ·show SR X.K H' ⟨b'.b,D::b2.z⟩ st'
       rw [hb'];exact S'
      ·show RVs X.K H' ⟨b'.b,D::b2.z⟩ l lV
       rw [hb'];exact r')
    exact Wu rfl rfl loop (T.self X.A 0 _ _ _ (T.keep _ _ _ t2 fun a ha o e=>k4 a o (k3 a o e)) loop)
   ·rw [AH hl] at P;exact P.elim
def QA (n:Nat) (l:List PV):qh:=l.map some++List.replicate (n - l.length) none
def qFi:RS->Rs PV
 | .nx _ st => .ok .non st
 | .rt v st => .ok v st
 | .ex x st => .ex x st
 |_ => .no
def Refn (n:Nat) (r r':Rs PV):Prop := ∀ (K:W.Frag) (E:XK) (H:Hp) (b:Bz) (Q:VK),b.b.length=n->PostE K E H b r' Q->PostE K E H b r Q
theorem Refn.refl {n:Nat} {r:Rs PV}:Refn n r r:=fun _ _ _ _ _ _ h=>h
theorem REnv.init {K:W.Frag} {H:Hp} {b:Bz} {N:List Str} {l:List PV} {vs:List V} (h:RVs K H b l vs):REnv K H b (QA N.length l) (start N vs):=by
 have hl:=h.length
 refine ⟨by simp [QA,L2.start,hl],fun i p e => ?_⟩
 unfold QA at e
 unfold L2.start
 by_cases hi:i < l.length
 ·rw [Ak (by simpa using hi),Ac] at e
  rw [Ak (by simpa [← hl] using hi),Ac]
  cases q:l[i]? with
  |none=>rw [q] at e;cases e
  |some p' =>
   rw [q] at e
   cases e
   obtain ⟨v,h1,h2⟩:=h.get q
   exact ⟨v,by rw [h1];rfl,h2⟩
 ·rw [A1 (by simpa using hi),Bw] at e
  split at e <;> cases e
section
variable {P:Program} {w:World} {K:W.Frag} {mg:Str->Option Value} {base:Heap}
theorem okV {CX:CXT} {x qual:Str} {st:Stmt} {f:Addr} {fd:FuncData} {N ps:List Str} {k:Nat} {g:List PV->qB->Rs PV} (F:Fun K x qual st f fd) (S:FnScope N ps (qH st))
  (body:∀ (cdv:Value) (A:Around) (outer:List Env) (s:Shared) (H:Hp) (E:XK),Room k (A.deeper (envOfC qual (qH st) s.heap.objs.size f cdv))->(0 < k->A.handled=none) ->
   ∃ B:FS,VSs (Wg CX P w K mg base N qual (qH st) f cdv A outer s H E) E (qb st) B ∧ ∀ l s0,l.length=ps.length->g l s0 ≠ .no->Refn s0.length (qFi (B (QA N.length l) s0)) (g l s0)):FnOk P w K mg base CX (k + 1) f fd ps (spG K ps.length g):=by
 obtain ⟨oc,od,kV,doc,pm,an,cdv,ct,osl,rfl,lk,hcd⟩:=F.ex
 refine qH2 lk hcd S (fun vs H Q E h=>h.1) fun A outer s H vs Q E hr hcm hsp => ?_
 obtain ⟨B,hB,hg⟩:=body cdv A outer s H E hr hcm
 obtain ⟨hl,b,l,st0,S0,r0,P0⟩:=hsp
 refine ⟨_,hB,b,QA N.length l,st0,S0,REnv.init r0,?_⟩
 have hne:g l st0 ≠ .no:=fun z=>by rw [z] at P0;exact P0
 have P1:=hg l st0 (by rw [r0.length];exact hl) hne K E H b Q S0.len P0
 cases e:B (QA N.length l) st0 with
 |nx r st=>rw [e] at P1;exact fun s H' b' e' S' R'=>P1 .non H' b' e' S' (by unfold RV;rfl)
 |rt v st=>rw [e] at P1;exact P1
 |bk r st=>rw [e] at P1;exact P1.elim
 |ct r st=>rw [e] at P1;exact P1.elim
 |ex x st=>rw [e] at P1;exact P1
 |no=>rw [e] at P1;exact P1.elim
end
mutual
def peq:PV->PV->Bool
 | .non,.non=>true
 | .bl a,.bl c=>a==c
 | .int a,.int c=>a==c
 | .bl a,.int c=>(if a then 1 else 0)==c
 | .int a,.bl c=>a==(if c then 1 else 0)
 | .str a,.str c=>a==c
 | .tup l,.tup m=>peqs l m
 | .lst l,.lst m=>peqs l m
 |_,_=>false
def peqs:List PV->List PV->Bool
 |[],[]=>true
 |p::ps,q::qs=>peq p q&&peqs ps qs
 |_,_=>false
end
mutual
def nr:PV->Bool
 | .tup l=>nrs l
 | .lst l=>nrs l
 | .ref _=>false
 | .dct=>false
 | .ty _=>false
 | .fn _=>false
 | .exc _ _=>false
 |_=>true
def nrs:List PV->Bool
 |[]=>true
 |p::ps=>nr p&&nrs ps
end
mutual
def dep:PV->Nat
 | .tup l=>deps l + 1
 | .lst l=>deps l + 1
 |_=>0
def deps:List PV->Nat
 |[]=>0
 |p::ps=>max (dep p) (deps ps)
end
mutual
def RW (K:W.Frag) (H:Hp):PV->V->Prop
 | .non,v=>v = .non
 | .bl x,v=>v = .bl x
 | .int i,v=>v = .int i
 | .str x,v=>v = .str x
 | .tup l,v => ∃ a xs,v = .ref a∧SqT K H a xs∧RWs K H l xs
 | .lst l,v => ∃ a xs,v = .ref a∧SqL K H a xs∧RWs K H l xs
 |_,_=>False
def RWs (K:W.Frag) (H:Hp):List PV->List V->Prop
 |[],xs=>xs=[]
 |p::ps,xs => ∃ x r,xs=x::r∧RW K H p x∧RWs K H ps r
end
mutual
theorem RV.rw {K:W.Frag} {H:Hp} {b:Bz}:∀ (p:PV) {v:V},nr p=true->RV K H b p v->RW K H p v
 | .non,_,_,h=>by unfold RV at h;unfold RW;exact h
 | .bl _,_,_,h=>by unfold RV at h;unfold RW;exact h
 | .int _,_,_,h=>by unfold RV at h;unfold RW;exact h
 | .str _,_,_,h=>by unfold RV at h;unfold RW;exact h
 | .tup l,_,n,h=>by
  unfold RV at h;unfold RW;unfold nr at n
  obtain ⟨a,xs,h1,h2,h3⟩:=h
  exact ⟨a,xs,h1,h2.sq,RVs.rws l n h3⟩
 | .lst l,_,n,h=>by
  unfold RV at h;unfold RW;unfold nr at n
  obtain ⟨a,xs,h1,h2,h3⟩:=h
  exact ⟨a,xs,h1,h2.sq,RVs.rws l n h3⟩
 | .ref _,_,n,_=>by unfold nr at n;cases n
 | .dct,_,n,_=>by unfold nr at n;cases n
 | .ty _,_,n,_=>by unfold nr at n;cases n
 | .fn _,_,n,_=>by unfold nr at n;cases n
 | .exc _ _,_,n,_=>by unfold nr at n;cases n
theorem RVs.rws {K:W.Frag} {H:Hp} {b:Bz}:∀ (l:List PV) {xs:List V},nrs l=true->RVs K H b l xs->RWs K H l xs
 |[],_,_,h=>by unfold RVs at h;unfold RWs;exact h
 |p::ps,_,n,h=>by
  unfold RVs at h;unfold RWs;unfold nrs at n
  rw [Am] at n
  obtain ⟨x,r,h1,h2,h3⟩:=h
  exact ⟨x,r,h1,RV.rw p n.1 h2,RVs.rws ps n.2 h3⟩
end
theorem RWs.length {K:W.Frag} {H:Hp}:∀ {l:List PV} {xs:List V},RWs K H l xs->l.length=xs.length
 |[],_,h=>by unfold RWs at h;rw [h];rfl
 |p::ps,_,h=>by
  unfold RWs at h
  obtain ⟨x,r,rfl,_,h3⟩:=h
  rw [AM,AM,RWs.length h3]
section
variable {X:Cx} {pins:List (Addr×Obj)} {σ:L2.St} {H:Hp} {s:Shared}
theorem ZG (I:L2.Inv X pins σ H s) {a:Addr} {xs ys:List V} (h1:SqL X.K H a xs) (h2:SqT X.K H a ys):False:=by
 obtain ⟨its,_,p,_⟩:=I.list h1
 obtain ⟨its',_,q,_⟩:=I.tuple h2
 obtain ⟨o,ho,hc,n,hd⟩:=p.isList
 obtain ⟨o',ho',hc',_⟩:=q
 rw [ho] at ho';cases ho'
 rw [hc] at hc'
 injection hc' with z
 exact absurd z (by decide)
mutual
theorem RW.same (I:L2.Inv X pins σ H s):∀ (p q:PV) {v:V},RW X.K H p v->RW X.K H q v->peq p q=true
 | .non,q,v,h,g=>by
  unfold RW at h;subst h
  cases q <;> unfold RW at g <;> first |rfl |exact (g:False).elim |(obtain ⟨_,_,e,_⟩:=g;cases e) |cases g
 | .bl x,q,v,h,g=>by
  unfold RW at h;subst h
  cases q <;> unfold RW at g <;> first |(obtain ⟨_,_,e,_⟩:=g;cases e) |(cases g;simp [peq];done) |exact (g:False).elim |cases g
 | .int x,q,v,h,g=>by
  unfold RW at h;subst h
  cases q <;> unfold RW at g <;> first |(obtain ⟨_,_,e,_⟩:=g;cases e) |(cases g;simp [peq];done) |exact (g:False).elim |cases g
 | .str x,q,v,h,g=>by
  unfold RW at h;subst h
  cases q <;> unfold RW at g <;> first |(obtain ⟨_,_,e,_⟩:=g;cases e) |(cases g;simp [peq];done) |exact (g:False).elim |cases g
 | .tup l,q,v,h,g=>by
  unfold RW at h
  obtain ⟨a,xs,rfl,h2,h3⟩:=h
  cases q with
  |tup m =>
   unfold RW at g
   obtain ⟨a',ys,e,g2,g3⟩:=g
   cases e
   have:=I.tuple_inj h2 g2
   subst this
   unfold peq
   exact RWs.same I l m h3 g3
  |lst m =>
   unfold RW at g
   obtain ⟨a',ys,e,g2,g3⟩:=g
   cases e
   exact (ZG I g2 h2).elim
  |ref _=>unfold RW at g;exact g.elim
  |dct=>unfold RW at g;exact g.elim
  |ty _=>unfold RW at g;exact g.elim
  |fn _=>unfold RW at g;exact g.elim
  |exc _ _=>unfold RW at g;exact g.elim
  |non=>unfold RW at g;cases g
  |bl _=>unfold RW at g;cases g
  |int _=>unfold RW at g;cases g
  |str _=>unfold RW at g;cases g
 | .lst l,q,v,h,g=>by
  unfold RW at h
  obtain ⟨a,xs,rfl,h2,h3⟩:=h
  cases q with
  |lst m =>
   unfold RW at g
   obtain ⟨a',ys,e,g2,g3⟩:=g
   cases e
   have:=I.list_inj h2 g2
   subst this
   unfold peq
   exact RWs.same I l m h3 g3
  |tup m =>
   unfold RW at g
   obtain ⟨a',ys,e,g2,g3⟩:=g
   cases e
   exact (ZG I h2 g2).elim
  |ref _=>unfold RW at g;exact g.elim
  |dct=>unfold RW at g;exact g.elim
  |ty _=>unfold RW at g;exact g.elim
  |fn _=>unfold RW at g;exact g.elim
  |exc _ _=>unfold RW at g;exact g.elim
  |non=>unfold RW at g;cases g
  |bl _=>unfold RW at g;cases g
  |int _=>unfold RW at g;cases g
  |str _=>unfold RW at g;cases g
 | .ref _,_,_,h,_=>by unfold RW at h;exact h.elim
 | .dct,_,_,h,_=>by unfold RW at h;exact h.elim
 | .ty _,_,_,h,_=>by unfold RW at h;exact h.elim
 | .fn _,_,_,h,_=>by unfold RW at h;exact h.elim
 | .exc _ _,_,_,h,_=>by unfold RW at h;exact h.elim
theorem RWs.same (I:L2.Inv X pins σ H s):∀ (l m:List PV) {xs:List V},RWs X.K H l xs->RWs X.K H m xs->peqs l m=true
 |[],m,xs,h,g=>by
  unfold RWs at h;subst h
  cases m with
  |nil=>rfl
  |cons _ _=>unfold RWs at g;obtain ⟨_,_,e,_⟩:=g;cases e
 |p::ps,m,xs,h,g=>by
  unfold RWs at h
  obtain ⟨x,r,rfl,h2,h3⟩:=h
  cases m with
  |nil=>unfold RWs at g;cases g
  |cons q qs =>
   unfold RWs at g
   obtain ⟨y,t,e,g2,g3⟩:=g
   cases e
   unfold peqs
   rw [RW.same I p q h2 g2,RWs.same I ps qs h3 g3];rfl
end
def eqN (l m:List PV) (j:Nat):Bool:=match l[j]?,m[j]? with
 |some p,some q=>peq p q
 |_,_=>false
theorem W5:∀ (l m:List PV),l.length=m.length->(List.range l.length).all (eqN l m)=peqs l m
 |[],[],_=>rfl
 |p::ps,q::qs,h=>by
  have ih:=W5 ps qs (by simpa using h)
  rw [AM,List.range_succ_eq_map,List.all_cons,List.all_map]
  unfold peqs
  have e0:eqN (p::ps) (q::qs) 0=peq p q:=rfl
  have e1:(eqN (p::ps) (q::qs) ∘ Nat.succ)=eqN ps qs:=by funext j;rfl
  rw [e0,e1,ih]
 |[],_::_,h=>by simp at h
 |_::_,[],h=>by simp at h
theorem WO:∀ (l m:List PV),l.length≠m.length->peqs l m=false
 |[],[],h=>absurd rfl h
 |[],_::_,_=>rfl
 |_::_,[],_=>rfl
 |p::ps,q::qs,h=>by
  unfold peqs
  rw [WO ps qs (by intro z;apply h;rw [AM,AM,z]),B6]
theorem RWs.get' {K:W.Frag} {H:Hp}:∀ {l:List PV} {xs:List V} {i:Nat} {x:V},RWs K H l xs->xs[i]? = some x -> ∃ p,l[i]? = some p∧RW K H p x
 |[],_,_,_,h,e=>by unfold RWs at h;subst h;simp at e
 |p::ps,_,0,x,h,e=>by
  unfold RWs at h
  obtain ⟨y,r,rfl,h2,h3⟩:=h
  simp at e;subst e
  exact ⟨p,rfl,h2⟩
 |p::ps,_,i + 1,x,h,e=>by
  unfold RWs at h
  obtain ⟨y,r,rfl,h2,h3⟩:=h
  obtain ⟨q,e1,e2⟩:=RWs.get' (i:=i) h3 (by simpa using e)
  exact ⟨q,by simpa using e1,e2⟩
theorem Vals.get2:∀ {xs:List V} {us:List Value} {i:Nat} {u:Value},Vals xs us->us[i]? = some u -> ∃ x,xs[i]? = some x∧RelV x u
 |_,_,_,_,.nil,e=>by simp at e
 |_,_,0,_,.cons r _,e=>by simp at e;subst e;exact ⟨_,rfl,r⟩
 |_,_,i + 1,u,.cons _ t,e=>by
  obtain ⟨x,h1,h2⟩:=Vals.get2 (i:=i) (u:=u) t (by simpa using e)
  exact ⟨x,by simpa using h1,h2⟩
theorem Qj (I:L2.Inv X pins σ H s) (p q:PV) {v u:V} {uv uu:Value} {A:Around} (hd:dep p=0) (hu':A.units < cLine) (hp:RW X.K H p v) (hq:RW X.K H q u) (rv:RelV v uv) (ru:RelV u uu):SeqAt.EqAt A s uv uu (peq p q):=by
 cases p with
 |tup l=>unfold dep at hd;omega
 |lst l=>unfold dep at hd;omega
 |ref _=>unfold RW at hp;exact hp.elim
 |dct=>unfold RW at hp;exact hp.elim
 |ty _=>unfold RW at hp;exact hp.elim
 |fn _=>unfold RW at hp;exact hp.elim
 |exc _ _=>unfold RW at hp;exact hp.elim
 |non =>
  unfold RW at hp;subst hp;cases rv
  cases q with
  |non=>unfold RW at hq;subst hq;cases ru;exact SeqAt.EqAt.same _
  |bl _=>unfold RW at hq;subst hq;cases ru;exact SeqAt.EqAt.none_bool _
  |int _=>unfold RW at hq;subst hq;obtain ⟨t,rfl⟩:=ru;exact SeqAt.EqAt.none_int _ _
  |str _=>unfold RW at hq;subst hq;obtain ⟨t,rfl⟩:=ru;exact SeqAt.EqAt.none_str _ _
  |tup _=>unfold RW at hq;obtain ⟨a,xs,rfl,h2,_⟩:=hq;cases ru;obtain ⟨its,_,t,_⟩:=I.tuple h2;exact SeqAt.EqAt.none_tuple t hu'
  |lst _=>unfold RW at hq;obtain ⟨a,xs,rfl,h2,_⟩:=hq;cases ru;obtain ⟨its,_,t,_⟩:=I.list h2;exact SeqAt.EqAt.none_list t.isList hu'
  |ref _=>unfold RW at hq;exact hq.elim
  |dct=>unfold RW at hq;exact hq.elim
  |ty _=>unfold RW at hq;exact hq.elim
  |fn _=>unfold RW at hq;exact hq.elim
  |exc _ _=>unfold RW at hq;exact hq.elim
 |bl x =>
  unfold RW at hp;subst hp;cases rv
  cases q with
  |non=>unfold RW at hq;subst hq;cases ru;exact SeqAt.EqAt.bool_none _
  |bl _=>unfold RW at hq;subst hq;cases ru;exact SeqAt.EqAt.bool_bool _ _
  |int _=>unfold RW at hq;subst hq;obtain ⟨t,rfl⟩:=ru;exact SeqAt.EqAt.bool_int _ _ _
  |str _=>unfold RW at hq;subst hq;obtain ⟨t,rfl⟩:=ru;exact SeqAt.EqAt.bool_str _ _ _
  |tup _=>unfold RW at hq;obtain ⟨a,xs,rfl,h2,_⟩:=hq;cases ru;obtain ⟨its,_,t,_⟩:=I.tuple h2;exact SeqAt.EqAt.bool_tuple _ t hu'
  |lst _=>unfold RW at hq;obtain ⟨a,xs,rfl,h2,_⟩:=hq;cases ru;obtain ⟨its,_,t,_⟩:=I.list h2;exact SeqAt.EqAt.bool_list _ t.isList hu'
  |ref _=>unfold RW at hq;exact hq.elim
  |dct=>unfold RW at hq;exact hq.elim
  |ty _=>unfold RW at hq;exact hq.elim
  |fn _=>unfold RW at hq;exact hq.elim
  |exc _ _=>unfold RW at hq;exact hq.elim
 |int x =>
  unfold RW at hp;subst hp;obtain ⟨t0,rfl⟩:=rv
  cases q with
  |non=>unfold RW at hq;subst hq;cases ru;exact SeqAt.EqAt.int_none _ _
  |bl _=>unfold RW at hq;subst hq;cases ru;exact SeqAt.EqAt.int_bool _ _ _
  |int _=>unfold RW at hq;subst hq;obtain ⟨t,rfl⟩:=ru;exact SeqAt.EqAt.int_int _ _ _ _
  |str _=>unfold RW at hq;subst hq;obtain ⟨t,rfl⟩:=ru;exact SeqAt.EqAt.int_str _ _ _ _
  |tup _=>unfold RW at hq;obtain ⟨a,xs,rfl,h2,_⟩:=hq;cases ru;obtain ⟨its,_,t,_⟩:=I.tuple h2;exact SeqAt.EqAt.int_tuple _ _ t hu'
  |lst _=>unfold RW at hq;obtain ⟨a,xs,rfl,h2,_⟩:=hq;cases ru;obtain ⟨its,_,t,_⟩:=I.list h2;exact SeqAt.EqAt.int_list _ _ t.isList hu'
  |ref _=>unfold RW at hq;exact hq.elim
  |dct=>unfold RW at hq;exact hq.elim
  |ty _=>unfold RW at hq;exact hq.elim
  |fn _=>unfold RW at hq;exact hq.elim
  |exc _ _=>unfold RW at hq;exact hq.elim
 |str x =>
  unfold RW at hp;subst hp;obtain ⟨t0,rfl⟩:=rv
  cases q with
  |non=>unfold RW at hq;subst hq;cases ru;exact SeqAt.EqAt.str_none _ _
  |bl _=>unfold RW at hq;subst hq;cases ru;exact SeqAt.EqAt.str_bool _ _ _
  |int _=>unfold RW at hq;subst hq;obtain ⟨t,rfl⟩:=ru;exact SeqAt.EqAt.str_int _ _ _ _
  |str _=>unfold RW at hq;subst hq;obtain ⟨t,rfl⟩:=ru;exact SeqAt.EqAt.str_str _ _ _ _
  |tup _=>unfold RW at hq;obtain ⟨a,xs,rfl,h2,_⟩:=hq;cases ru;obtain ⟨its,_,t,_⟩:=I.tuple h2;exact SeqAt.EqAt.str_tuple _ _ t hu'
  |lst _=>unfold RW at hq;obtain ⟨a,xs,rfl,h2,_⟩:=hq;cases ru;obtain ⟨its,_,t,_⟩:=I.list h2;exact SeqAt.EqAt.str_list _ _ t.isList hu'
  |ref _=>unfold RW at hq;exact hq.elim
  |dct=>unfold RW at hq;exact hq.elim
  |ty _=>unfold RW at hq;exact hq.elim
  |fn _=>unfold RW at hq;exact hq.elim
  |exc _ _=>unfold RW at hq;exact hq.elim
theorem zB:∀ {l:List PV} {i:Nat} {p:PV},l[i]? = some p->dep p≤deps l
 |[],_,_,h=>by simp at h
 |q::qs,0,p,h=>by simp at h;subst h;unfold deps;exact Nat.le_max_left _ _
 |q::qs,i + 1,p,h=>by unfold deps;exact Aa (zB (l:=qs) (i:=i) (by simpa using h)) (Nat.le_max_right _ _)
theorem qAr (I:L2.Inv X pins σ H s):∀ (n:Nat) (p q:PV) (v u:V) (uv uu:Value) (A:Around),dep p≤n->A.units + n < cLine->RW X.K H p v->RW X.K H q u->RelV v uv->RelV u uu->SeqAt.EqAt A s uv uu (peq p q):=by
 intro n
 induction n with
 |zero=>intro p q v u uv uu A hd hu hp hq rv ru;exact Qj I p q (Nat.le_zero.mp hd) hu hp hq rv ru
 |succ n ih =>
  intro p q v u uv uu A hd hu hp hq rv ru
  have hu':A.units < cLine:=B1 (CA _ _) hu
  have hin:A.in1.units + n < cLine:=by show A.units + 1 + n < cLine;omega
  have elt:∀ {l m:List PV} {xs ys:List V} {its its2:List Value},deps l≤n->RWs X.K H l xs->RWs X.K H m ys->Vals xs its->Vals ys its2 -> ∀ j (h1:j < its.toArray.size) (h2:j < its2.toArray.size),SeqAt.EqAt A.in1 s its.toArray[j] its2.toArray[j] (eqN l m j):=fun {l m xs ys its its2} hdl hl hm vl vm j h1 h2=>by
   have e1:its[j]? = some its.toArray[j]:=by simp
   have e2:its2[j]? = some its2.toArray[j]:=by simp
   obtain ⟨x,hx,rx⟩:=Vals.get2 vl e1
   obtain ⟨y,hy,ry⟩:=Vals.get2 vm e2
   obtain ⟨p',hp',rp'⟩:=RWs.get' hl hx
   obtain ⟨q',hq',rq'⟩:=RWs.get' hm hy
   have:eqN l m j=peq p' q':=by unfold eqN;rw [hp',hq']
   rw [this]
   exact ih p' q' x y _ _ A.in1 (Aa (zB hp') hdl) hin rp' rq' rx ry
  cases p with
  |tup l =>
   have hp0:=hp
   unfold RW at hp
   unfold dep at hd
   obtain ⟨a,xs,rfl,h2,h3⟩:=hp
   cases rv
   obtain ⟨its,vl,tl,_⟩:=I.tuple h2
   cases q with
   |non=>unfold RW at hq;subst hq;cases ru;exact SeqAt.EqAt.tuple_none tl hu'
   |bl _=>unfold RW at hq;subst hq;cases ru;exact SeqAt.EqAt.tuple_bool _ tl hu'
   |int _=>unfold RW at hq;subst hq;obtain ⟨t,rfl⟩:=ru;exact SeqAt.EqAt.tuple_int _ _ tl hu'
   |str _=>unfold RW at hq;subst hq;obtain ⟨t,rfl⟩:=ru;exact SeqAt.EqAt.tuple_str _ _ tl hu'
   |lst _=>unfold RW at hq;obtain ⟨a,xs,rfl,h2,_⟩:=hq;cases ru;obtain ⟨its,_,t,_⟩:=I.list h2;exact SeqAt.EqAt.tuple_list tl t.isList hu'
   |ref _=>unfold RW at hq;exact hq.elim
   |dct=>unfold RW at hq;exact hq.elim
   |ty _=>unfold RW at hq;exact hq.elim
   |fn _=>unfold RW at hq;exact hq.elim
   |exc _ _=>unfold RW at hq;exact hq.elim
   |tup m =>
    have hq0:=hq
    unfold RW at hq
    obtain ⟨a2,ys,rfl,g2,g3⟩:=hq
    cases ru
    obtain ⟨its2,vm,tm,_⟩:=I.tuple g2
    by_cases ha:a=a2
    ·subst ha
     rw [RW.same I _ _ hp0 hq0]
     exact SeqAt.EqAt.same _
    ·refine SeqAt.EqAt.of_refs ha ?_
     have rc:=SeqAt.RcAt.tuples (e:=eqN l m) tl tm hu' (elt (by omega) h3 g3 vl vm)
     have hl1:its.toArray.size=l.length:=by rw [AN,← vl.length,h3.length]
     have hl2:its2.toArray.size=m.length:=by rw [AN,← vm.length,g3.length]
     rw [hl1,hl2] at rc
     have e:((List.range (min l.length m.length)).all (eqN l m)&&l.length==m.length)=peq (.tup l) (.tup m):=by
      unfold peq
      by_cases hlm:l.length=m.length
      ·rw [← hlm,Nat.min_self,W5 l m hlm,Az,CG]
      ·rw [WO l m hlm,Bj hlm,B6]
     rw [e] at rc
     exact rc
  |lst l =>
   have hp0:=hp
   unfold RW at hp
   unfold dep at hd
   obtain ⟨a,xs,rfl,h2,h3⟩:=hp
   cases rv
   obtain ⟨its,vl,tl',_⟩:=I.list h2
   have tl:=tl'.isList
   cases q with
   |non=>unfold RW at hq;subst hq;cases ru;exact SeqAt.EqAt.list_none tl hu'
   |bl _=>unfold RW at hq;subst hq;cases ru;exact SeqAt.EqAt.list_bool _ tl hu'
   |int _=>unfold RW at hq;subst hq;obtain ⟨t,rfl⟩:=ru;exact SeqAt.EqAt.list_int _ _ tl hu'
   |str _=>unfold RW at hq;subst hq;obtain ⟨t,rfl⟩:=ru;exact SeqAt.EqAt.list_str _ _ tl hu'
   |tup _=>unfold RW at hq;obtain ⟨a,xs,rfl,h2,_⟩:=hq;cases ru;obtain ⟨its,_,t,_⟩:=I.tuple h2;exact SeqAt.EqAt.list_tuple tl t hu'
   |ref _=>unfold RW at hq;exact hq.elim
   |dct=>unfold RW at hq;exact hq.elim
   |ty _=>unfold RW at hq;exact hq.elim
   |fn _=>unfold RW at hq;exact hq.elim
   |exc _ _=>unfold RW at hq;exact hq.elim
   |lst m =>
    have hq0:=hq
    unfold RW at hq
    obtain ⟨a2,ys,rfl,g2,g3⟩:=hq
    cases ru
    obtain ⟨its2,vm,tm',_⟩:=I.list g2
    have tm:=tm'.isList
    by_cases ha:a=a2
    ·subst ha
     rw [RW.same I _ _ hp0 hq0]
     exact SeqAt.EqAt.same _
    ·refine SeqAt.EqAt.of_refs ha ?_
     have hl1:its.toArray.size=l.length:=by rw [AN,← vl.length,h3.length]
     have hl2:its2.toArray.size=m.length:=by rw [AN,← vm.length,g3.length]
     unfold peq
     by_cases hlm:l.length=m.length
     ·have rc:=SeqAt.RcAt.lists (e:=eqN l m) tl tm (by rw [hl1,hl2,hlm]) hu' (elt (by omega) h3 g3 vl vm)
      rw [hl1,W5 l m hlm] at rc
      exact rc
     ·rw [WO l m hlm]
      exact SeqAt.RcAt.lists_lengths tl tm (by rw [hl1,hl2];exact bne_iff_ne.mpr hlm) hu'
  |non=>exact Qj I _ q rfl hu' hp hq rv ru
  |bl _=>exact Qj I _ q rfl hu' hp hq rv ru
  |int _=>exact Qj I _ q rfl hu' hp hq rv ru
  |str _=>exact Qj I _ q rfl hu' hp hq rv ru
  |ref _=>exact Qj I _ q rfl hu' hp hq rv ru
  |dct=>exact Qj I _ q rfl hu' hp hq rv ru
  |ty _=>exact Qj I _ q rfl hu' hp hq rv ru
  |fn _=>exact Qj I _ q rfl hu' hp hq rv ru
  |exc _ _=>exact Qj I _ q rfl hu' hp hq rv ru
end
section
variable {X:Cx} {pins:List (Addr×Obj)} {σ:L2.St} {H:Hp} {s:Shared}
mutual
theorem RW.det (I:L2.Inv X pins σ H s):∀ (p q:PV) {v:V},RW X.K H p v->RW X.K H q v->p=q
 | .non,q,v,h,g=>by
  unfold RW at h;subst h
  cases q <;> unfold RW at g <;> first |rfl |exact (g:False).elim |(obtain ⟨_,_,e,_⟩:=g;cases e) |cases g
 | .bl x,q,v,h,g=>by
  unfold RW at h;subst h
  cases q <;> unfold RW at g <;> first |(obtain ⟨_,_,e,_⟩:=g;cases e) |(cases g;rfl) |exact (g:False).elim |cases g
 | .int x,q,v,h,g=>by
  unfold RW at h;subst h
  cases q <;> unfold RW at g <;> first |(obtain ⟨_,_,e,_⟩:=g;cases e) |(cases g;rfl) |exact (g:False).elim |cases g
 | .str x,q,v,h,g=>by
  unfold RW at h;subst h
  cases q <;> unfold RW at g <;> first |(obtain ⟨_,_,e,_⟩:=g;cases e) |(cases g;rfl) |exact (g:False).elim |cases g
 | .tup l,q,v,h,g=>by
  unfold RW at h
  obtain ⟨a,xs,rfl,h2,h3⟩:=h
  cases q with
  |tup m =>
   unfold RW at g
   obtain ⟨a',ys,e,g2,g3⟩:=g
   cases e
   have:=I.tuple_inj h2 g2
   subst this
   rw [RWs.det I l m h3 g3]
  |lst m =>
   unfold RW at g
   obtain ⟨a',ys,e,g2,g3⟩:=g
   cases e
   exact (ZG I g2 h2).elim
  |ref _=>unfold RW at g;exact g.elim
  |dct=>unfold RW at g;exact g.elim
  |ty _=>unfold RW at g;exact g.elim
  |fn _=>unfold RW at g;exact g.elim
  |exc _ _=>unfold RW at g;exact g.elim
  |non=>unfold RW at g;cases g
  |bl _=>unfold RW at g;cases g
  |int _=>unfold RW at g;cases g
  |str _=>unfold RW at g;cases g
 | .lst l,q,v,h,g=>by
  unfold RW at h
  obtain ⟨a,xs,rfl,h2,h3⟩:=h
  cases q with
  |lst m =>
   unfold RW at g
   obtain ⟨a',ys,e,g2,g3⟩:=g
   cases e
   have:=I.list_inj h2 g2
   subst this
   rw [RWs.det I l m h3 g3]
  |tup m =>
   unfold RW at g
   obtain ⟨a',ys,e,g2,g3⟩:=g
   cases e
   exact (ZG I h2 g2).elim
  |ref _=>unfold RW at g;exact g.elim
  |dct=>unfold RW at g;exact g.elim
  |ty _=>unfold RW at g;exact g.elim
  |fn _=>unfold RW at g;exact g.elim
  |exc _ _=>unfold RW at g;exact g.elim
  |non=>unfold RW at g;cases g
  |bl _=>unfold RW at g;cases g
  |int _=>unfold RW at g;cases g
  |str _=>unfold RW at g;cases g
 | .ref _,_,_,h,_=>by unfold RW at h;exact h.elim
 | .dct,_,_,h,_=>by unfold RW at h;exact h.elim
 | .ty _,_,_,h,_=>by unfold RW at h;exact h.elim
 | .fn _,_,_,h,_=>by unfold RW at h;exact h.elim
 | .exc _ _,_,_,h,_=>by unfold RW at h;exact h.elim
theorem RWs.det (I:L2.Inv X pins σ H s):∀ (l m:List PV) {xs:List V},RWs X.K H l xs->RWs X.K H m xs->l=m
 |[],m,xs,h,g=>by
  unfold RWs at h;subst h
  cases m with
  |nil=>rfl
  |cons _ _=>unfold RWs at g;obtain ⟨_,_,e,_⟩:=g;cases e
 |p::ps,m,xs,h,g=>by
  unfold RWs at h
  obtain ⟨x,r,rfl,h2,h3⟩:=h
  cases m with
  |nil=>unfold RWs at g;cases g
  |cons q qs =>
   unfold RWs at g
   obtain ⟨y,t,e,g2,g3⟩:=g
   cases e
   rw [RW.det I p q h2 g2,RWs.det I ps qs h3 g3]
end
theorem Qx (I:L2.Inv X pins σ H s) (p q:PV) {v u:V} {uv uu:Value} {A:Around} (hd:dep p=0) (hu':A.units < cLine) (hp:RW X.K H p v) (hq:RW X.K H q u) (rv:RelV v uv) (ru:RelV u uu):SeqAt.RcAt A s uv uu (peq p q):=by
 cases p with
 |tup l=>unfold dep at hd;omega
 |lst l=>unfold dep at hd;omega
 |ref _=>unfold RW at hp;exact hp.elim
 |dct=>unfold RW at hp;exact hp.elim
 |ty _=>unfold RW at hp;exact hp.elim
 |fn _=>unfold RW at hp;exact hp.elim
 |exc _ _=>unfold RW at hp;exact hp.elim
 |non =>
  unfold RW at hp;subst hp;cases rv
  cases q with
  |non=>unfold RW at hq;subst hq;cases ru;exact SeqAt.RcAt.none_none
  |bl _=>unfold RW at hq;subst hq;cases ru;exact SeqAt.RcAt.none_bool _
  |int _=>unfold RW at hq;subst hq;obtain ⟨t,rfl⟩:=ru;exact SeqAt.RcAt.none_int _ _
  |str _=>unfold RW at hq;subst hq;obtain ⟨t,rfl⟩:=ru;exact SeqAt.RcAt.none_str _ _
  |tup _=>unfold RW at hq;obtain ⟨a,xs,rfl,h2,_⟩:=hq;cases ru;obtain ⟨its,_,t,_⟩:=I.tuple h2;exact SeqAt.RcAt.none_tuple t hu'
  |lst _=>unfold RW at hq;obtain ⟨a,xs,rfl,h2,_⟩:=hq;cases ru;obtain ⟨its,_,t,_⟩:=I.list h2;exact SeqAt.RcAt.none_list t.isList hu'
  |ref _=>unfold RW at hq;exact hq.elim
  |dct=>unfold RW at hq;exact hq.elim
  |ty _=>unfold RW at hq;exact hq.elim
  |fn _=>unfold RW at hq;exact hq.elim
  |exc _ _=>unfold RW at hq;exact hq.elim
 |bl x =>
  unfold RW at hp;subst hp;cases rv
  cases q with
  |non=>unfold RW at hq;subst hq;cases ru;exact SeqAt.RcAt.bool_none _
  |bl _=>unfold RW at hq;subst hq;cases ru;exact SeqAt.RcAt.bool_bool _ _
  |int _=>unfold RW at hq;subst hq;obtain ⟨t,rfl⟩:=ru;exact SeqAt.RcAt.bool_int _ _ _
  |str _=>unfold RW at hq;subst hq;obtain ⟨t,rfl⟩:=ru;exact SeqAt.RcAt.bool_str _ _ _
  |tup _=>unfold RW at hq;obtain ⟨a,xs,rfl,h2,_⟩:=hq;cases ru;obtain ⟨its,_,t,_⟩:=I.tuple h2;exact SeqAt.RcAt.bool_tuple _ t hu'
  |lst _=>unfold RW at hq;obtain ⟨a,xs,rfl,h2,_⟩:=hq;cases ru;obtain ⟨its,_,t,_⟩:=I.list h2;exact SeqAt.RcAt.bool_list _ t.isList hu'
  |ref _=>unfold RW at hq;exact hq.elim
  |dct=>unfold RW at hq;exact hq.elim
  |ty _=>unfold RW at hq;exact hq.elim
  |fn _=>unfold RW at hq;exact hq.elim
  |exc _ _=>unfold RW at hq;exact hq.elim
 |int x =>
  unfold RW at hp;subst hp;obtain ⟨t0,rfl⟩:=rv
  cases q with
  |non=>unfold RW at hq;subst hq;cases ru;exact SeqAt.RcAt.int_none _ _
  |bl _=>unfold RW at hq;subst hq;cases ru;exact SeqAt.RcAt.int_bool _ _ _
  |int _=>unfold RW at hq;subst hq;obtain ⟨t,rfl⟩:=ru;exact SeqAt.RcAt.int_int _ _ _ _
  |str _=>unfold RW at hq;subst hq;obtain ⟨t,rfl⟩:=ru;exact SeqAt.RcAt.int_str _ _ _ _
  |tup _=>unfold RW at hq;obtain ⟨a,xs,rfl,h2,_⟩:=hq;cases ru;obtain ⟨its,_,t,_⟩:=I.tuple h2;exact SeqAt.RcAt.int_tuple _ _ t hu'
  |lst _=>unfold RW at hq;obtain ⟨a,xs,rfl,h2,_⟩:=hq;cases ru;obtain ⟨its,_,t,_⟩:=I.list h2;exact SeqAt.RcAt.int_list _ _ t.isList hu'
  |ref _=>unfold RW at hq;exact hq.elim
  |dct=>unfold RW at hq;exact hq.elim
  |ty _=>unfold RW at hq;exact hq.elim
  |fn _=>unfold RW at hq;exact hq.elim
  |exc _ _=>unfold RW at hq;exact hq.elim
 |str x =>
  unfold RW at hp;subst hp;obtain ⟨t0,rfl⟩:=rv
  cases q with
  |non=>unfold RW at hq;subst hq;cases ru;exact SeqAt.RcAt.str_none _ _
  |bl _=>unfold RW at hq;subst hq;cases ru;exact SeqAt.RcAt.str_bool _ _ _
  |int _=>unfold RW at hq;subst hq;obtain ⟨t,rfl⟩:=ru;exact SeqAt.RcAt.str_int _ _ _ _
  |str _=>unfold RW at hq;subst hq;obtain ⟨t,rfl⟩:=ru;exact SeqAt.RcAt.str_str _ _ _ _
  |tup _=>unfold RW at hq;obtain ⟨a,xs,rfl,h2,_⟩:=hq;cases ru;obtain ⟨its,_,t,_⟩:=I.tuple h2;exact SeqAt.RcAt.str_tuple _ _ t hu'
  |lst _=>unfold RW at hq;obtain ⟨a,xs,rfl,h2,_⟩:=hq;cases ru;obtain ⟨its,_,t,_⟩:=I.list h2;exact SeqAt.RcAt.str_list _ _ t.isList hu'
  |ref _=>unfold RW at hq;exact hq.elim
  |dct=>unfold RW at hq;exact hq.elim
  |ty _=>unfold RW at hq;exact hq.elim
  |fn _=>unfold RW at hq;exact hq.elim
  |exc _ _=>unfold RW at hq;exact hq.elim
theorem Q0 (I:L2.Inv X pins σ H s) (p q:PV) {v u:V} {uv uu:Value} {A:Around} (hd:dep p=0) (hu':A.units < cLine) (hp:RW X.K H p v) (hq:RW X.K H q u) (rv:RelV v uv) (ru:RelV u uu):SeqAt.RcNeAt A s uv uu (!peq p q):=by
 cases p with
 |tup l=>unfold dep at hd;omega
 |lst l=>unfold dep at hd;omega
 |ref _=>unfold RW at hp;exact hp.elim
 |dct=>unfold RW at hp;exact hp.elim
 |ty _=>unfold RW at hp;exact hp.elim
 |fn _=>unfold RW at hp;exact hp.elim
 |exc _ _=>unfold RW at hp;exact hp.elim
 |non =>
  unfold RW at hp;subst hp;cases rv
  cases q with
  |non=>unfold RW at hq;subst hq;cases ru;exact SeqAt.RcNeAt.none_none
  |bl _=>unfold RW at hq;subst hq;cases ru;exact SeqAt.RcNeAt.none_bool _
  |int _=>unfold RW at hq;subst hq;obtain ⟨t,rfl⟩:=ru;exact SeqAt.RcNeAt.none_int _ _
  |str _=>unfold RW at hq;subst hq;obtain ⟨t,rfl⟩:=ru;exact SeqAt.RcNeAt.none_str _ _
  |tup _=>unfold RW at hq;obtain ⟨a,xs,rfl,h2,_⟩:=hq;cases ru;obtain ⟨its,_,t,_⟩:=I.tuple h2;exact SeqAt.RcNeAt.none_tuple t hu'
  |lst _=>unfold RW at hq;obtain ⟨a,xs,rfl,h2,_⟩:=hq;cases ru;obtain ⟨its,_,t,_⟩:=I.list h2;exact SeqAt.RcNeAt.none_list t.isList hu'
  |ref _=>unfold RW at hq;exact hq.elim
  |dct=>unfold RW at hq;exact hq.elim
  |ty _=>unfold RW at hq;exact hq.elim
  |fn _=>unfold RW at hq;exact hq.elim
  |exc _ _=>unfold RW at hq;exact hq.elim
 |bl x =>
  unfold RW at hp;subst hp;cases rv
  cases q with
  |non=>unfold RW at hq;subst hq;cases ru;exact SeqAt.RcNeAt.bool_none _
  |bl _=>unfold RW at hq;subst hq;cases ru;exact SeqAt.RcNeAt.bool_bool _ _
  |int _=>unfold RW at hq;subst hq;obtain ⟨t,rfl⟩:=ru;exact SeqAt.RcNeAt.bool_int _ _ _
  |str _=>unfold RW at hq;subst hq;obtain ⟨t,rfl⟩:=ru;exact SeqAt.RcNeAt.bool_str _ _ _
  |tup _=>unfold RW at hq;obtain ⟨a,xs,rfl,h2,_⟩:=hq;cases ru;obtain ⟨its,_,t,_⟩:=I.tuple h2;exact SeqAt.RcNeAt.bool_tuple _ t hu'
  |lst _=>unfold RW at hq;obtain ⟨a,xs,rfl,h2,_⟩:=hq;cases ru;obtain ⟨its,_,t,_⟩:=I.list h2;exact SeqAt.RcNeAt.bool_list _ t.isList hu'
  |ref _=>unfold RW at hq;exact hq.elim
  |dct=>unfold RW at hq;exact hq.elim
  |ty _=>unfold RW at hq;exact hq.elim
  |fn _=>unfold RW at hq;exact hq.elim
  |exc _ _=>unfold RW at hq;exact hq.elim
 |int x =>
  unfold RW at hp;subst hp;obtain ⟨t0,rfl⟩:=rv
  cases q with
  |non=>unfold RW at hq;subst hq;cases ru;exact SeqAt.RcNeAt.int_none _ _
  |bl _=>unfold RW at hq;subst hq;cases ru;exact SeqAt.RcNeAt.int_bool _ _ _
  |int _=>unfold RW at hq;subst hq;obtain ⟨t,rfl⟩:=ru;exact SeqAt.RcNeAt.int_int _ _ _ _
  |str _=>unfold RW at hq;subst hq;obtain ⟨t,rfl⟩:=ru;exact SeqAt.RcNeAt.int_str _ _ _ _
  |tup _=>unfold RW at hq;obtain ⟨a,xs,rfl,h2,_⟩:=hq;cases ru;obtain ⟨its,_,t,_⟩:=I.tuple h2;exact SeqAt.RcNeAt.int_tuple _ _ t hu'
  |lst _=>unfold RW at hq;obtain ⟨a,xs,rfl,h2,_⟩:=hq;cases ru;obtain ⟨its,_,t,_⟩:=I.list h2;exact SeqAt.RcNeAt.int_list _ _ t.isList hu'
  |ref _=>unfold RW at hq;exact hq.elim
  |dct=>unfold RW at hq;exact hq.elim
  |ty _=>unfold RW at hq;exact hq.elim
  |fn _=>unfold RW at hq;exact hq.elim
  |exc _ _=>unfold RW at hq;exact hq.elim
 |str x =>
  unfold RW at hp;subst hp;obtain ⟨t0,rfl⟩:=rv
  cases q with
  |non=>unfold RW at hq;subst hq;cases ru;exact SeqAt.RcNeAt.str_none _ _
  |bl _=>unfold RW at hq;subst hq;cases ru;exact SeqAt.RcNeAt.str_bool _ _ _
  |int _=>unfold RW at hq;subst hq;obtain ⟨t,rfl⟩:=ru;exact SeqAt.RcNeAt.str_int _ _ _ _
  |str _=>unfold RW at hq;subst hq;obtain ⟨t,rfl⟩:=ru;exact SeqAt.RcNeAt.str_str _ _ _ _
  |tup _=>unfold RW at hq;obtain ⟨a,xs,rfl,h2,_⟩:=hq;cases ru;obtain ⟨its,_,t,_⟩:=I.tuple h2;exact SeqAt.RcNeAt.str_tuple _ _ t hu'
  |lst _=>unfold RW at hq;obtain ⟨a,xs,rfl,h2,_⟩:=hq;cases ru;obtain ⟨its,_,t,_⟩:=I.list h2;exact SeqAt.RcNeAt.str_list _ _ t.isList hu'
  |ref _=>unfold RW at hq;exact hq.elim
  |dct=>unfold RW at hq;exact hq.elim
  |ty _=>unfold RW at hq;exact hq.elim
  |fn _=>unfold RW at hq;exact hq.elim
  |exc _ _=>unfold RW at hq;exact hq.elim
theorem qH5 (I:L2.Inv X pins σ H s) (p q:PV) {v u:V} {uv uu:Value} {A:Around} (hu:A.units + (dep p + 1) < cLine) (hp:RW X.K H p v) (hq:RW X.K H q u) (rv:RelV v uv) (ru:RelV u uu):SeqAt.RcAt A s uv uu (peq p q):=by
 have hu':A.units < cLine:=B1 (CA _ _) hu
 have elt:∀ {n:Nat} {l m:List PV} {xs ys:List V} {its its2:List Value},A.in1.units + n < cLine->deps l≤n->RWs X.K H l xs->RWs X.K H m ys->Vals xs its->Vals ys its2 -> ∀ j (h1:j < its.toArray.size) (h2:j < its2.toArray.size),SeqAt.EqAt A.in1 s its.toArray[j] its2.toArray[j] (eqN l m j):=fun {n l m xs ys its its2} hin hdl hl hm vl vm j h1 h2=>by
  have e1:its[j]? = some its.toArray[j]:=by simp
  have e2:its2[j]? = some its2.toArray[j]:=by simp
  obtain ⟨x,hx,rx⟩:=Vals.get2 vl e1
  obtain ⟨y,hy,ry⟩:=Vals.get2 vm e2
  obtain ⟨p',hp',rp'⟩:=RWs.get' hl hx
  obtain ⟨q',hq',rq'⟩:=RWs.get' hm hy
  have:eqN l m j=peq p' q':=by unfold eqN;rw [hp',hq']
  rw [this]
  exact qAr I n p' q' x y _ _ A.in1 (Aa (zB hp') hdl) hin rp' rq' rx ry
 cases p with
 |tup l =>
  have hp0:=hp
  unfold RW at hp
  obtain ⟨a,xs,rfl,h2,h3⟩:=hp
  cases rv
  obtain ⟨its,vl,tl,_⟩:=I.tuple h2
  unfold dep at hu
  cases q with
  |non=>unfold RW at hq;subst hq;cases ru;exact SeqAt.RcAt.tuple_none tl hu'
  |bl _=>unfold RW at hq;subst hq;cases ru;exact SeqAt.RcAt.tuple_bool _ tl hu'
  |int _=>unfold RW at hq;subst hq;obtain ⟨t,rfl⟩:=ru;exact SeqAt.RcAt.tuple_int _ _ tl hu'
  |str _=>unfold RW at hq;subst hq;obtain ⟨t,rfl⟩:=ru;exact SeqAt.RcAt.tuple_str _ _ tl hu'
  |lst _=>unfold RW at hq;obtain ⟨a,xs,rfl,h2,_⟩:=hq;cases ru;obtain ⟨its,_,t,_⟩:=I.list h2;exact SeqAt.RcAt.tuple_list tl t.isList hu'
  |ref _=>unfold RW at hq;exact hq.elim
  |dct=>unfold RW at hq;exact hq.elim
  |ty _=>unfold RW at hq;exact hq.elim
  |fn _=>unfold RW at hq;exact hq.elim
  |exc _ _=>unfold RW at hq;exact hq.elim
  |tup m =>
   unfold RW at hq
   obtain ⟨a2,ys,rfl,g2,g3⟩:=hq
   cases ru
   obtain ⟨its2,vm,tm,_⟩:=I.tuple g2
   have rc:=SeqAt.RcAt.tuples (e:=eqN l m) tl tm hu' (elt (n:=deps l) (by show A.units + 1 + deps l < cLine;omega) (AI _) h3 g3 vl vm)
   have hl1:its.toArray.size=l.length:=by rw [AN,← vl.length,h3.length]
   have hl2:its2.toArray.size=m.length:=by rw [AN,← vm.length,g3.length]
   rw [hl1,hl2] at rc
   have e:((List.range (min l.length m.length)).all (eqN l m)&&l.length==m.length)=peq (.tup l) (.tup m):=by
    unfold peq
    by_cases hlm:l.length=m.length
    ·rw [← hlm,Nat.min_self,W5 l m hlm,Az,CG]
    ·rw [WO l m hlm,Bj hlm,B6]
   rw [e] at rc
   exact rc
 |lst l =>
  have hp0:=hp
  unfold RW at hp
  obtain ⟨a,xs,rfl,h2,h3⟩:=hp
  cases rv
  obtain ⟨its,vl,tl',_⟩:=I.list h2
  have tl:=tl'.isList
  unfold dep at hu
  cases q with
  |non=>unfold RW at hq;subst hq;cases ru;exact SeqAt.RcAt.list_none tl hu'
  |bl _=>unfold RW at hq;subst hq;cases ru;exact SeqAt.RcAt.list_bool _ tl hu'
  |int _=>unfold RW at hq;subst hq;obtain ⟨t,rfl⟩:=ru;exact SeqAt.RcAt.list_int _ _ tl hu'
  |str _=>unfold RW at hq;subst hq;obtain ⟨t,rfl⟩:=ru;exact SeqAt.RcAt.list_str _ _ tl hu'
  |tup _=>unfold RW at hq;obtain ⟨a,xs,rfl,h2,_⟩:=hq;cases ru;obtain ⟨its,_,t,_⟩:=I.tuple h2;exact SeqAt.RcAt.list_tuple tl t hu'
  |ref _=>unfold RW at hq;exact hq.elim
  |dct=>unfold RW at hq;exact hq.elim
  |ty _=>unfold RW at hq;exact hq.elim
  |fn _=>unfold RW at hq;exact hq.elim
  |exc _ _=>unfold RW at hq;exact hq.elim
  |lst m =>
   unfold RW at hq
   obtain ⟨a2,ys,rfl,g2,g3⟩:=hq
   cases ru
   obtain ⟨its2,vm,tm',_⟩:=I.list g2
   have tm:=tm'.isList
   have hl1:its.toArray.size=l.length:=by rw [AN,← vl.length,h3.length]
   have hl2:its2.toArray.size=m.length:=by rw [AN,← vm.length,g3.length]
   unfold peq
   by_cases hlm:l.length=m.length
   ·have rc:=SeqAt.RcAt.lists (e:=eqN l m) tl tm (by rw [hl1,hl2,hlm]) hu' (elt (n:=deps l) (by show A.units + 1 + deps l < cLine;omega) (AI _) h3 g3 vl vm)
    rw [hl1,W5 l m hlm] at rc
    exact rc
   ·rw [WO l m hlm]
    exact SeqAt.RcAt.lists_lengths tl tm (by rw [hl1,hl2];exact bne_iff_ne.mpr hlm) hu'
 |non=>exact Qx I _ q rfl hu' hp hq rv ru
 |bl _=>exact Qx I _ q rfl hu' hp hq rv ru
 |int _=>exact Qx I _ q rfl hu' hp hq rv ru
 |str _=>exact Qx I _ q rfl hu' hp hq rv ru
 |ref _=>exact Qx I _ q rfl hu' hp hq rv ru
 |dct=>exact Qx I _ q rfl hu' hp hq rv ru
 |ty _=>exact Qx I _ q rfl hu' hp hq rv ru
 |fn _=>exact Qx I _ q rfl hu' hp hq rv ru
 |exc _ _=>exact Qx I _ q rfl hu' hp hq rv ru
theorem qI1 (I:L2.Inv X pins σ H s) (p q:PV) {v u:V} {uv uu:Value} {A:Around} (hu:A.units + (dep p + 1) < cLine) (hp:RW X.K H p v) (hq:RW X.K H q u) (rv:RelV v uv) (ru:RelV u uu):SeqAt.RcNeAt A s uv uu (!peq p q):=by
 have hu':A.units < cLine:=B1 (CA _ _) hu
 have elt:∀ {n:Nat} {l m:List PV} {xs ys:List V} {its its2:List Value},A.in1.units + n < cLine->deps l≤n->RWs X.K H l xs->RWs X.K H m ys->Vals xs its->Vals ys its2 -> ∀ j (h1:j < its.toArray.size) (h2:j < its2.toArray.size),SeqAt.EqAt A.in1 s its.toArray[j] its2.toArray[j] (eqN l m j):=fun {n l m xs ys its its2} hin hdl hl hm vl vm j h1 h2=>by
  have e1:its[j]? = some its.toArray[j]:=by simp
  have e2:its2[j]? = some its2.toArray[j]:=by simp
  obtain ⟨x,hx,rx⟩:=Vals.get2 vl e1
  obtain ⟨y,hy,ry⟩:=Vals.get2 vm e2
  obtain ⟨p',hp',rp'⟩:=RWs.get' hl hx
  obtain ⟨q',hq',rq'⟩:=RWs.get' hm hy
  have:eqN l m j=peq p' q':=by unfold eqN;rw [hp',hq']
  rw [this]
  exact qAr I n p' q' x y _ _ A.in1 (Aa (zB hp') hdl) hin rp' rq' rx ry
 cases p with
 |tup l =>
  have hp0:=hp
  unfold RW at hp
  obtain ⟨a,xs,rfl,h2,h3⟩:=hp
  cases rv
  obtain ⟨its,vl,tl,_⟩:=I.tuple h2
  unfold dep at hu
  cases q with
  |non=>unfold RW at hq;subst hq;cases ru;exact SeqAt.RcNeAt.tuple_none tl hu'
  |bl _=>unfold RW at hq;subst hq;cases ru;exact SeqAt.RcNeAt.tuple_bool _ tl hu'
  |int _=>unfold RW at hq;subst hq;obtain ⟨t,rfl⟩:=ru;exact SeqAt.RcNeAt.tuple_int _ _ tl hu'
  |str _=>unfold RW at hq;subst hq;obtain ⟨t,rfl⟩:=ru;exact SeqAt.RcNeAt.tuple_str _ _ tl hu'
  |lst _=>unfold RW at hq;obtain ⟨a,xs,rfl,h2,_⟩:=hq;cases ru;obtain ⟨its,_,t,_⟩:=I.list h2;exact SeqAt.RcNeAt.tuple_list tl t.isList hu'
  |ref _=>unfold RW at hq;exact hq.elim
  |dct=>unfold RW at hq;exact hq.elim
  |ty _=>unfold RW at hq;exact hq.elim
  |fn _=>unfold RW at hq;exact hq.elim
  |exc _ _=>unfold RW at hq;exact hq.elim
  |tup m =>
   unfold RW at hq
   obtain ⟨a2,ys,rfl,g2,g3⟩:=hq
   cases ru
   obtain ⟨its2,vm,tm,_⟩:=I.tuple g2
   have rc:=SeqAt.RcNeAt.tuples (e:=eqN l m) tl tm hu' (elt (n:=deps l) (by show A.units + 1 + deps l < cLine;omega) (AI _) h3 g3 vl vm)
   have hl1:its.toArray.size=l.length:=by rw [AN,← vl.length,h3.length]
   have hl2:its2.toArray.size=m.length:=by rw [AN,← vm.length,g3.length]
   rw [hl1,hl2] at rc
   have e:((List.range (min l.length m.length)).all (eqN l m)&&l.length==m.length)=peq (.tup l) (.tup m):=by
    unfold peq
    by_cases hlm:l.length=m.length
    ·rw [← hlm,Nat.min_self,W5 l m hlm,Az,CG]
    ·rw [WO l m hlm,Bj hlm,B6]
   rw [e] at rc
   exact rc
 |lst l =>
  have hp0:=hp
  unfold RW at hp
  obtain ⟨a,xs,rfl,h2,h3⟩:=hp
  cases rv
  obtain ⟨its,vl,tl',_⟩:=I.list h2
  have tl:=tl'.isList
  unfold dep at hu
  cases q with
  |non=>unfold RW at hq;subst hq;cases ru;exact SeqAt.RcNeAt.list_none tl hu'
  |bl _=>unfold RW at hq;subst hq;cases ru;exact SeqAt.RcNeAt.list_bool _ tl hu'
  |int _=>unfold RW at hq;subst hq;obtain ⟨t,rfl⟩:=ru;exact SeqAt.RcNeAt.list_int _ _ tl hu'
  |str _=>unfold RW at hq;subst hq;obtain ⟨t,rfl⟩:=ru;exact SeqAt.RcNeAt.list_str _ _ tl hu'
  |tup _=>unfold RW at hq;obtain ⟨a,xs,rfl,h2,_⟩:=hq;cases ru;obtain ⟨its,_,t,_⟩:=I.tuple h2;exact SeqAt.RcNeAt.list_tuple tl t hu'
  |ref _=>unfold RW at hq;exact hq.elim
  |dct=>unfold RW at hq;exact hq.elim
  |ty _=>unfold RW at hq;exact hq.elim
  |fn _=>unfold RW at hq;exact hq.elim
  |exc _ _=>unfold RW at hq;exact hq.elim
  |lst m =>
   unfold RW at hq
   obtain ⟨a2,ys,rfl,g2,g3⟩:=hq
   cases ru
   obtain ⟨its2,vm,tm',_⟩:=I.list g2
   have tm:=tm'.isList
   have hl1:its.toArray.size=l.length:=by rw [AN,← vl.length,h3.length]
   have hl2:its2.toArray.size=m.length:=by rw [AN,← vm.length,g3.length]
   unfold peq
   by_cases hlm:l.length=m.length
   ·have rc:=SeqAt.RcNeAt.lists (e:=eqN l m) tl tm (by rw [hl1,hl2,hlm]) hu' (elt (n:=deps l) (by show A.units + 1 + deps l < cLine;omega) (AI _) h3 g3 vl vm)
    rw [hl1,W5 l m hlm] at rc
    exact rc
   ·rw [WO l m hlm]
    exact SeqAt.RcNeAt.lists_lengths tl tm (by rw [hl1,hl2];exact bne_iff_ne.mpr hlm) hu'
 |non=>exact Q0 I _ q rfl hu' hp hq rv ru
 |bl _=>exact Q0 I _ q rfl hu' hp hq rv ru
 |int _=>exact Q0 I _ q rfl hu' hp hq rv ru
 |str _=>exact Q0 I _ q rfl hu' hp hq rv ru
 |ref _=>exact Q0 I _ q rfl hu' hp hq rv ru
 |dct=>exact Q0 I _ q rfl hu' hp hq rv ru
 |ty _=>exact Q0 I _ q rfl hu' hp hq rv ru
 |fn _=>exact Q0 I _ q rfl hu' hp hq rv ru
 |exc _ _=>exact Q0 I _ q rfl hu' hp hq rv ru
end
def res (st:qB) (p:PV):PV:=match asL st p with
 |some l => .lst l
 |none=>p
theorem zy {K:W.Frag} {H:Hp} {b:Bz} {st:qB} {p:PV} {v:V} (S:SR K H b st) (r:RV K H b p v) (h:nr (res st p)=true):RW K H (res st p) v:=by
 unfold res at h ⊢
 cases e:asL st p with
 |none=>rw [e] at h;exact RV.rw p h r
 |some l =>
  rw [e] at h
  obtain ⟨a,xs,rfl,h2,h3⟩:=Q3 S r e
  dsimp only at h ⊢
  unfold nr at h
  unfold RW
  exact ⟨a,xs,rfl,h2,RVs.rws l h h3⟩
abbrev Zx:Nat:=60
def zT (p q:PV):Bool:=nr p&&nr q&&decide (dep p≤Zx)
def gEq:PV->PV->qB->Rs PV:=fun p q st=>if zT (res st p) (res st q)=true then .ok (.bl (peq (res st p) (res st q))) st else .no
def gNe:PV->PV->qB->Rs PV:=fun p q st=>if zT (res st p) (res st q)=true then .ok (.bl (!peq (res st p) (res st q))) st else .no
section
variable {X:Cx} {E:XK} {e a c d:Expr} {es:List Expr} {f fa fb fc:FE} {pos:Pos}
def qFH (K:W.Frag) (neg:Bool):R2:=fun u v H Q => ∃ p q,RW K H p u∧RW K H q v∧dep p≤Zx∧Q (.bl (if neg then !peq p q else peq p q)) H
theorem WY (hr:X.A.units + 64 < cLine):OpR X (compareOp .Eq) (qFH X.K false):=by
 intro pins s σ H x y v u Q I rx ry h
 obtain ⟨p,q,hp,hq,hd,h⟩:=h
 exact qH5 I p q (by have:dep p≤60:=hd;omega) hp hq rx ry _ _ _ _ ⟨.bl _,H,I,rfl,h⟩
theorem zx (hr:X.A.units + 64 < cLine):OpR X (compareOp .NotEq) (qFH X.K true):=by
 intro pins s σ H x y v u Q I rx ry h
 obtain ⟨p,q,hp,hq,hd,h⟩:=h
 exact qI1 I p q (by have:dep p≤60:=hd;omega) hp hq rx ry _ _ _ _ ⟨.bl _,H,I,rfl,h⟩
theorem yF {p q:PV} (h:zT p q=true):nr p=true∧nr q=true∧dep p≤Zx:=by
 unfold zT at h
 rw [Am,Am] at h
 exact ⟨h.1.1,h.1.2,BI h.2⟩
theorem zU:OpG X E (qFH X.K false) gEq:=by
 intro H b st p q u v Q S rp rq P
 unfold gEq at P
 split at P
 ·rename_i h
  obtain ⟨h1,h2,h3⟩:=yF h
  exact ⟨_,_,zy S rp h1,zy S rq h2,h3,PostE.here P S Wl⟩
 ·exact P.elim
theorem yI:OpG X E (qFH X.K true) gNe:=by
 intro H b st p q u v Q S rp rq P
 unfold gNe at P
 split at P
 ·rename_i h
  obtain ⟨h1,h2,h3⟩:=yF h
  exact ⟨_,_,zy S rp h1,zy S rq h2,h3,PostE.here P S Wl⟩
 ·exact P.elim
theorem qF9 (hr:X.A.units + 64 < cLine) (ha:VE X E a fa) (hb:VE X E c fb):VE X E (.Compare a [.Eq] [c] pos) (qG gEq fa fb):=Y6 (WY hr) zU ha hb
def pin (x:PV):List PV->Bool
 |[]=>false
 |y::ys=>peq y x || pin x ys
def gIn (neg:Bool):PV->PV->qB->Rs PV:=fun p q st=>match w5 st q with
 |some l=>if nrs l=true∧nr (res st p)=true∧deps l≤Zx then .ok (.bl (if neg then !pin (res st p) l else pin (res st p) l)) st else .no
 |none => .no
def qH3 (K:W.Frag) (neg:Bool):R2:=fun u v H Q => ∃ p l a xs,v = .ref a∧(SqL K H a xs∨SqT K H a xs)∧RW K H p u∧RWs K H l xs∧deps l≤Zx∧Q (.bl (if neg then !pin p l else pin p l)) H
theorem qBi {X:Cx} {pins:List (Addr×Obj)} {σ:L2.St} {H:Hp} {s:Shared} (I:L2.Inv X pins σ H s) {A:Around} {p:PV} {u:V} {uu:Value} (hp:RW X.K H p u) (ru:RelV u uu) (hA:A.units + 60 < cLine)
  {l:List PV} {xs:List V} {its:List Value} (hl:RWs X.K H l xs) (vl:Vals xs its) (hd:deps l≤Zx):∃ g:Value->Bool,(∀ y∈its,SeqAt.EqAt A s y uu (g y))∧its.any g=pin p l:=by
 classical
 have key:∀ (q:PV) (x:V) (y:Value),RW X.K H q x->RelV x y->decide (∃ q x,RW X.K H q x∧RelV x y∧peq q p=true)=peq q p:=fun q x y h1 h2=>by
  by_cases hb:peq q p=true
  ·rw [hb];exact AR ⟨q,x,h1,h2,hb⟩
  ·rw [show peq q p=false by simpa using hb]
   refine AO fun ⟨q',x',k1,k2,k3⟩=>hb ?_
   have ex:x'=x:=k2.inj h2
   subst ex
   rw [RW.det I q q' h1 k1];exact k3
 refine ⟨fun y=>decide (∃ q x,RW X.K H q x∧RelV x y∧peq q p=true),fun y hy => ?_,?_⟩
 ·obtain ⟨i,hi⟩:=List.getElem?_of_mem hy
  obtain ⟨x,hx,rx⟩:=Vals.get2 vl hi
  obtain ⟨q,hq,rq⟩:=RWs.get' hl hx
  dsimp only
  rw [key q x y rq rx]
  exact qAr I 60 q p x u y uu A (Aa (zB hq) hd) hA rq hp rx ru
 ·have go:∀ (l:List PV) (xs:List V) (its:List Value),RWs X.K H l xs->Vals xs its->its.any (fun y=>decide (∃ q x,RW X.K H q x∧RelV x y∧peq q p=true))=pin p l:=by
   intro l
   induction l with
   |nil=>intro xs its h v;unfold RWs at h;subst h;cases v;rfl
   |cons q qs ih =>
    intro xs its h v
    unfold RWs at h
    obtain ⟨x,r,rfl,h2,h3⟩:=h
    cases v with
    |cons rv vr =>
     rw [List.any_cons,key q x _ h2 rv,ih _ _ h3 vr]
     rfl
  exact go l xs its hl vl
theorem qAf (hr:X.A.units + 64 < cLine):OpR X (compareOp .In) (qH3 X.K false):=by
 intro pins s σ H x y v u Q I rx ry h
 obtain ⟨p,l,a,xs,rfl,hs,hp,hl,hd,h⟩:=h
 cases ry
 have hA:X.A.in1.units + 60 < cLine:=by show X.A.units + 1 + 60 < cLine;omega
 rcases hs with hs |hs
 ·obtain ⟨its,vl,t,_⟩:=I.list hs
  obtain ⟨g,h1,h2⟩:=qBi I hp rx hA hl vl hd
  exact SeqAt.in_listAt g t.isList (fun y hy=>h1 y (by simpa using hy)) ⟨.bl _,H,I,by show _=_;rw [List.any_toArray,h2];rfl,h⟩
 ·obtain ⟨its,vl,t,_⟩:=I.tuple hs
  obtain ⟨g,h1,h2⟩:=qBi I hp rx hA hl vl hd
  exact SeqAt.in_tupleAt g t (fun y hy=>h1 y (by simpa using hy)) ⟨.bl _,H,I,by show _=_;rw [List.any_toArray,h2];rfl,h⟩
theorem qCr {neg:Bool}:OpG X E (qH3 X.K neg) (gIn neg):=by
 intro H b st p q u v Q S rp rq P
 unfold gIn at P
 split at P
 ·rename_i l el
  split at P
  ·rename_i hh
   obtain ⟨h1,h2,h3⟩:=hh
   obtain ⟨a,xs,rfl,k2,k3⟩:=Z7 S rq el
   exact ⟨_,l,a,xs,rfl,k2,zy S rp h2,RVs.rws l h1 k3,h3,PostE.here P S Wl⟩
  ·exact P.elim
 ·exact P.elim
theorem qIH (hr:X.A.units + 64 < cLine) (ha:VE X E a fa) (hb:VE X E c fb) (hm:behindInMarks .In c=false:=by with_unfolding_all rfl):VE X E (.Compare a [.In] [c] pos) (qG (gIn false) fa fb):=Y6 (qAf hr) qCr ha hb hm
end
end EV
end
section
namespace EV
open PySem PySem.Spec PyProof.Rows L2 EX
section
variable {X:Cx} {E:XK} {e a c d:Expr} {es:List Expr} {f fa fb fc:FE} {pos:Pos} {F G:FS}
def qCX:FS:=fun _ _ => .no
theorem JL {st:Stmt}:VS X E st qCX:=PS.imp qDc fun D s H ⟨b,r,st,S,R,P⟩=>P.elim
def tyP:PV->Option Value
 | .non=>some (.type "NoneType")
 | .bl _=>some (.type "bool")
 | .int _=>some (.type "int")
 | .str _=>some (.type "str")
 | .tup _=>some (.type "tuple")
 | .lst _=>some (.type "list")
 | .ref _=>some (.type "list")
 | .dct=>some (.type "dict")
 | .exc c _=>some (.ref c)
 |_=>none
def clP:PV->Option Value
 | .ty n=>some (.type n)
 | .fn a=>some (.ref a)
 |_=>none
def qBq (kit:Value->Value->Option Bool) (p c:PV):Option Bool:=match tyP p,clP c with
 |some t,some c=>kit t c
 |_,_=>none
def jx (kit:Value->Value->Option Bool) (p:PV):List PV->Option Bool
 |[]=>some false
 |c::r=>match qBq kit p c with
  |some true=>some true
  |some false=>jx kit p r
  |none=>none
def qH9 (kit:Value->Value->Option Bool) (p:PV):PV->Option Bool
 | .tup cs=>if (tyP p).isSome then jx kit p cs else none
 |c=>qBq kit p c
structure KitOk (K:W.Frag) (kit:Value->Value->Option Bool):Prop where
 one:∀ t c b,kit t c=some b->W.kitOne K t c=some b
 exc:∀ a c b,kit (.ref a) c=some b->ExcK K a
end
end EV
end
section
namespace EX
open PySem PySem.Spec PyProof.Rows L2
theorem qBZ {X:Cx} {pins:List (Addr×Obj)} {σ:L2.St} {H:Hp} {s:Shared} (I:L2.Inv X pins σ H s) {fp:List Addr} (hf:∀ b∈fp,ze X pins H b) {h':Heap} {t':Nat} {x y:V} {u v:Value} (rx:RelV x u) (ry:RelV y v)
  (k:∀ b o,b ∉ fp->s.heap.get? b=some o->h'.get? b=some o) (kf:∀ b∈fp,∃ o,h'.get? b=some o) (hT:IsPair h' s.heap.objs.size u v):L2.Inv X pins σ (upd H s.heap.objs.size (.tup [x,y])) { s with heap:=h',toks:=t' }:=by
 have hn:H s.heap.objs.size=none:=I.hok.fresh (AI _)
 have nt:∀ b o,s.heap.get? b=some o->b≠s.heap.objs.size:=fun b o e=>AU (AJ e)
 have nf:∀ b u,H b=some u->b ∉ fp:=fun b u e z=>by rw [(hf b z).1] at e;cases e
 have un:Un (frs X.stack) fp H (upd H s.heap.objs.size (.tup [x,y])) s.heap h' :=
  ⟨fun b o e _ _ hb=>k b o hb e,fun b o e _ _ hb=>⟨o.slots,k b o hb e⟩,fun b o e n _=>by rw [qP (nt b o e)];exact n,fun b o e hb=>⟨o,k b o hb e⟩,fun b xs e=>by rw [qP (qJ e hn)];exact e,fun b o u e=>by rw [qP (qJ e hn)];exact e,fun b ps e=>⟨#[],by rw [qP (qJ e hn),e];simp⟩⟩
 refine I.call (g':=s.gens) (d':=s.drawn) (t':=t') (ch:=fp) un (fun b u' e => ?_) I.bare fun b hb=>⟨(hf b hb).2.2.2.1,(hf b hb).2.1,(hf b hb).2.2.2.2.1,(hf b hb).2.2.2.2.2⟩
 by_cases hb:b=s.heap.objs.size
 ·subst hb
  rw [QL] at e;cases e
  exact ⟨by show 2≤sizeLine;decide,[u,v],.cons rx (.cons ry .nil),_,hT,rfl,0,rfl⟩
 ·rw [qP hb] at e
  refine (I.hok b u' e).stay (fun c w hc q=>k c w ?_ q) (fun c q=>by rw [qP (qJ q hn)];exact q) fun c xs q=>by rw [qP (qJ q hn)];exact q
  rcases hc with rfl |hc
  ·exact nf _ _ e
  ·exact nf _ _ hc
section
variable {X:Cx}
def qIs (K:W.Frag):R2:=fun x y H Q => ∃ l b xs zs,x = .ref l∧y = .ref b∧SqL K H l xs∧SqL K H b zs∧xs.length + zs.length≤sizeLine ∧ ∀ p,H p=none->Q (.ref p) (upd H p (.lst (xs++zs)))
theorem qFj:OpR X (binaryOp .Add) (qIs X.K):=by
 intro pins s σ H x y v u Q I rx ry h
 obtain ⟨l,b,xs,zs,rfl,rfl,h1,h2,hz,q⟩:=h
 cases rx
 cases ry
 obtain ⟨us,r1,p1,_⟩:=I.list h1
 obtain ⟨ws,r2,p2,_⟩:=I.list h2
 obtain ⟨⟨c1,d1,a1,s1⟩,o1,e1,m1,f1⟩:=id p1.isList
 obtain ⟨⟨c2,d2,a2,s2⟩,o2,e2,m2,f2⟩:=id p2.isList
 have e1:c1=_:=e1
 have e2:c2=_:=e2
 have f1:a1=_:=f1
 have f2:a2=_:=f2
 subst e1;subst e2;subst f1;subst f2
 have z:us.length + ws.length≤sizeLine:=by rw [← r1.length,← r2.length];exact hz
 refine concat_meets ⟨_,o1,rfl⟩ ⟨_,o2,rfl⟩ noFill_list_add seq_list_add F.slot_list_add F.entry_list_add (F.args_list_add_2 _ _) (list_addW l b us.toArray ws.toArray m1 m2 d1 d2 s1 s2 (by simpa using z)) ⟨o1,o2,?_⟩
 rw [show us.toArray++ws.toArray=(us++ws).toArray by simp]
 exact ⟨.ref _,_,I.lnew (t':=s.toks) (r1.append r2) (by rw [Ab];exact hz),rfl,q _ I.fresh⟩
def qGQ (K:W.Frag):R2:=fun x y H Q => ∃ a b xs ys,x = .ref a∧y = .ref b∧SqT K H a xs∧SqT K H b ys∧xs.length + ys.length≤sizeLine ∧
 (xs=[]->Q (.ref b) H)∧(xs≠[]->ys=[]->Q (.ref a) H)∧(xs≠[]->ys≠[] -> ∀ p,H p=none->Q (.ref p) (upd H p (.tup (xs++ys))))
theorem qEE:OpR X (binaryOp .Add) (qGQ X.K):=by
 intro pins s σ H x y v u Q I rx ry h
 obtain ⟨a,b,xs,ys,rfl,rfl,ha,hb,hz,q0,q1,q2⟩:=h
 by_cases hx:xs=[]
 ·cases rx
  cases ry
  obtain ⟨us,r1,p1,_⟩:=I.tuple ha
  obtain ⟨ws,r2,p2,_⟩:=I.tuple hb
  obtain ⟨⟨c1,d1,a1,s1⟩,o1,e1,m1,f1⟩:=id p1
  obtain ⟨⟨c2,d2,a2,s2⟩,o2,e2,m2,f2⟩:=id p2
  have e1:c1=_:=e1
  have e2:c2=_:=e2
  have f1:a1=_:=f1
  have f2:a2=_:=f2
  subst e1;subst e2;subst f1;subst f2
  exact concat_meets ⟨_,o1,rfl⟩ ⟨_,o2,rfl⟩ noFill_tuple_add seq_tuple_add F.slot_tuple_add F.entry_tuple_add (F.args_tuple_add_2 _ _) (tuple_addW0 a b us.toArray ws.toArray m1 m2 d1 d2 s1 s2 (by simp [r1.nil_iff.mpr hx])) ⟨o1,o2,.ref b,H,I,rfl,q0 hx⟩
 ·exact qFY pins s σ H _ _ v u Q I rx ry ⟨a,b,xs,ys,rfl,rfl,ha,hb,hx,hz,q1 hx,q2 hx⟩
def qJO (K:W.Frag):V->Option Int->Option Int->Hp->VK->Prop:=fun x lo hi H Q => ∃ a xs,x = .ref a∧SqT K H a xs∧HT.sIx xs.length 0 lo=0∧HT.sIx xs.length xs.length hi=xs.length∧Q (.ref a) H
theorem qD0:SlR X (qJO X.K):=by
 intro pins s σ H x v vl vu lo hi sl Q I rx hs pl pu h
 obtain ⟨a,xs,rfl,hx,w1,w2,q⟩:=h
 cases rx
 obtain ⟨its,r,ht,hz⟩:=I.tuple hx
 have hlen:its.toArray.size=xs.length:=by rw [AN];exact r.length.symm
 refine ⟨"tuple",_,PyProof.Rows.slot_tuple_getitem.lookup,ht.typeIs,?_⟩
 obtain ⟨os,hos,hcs,hds⟩:=id hs
 have hTs:s.TypeIs (.ref sl) "slice" := ⟨os,hos,hcs⟩
 unfold getItem
 try with_reducible refine As ?_
 first |refine AA (AE ?_) |skip
 refine AA (wpAny_sequenceKey ht.typeIs (by decide) ?_)
 refine AA (At (name:=Str.ofString "__getitem__") ht.typeIs BT (Ay BT ht.typeIs PyProof.Rows.entry_tuple_getitem ?_ (PyProof.Rows.args_tuple_getitem _ _)))
 show wpAny _ _ (Builtin.Tuple.tupleItemsOf (.ref a) >>= _) _ _ s
 refine AA (tupleItemsOf_ ht ?_)
 refine AA (wpAny_typeOf hTs ?_)
 rw [AC (by decide)]
 refine AA (HT.sliceApplied_gen hs pl pu ?_)
 rw [hlen,w1,w2]
 dsimp only
 rw [AC (show ((((0:Nat):Int)==0&&(1:Int)==1&&xs.length - 0==xs.length)=true) by simp)]
 unfold Builtin.Tuple.tupleIsExact
 refine AA (AA (wpAny_typeOf ht.typeIs (AE ?_)))
 rw [AC (by simp)]
 exact AA (CP (AE ⟨_,rfl,AE ⟨.ref a,H,I,rfl,q⟩⟩))
def PJ (X:Cx) (es:List Expr) (t:Str->L2.St->Hp->(Str->Hp->Prop)->Prop):Prop := ∀ (out:Str) (pins:List (Addr×Obj)) (s:Shared) (σ:L2.St) (H:Hp) (Q:Str->Hp->Prop),L2.Inv X pins σ H s->t out σ H Q ->
 wpAny (model X.prog X.w) X.A (joinParts out (evalEach es X.env)) (fun u s' => ∃ x H',L2.Inv X pins σ H' s'∧(∃ t,u = .str x t)∧Q x H') X.xe s
theorem qHq:PJ X [] (fun out _ H Q=>out.length≤sizeLine∧Q out H):=fun out pins s σ H Q I h=>joinParts_nil ⟨out,H,I.tok _,⟨_,rfl⟩,h.2⟩ h.1
theorem qFg {e:Expr} {es:List Expr} {te:TE} {t:Str->L2.St->Hp->(Str->Hp->Prop)->Prop} (h1:PE X e te) (h2:PJ X es t):PJ X (e::es) (fun out σ H Q=>te σ H fun v H1 => ∃ y,v = .str y∧(out++y).length≤sizeLine∧t (out++y) σ H1 Q) :=
 fun out pins s σ H Q I h=>joinParts_cons (thn (h1 pins s σ H _ I h) fun u s1 ⟨v,H1,I1,r1,y,e,z,q⟩=>by
  subst e
  obtain ⟨t',rfl⟩:=r1
  exact ⟨z,h2 (out++y) pins s1 σ H1 Q I1 q⟩)
theorem qG5 {e:Expr} {te:TE} {pos:Pos} (h:PE X e te):PE X (.FormattedValue e (-1) none pos) (fun σ H Q=>te σ H fun v H1 => ∃ i,v = .int i∧i.natAbs.log2 < 1920∧Q (.str (toString i)) H1) :=
 fun pins s σ H Q I q=>FormattedValue_plain (thn (h pins s σ H _ I q) fun u s1 ⟨v,H1,I1,r1,i,e,z,q⟩=>by
  subst e
  obtain ⟨t',rfl⟩:=r1
  exact wpAny_formatField_int z ⟨.str _,H1,I1.tok _,⟨_,rfl⟩,q⟩)
theorem qFr {e1 e2:Expr} {es:List Expr} {t:Str->L2.St->Hp->(Str->Hp->Prop)->Prop} {pos:Pos} (h:PJ X (e1::e2::es) t):PE X (.JoinedStr (e1::e2::es) pos) (fun σ H Q=>t Str.empty σ H fun x H1=>Q (.str x) H1) :=
 fun pins s σ H Q I q=>JoinedStr_many (thn (h Str.empty pins s σ H _ I q) fun u s1 ⟨x,H1,I1,r1,q1⟩=>⟨.str x,H1,I1,r1,q1⟩)
end
end EX
end
section
namespace EV
open PySem PySem.Spec PyProof.Rows L2 EX
section
variable {X:Cx} {E:XK} {e a c d:Expr} {es:List Expr} {f fa fb fc:FE} {pos:Pos} {F G:FS}
theorem Zi {x:Str} {n:String} {pos:Pos} (hg:Gl X x) (hm:X.mg x=none) (hv:bootBuiltins x=some (.type n)) (hn:x ≠ "__name__" := by decide) (hd:(x==("__debug__":Str))=false:=by decide):VE X E (.Name x pos) (vC (.ty n)) :=
 qCY (qE3 (v := .ty n) hg hm hv rfl hn hd) fun _ _=>by unfold RV;rfl
def lk (st:qB):PV->Bool
 | .ref i=>match st[i]? with
  |some (.l _)=>true
  |_=>false
 |_=>true
theorem qDN {kit:Value->Value->Option Bool} (hk:KitOk X.K kit) {pins:List (Addr×Obj)} {σ:L2.St} {H:Hp} {s:Shared} (I:L2.Inv X pins σ H s) {b:Bz} {st:qB} (S:SR X.K H b st) {p:PV} {v:V} {u t:Value} (r:RV X.K H b p v) (ru:RelV v u) (ht:tyP p=some t) (hlk:lk st p=true) (hx:∀ a,t = .ref a->ExcK X.K a) :
  ∃ Hh,W.KitX X.K u t Hh∧Hh s.heap∧u ≠ .builtin "__main__.__loader__#opaque" := by
 cases p with
 |non=>unfold RV at r;subst r;cases ht;cases (show u=Value.none from ru);exact ⟨_,W.kitx_none,trivial,fun z=>nomatch z⟩
 |bl x=>unfold RV at r;subst r;cases ht;cases (show u=Value.bool x from ru);exact ⟨_,W.kitx_bool,trivial,fun z=>nomatch z⟩
 |int x=>unfold RV at r;subst r;cases ht;obtain ⟨t,rfl⟩:=(show ∃ t,u=Value.int x t from ru);exact ⟨_,W.kitx_int,trivial,fun z=>nomatch z⟩
 |str x=>unfold RV at r;subst r;cases ht;obtain ⟨t,rfl⟩:=(show ∃ t,u=Value.str x t from ru);exact ⟨_,W.kitx_str,trivial,fun z=>nomatch z⟩
 |tup l =>
  unfold RV at r
  obtain ⟨a,xs,rfl,h2,h3⟩:=r
  cases ht
  cases (show u=Value.ref a from ru)
  obtain ⟨its,_,⟨o,h4,h5,_⟩,_⟩:=I.tuple h2.sq
  exact ⟨_,W.kitx_tuple,⟨o,h4,h5⟩,fun z=>nomatch z⟩
 |lst l =>
  unfold RV at r
  obtain ⟨a,xs,rfl,h2,h3⟩:=r
  cases ht
  cases (show u=Value.ref a from ru)
  obtain ⟨its,_,⟨o,n,h4,h5,_⟩,_⟩:=I.list h2.sq
  exact ⟨_,W.kitx_list,⟨o,h4,h5⟩,fun z=>nomatch z⟩
 |ref i =>
  unfold RV at r
  obtain ⟨a,rfl,h2⟩:=r
  cases ht
  cases (show u=Value.ref a from ru)
  have hl:i < st.length:=by rw [← S.len];exact (AV.mp h2).1
  obtain ⟨a',o,h3,h4,h5⟩:=S.at_ i _ (AS hl)
  rw [h2] at h3;cases h3
  have hq:∃ vs,o = .lst vs:=by
   cases hx:st[i] with
   |l xs=>rw [hx] at h5;obtain ⟨vs,e,_⟩:=h5;exact ⟨vs,e⟩
   |z xs=>unfold lk at hlk;dsimp only at hlk;rw [AS hl,hx] at hlk;cases hlk
   |d xs=>unfold lk at hlk;dsimp only at hlk;rw [AS hl,hx] at hlk;cases hlk
  obtain ⟨vs,rfl⟩:=hq
  obtain ⟨its,_,⟨o,n,h6,h7,_⟩,_⟩:=I.list (SqL.of h4)
  exact ⟨_,W.kitx_list,⟨o,h6,h7⟩,fun z=>nomatch z⟩
 |dct =>
  unfold RV at r
  obtain ⟨a,rfl,h2,h3⟩:=r
  cases ht
  cases (show u=Value.ref a from ru)
  obtain ⟨_,_,vs,_,o,_,_,h4,h5,_⟩:=(show ObjOk X.prog X.w H s.heap a (.dK []) from I.hok a _ h2)
  exact ⟨_,W.kitx_dict,⟨o,h4,h5.1⟩,fun z=>nomatch z⟩
 |exc c fs =>
  unfold RV at r
  obtain ⟨a,o,w,rfl,h2,h3,h4,⟨vs,h6⟩,h5⟩:=r
  cases ht
  cases (show u=Value.ref a from ru)
  have ho:s.heap.get? a=some o:=(I.hok a _ h2).1
  have hn:W.notCls o=true:=by
   obtain ⟨c',d',dt,sl⟩:=o
   have h6:dt=_:=h6
   subst h6;rfl
  refine ⟨_,qCf (hx c rfl),?_,fun z=>nomatch z⟩
  rcases h5 with ⟨_,h5⟩ |⟨d,h5,h7,h8⟩
  ·exact ⟨o,none,ho,h4,hn,by rw [h5];trivial⟩
  ·obtain ⟨od,h9⟩:=got (I.hok d _ h7)
   exact ⟨o,some od,ho,h4,hn,by rw [h5];exact h9⟩
 |ty n=>cases ht
 |fn n=>cases ht
theorem qFz {K:W.Frag} {H:Hp} {b:Bz} {c:PV} {v:V} {u t:Value} (r:RV K H b c v) (ru:RelV v u) (ht:clP c=some t):u=t:=by
 cases c with
 |ty n=>unfold RV at r;subst r;cases ht;exact ru
 |fn a=>unfold RV at r;subst r;cases ht;exact ru
 |_=>cases ht
theorem Je {kit:Value->Value->Option Bool} (hk:KitOk X.K kit) {H:Hp} {b:Bz} {p:PV} {t:Value} (ht:tyP p=some t):∀ {cs:List PV} {xs:List V} {us:List Value} {k:Bool},RVs X.K H b cs xs->Vals xs us->jx kit p cs=some k->W.kitAny X.K t us=some k
 |[],_,_,k,h,r,e=>by
  unfold RVs at h;subst h;cases r;exact e
 |c::cs,_,_,k,h,r,e=>by
  unfold RVs at h
  obtain ⟨x,xs,rfl,h1,h2⟩:=h
  cases r with
  | @cons _ u _ us r1 r2 =>
   unfold jx qBq at e
   rw [ht] at e
   cases hc:clP c with
   |none=>rw [hc] at e;cases e
   |some c' =>
    rw [hc] at e
    have eu:=qFz h1 r1 hc
    subst eu
    dsimp only at e
    unfold W.kitAny
    cases q:kit t u with
    |none=>rw [q] at e;cases e
    |some bb =>
     rw [q] at e
     rw [hk.one _ _ _ q]
     cases bb with
     |true=>exact e
     |false=>exact Je hk ht h2 r2 e
theorem qDY {kit:Value->Value->Option Bool} (hk:KitOk X.K kit) {p:PV} {t:Value} (ht:tyP p=some t):∀ {cs:List PV} {k:Bool},cs≠[]->jx kit p cs=some k -> ∀ a,t = .ref a->ExcK X.K a
 |[],_,h,_,_,_=>absurd rfl h
 |c::cs,k,_,e,a,ha=>by
  unfold jx qBq at e
  rw [ht] at e
  cases hc:clP c with
  |none=>rw [hc] at e;cases e
  |some c' =>
   rw [hc] at e
   dsimp only at e
   cases q:kit t c' with
   |none=>rw [q] at e;cases e
   |some bb=>subst ha;exact hk.exc _ _ _ q
theorem qDD {kit:Value->Value->Option Bool} (hk:KitOk X.K kit):wz X (.builtin "isinstance") (fun vs H Q => ∃ b st p c k,SR X.K H b st∧RVs X.K H b [p,c] vs∧(∀ cs,c = .tup cs->cs≠[])∧lk st p=true∧qH9 kit p c=some k∧Q (.bl k) H):=by
 intro pins s σ H xs us Q I r h
 obtain ⟨b,st,p,c,k,S,rs,hne,hlk,e,q⟩:=h
 obtain ⟨x,y,rfl,r1,r2⟩:=RVs.two rs
 obtain ⟨u,v,rfl,ru,rv⟩:=qBI r
 by_cases hc:∃ cs,c = .tup cs
 ·obtain ⟨cs,rfl⟩:=hc
  have e:(if (tyP p).isSome then jx kit p cs else none)=some k:=e
  cases ht:tyP p with
  |none=>rw [ht] at e;cases e
  |some t =>
   rw [ht] at e
   have e:jx kit p cs=some k:=e
   obtain ⟨Hh,Z,hh,hx⟩:=qDN hk I S r1 ru ht hlk (qDY hk ht (hne cs rfl) e)
   unfold RV at r2
   obtain ⟨a,ys,rfl,h2,h3⟩:=r2
   cases (show v=Value.ref a from rv)
   obtain ⟨its,r',⟨o,h4,h5,n,h6⟩,_⟩:=I.tuple h2.sq
   obtain ⟨c1,d1,dt,sl⟩:=o
   have h5:c1=_:=h5
   have h6:dt=_:=h6
   subst h5;subst h6
   exact W.kia_tup Z I.kIn hh h4 (Je hk ht h3 r' e) hx fun tk=>⟨.bl k,H,I.tok _,rfl,q⟩
 ·have e:qBq kit p c=some k:=by
   cases c <;> first |exact e |exact (hc ⟨_,rfl⟩).elim
  unfold qBq at e
  cases ht:tyP p with
  |none=>rw [ht] at e;cases e
  |some t =>
   cases hc2:clP c with
   |none=>rw [ht,hc2] at e;cases e
   |some c' =>
    rw [ht,hc2] at e
    have eu:=qFz r2 rv hc2
    subst eu
    obtain ⟨Hh,Z,hh,hx⟩:=qDN hk I S r1 ru ht hlk (fun a ha=>by subst ha;exact hk.exc _ _ _ e)
    exact W.kia_one Z I.kIn hh (hk.one _ _ _ e) hx fun tk=>⟨.bl k,H,I.tok _,rfl,q⟩
def WJ (kit:Value->Value->Option Bool):List PV->qB->Rs PV:=fun ps st=>match ps with
 |[p,c]=>match c with
  | .tup [] => .no
  |c=>match qH9 kit p c with
   |some b=>if lk st p=true then .ok (.bl b) st else .no
   |none => .no
 |_ => .no
theorem zI {kit:Value->Value->Option Bool} {ta:FA} {p:Pos} (hk:KitOk X.K kit) (hm:X.mg "isinstance" = none) (ha:VA X E (e::es) ta) (hg:Gl X "isinstance" := by rfl)
  (he:starEach (e::es) X.env=(false,eval e X.env)::starEach es X.env:=by rfl) (hpl:(backTo pos (starEach es X.env)).any (·.1)=false:=by rfl):VE X E (.Call (.Name "isinstance" p) (e::es) [] pos) (qE (WJ kit) ta) :=
 wN (qDD hk) (fun H b st ps vs Q S r P=>by
  unfold WJ at P
  split at P
  ·rename_i p c
   split at P
   ·exact P.elim
   ·rename_i hc
    split at P
    ·rename_i k hk'
     split at P
     ·rename_i hlk
      exact ⟨b,st,p,c,k,S,r,fun cs e z=>by subst e;subst z;exact hc rfl,hlk,hk',PostE.here P S Wl⟩
     ·exact P.elim
    ·exact P.elim
  ·exact P.elim) hg hm PyProof.Rows.boot_isinstance ha (he:=he) (hpl:=hpl)
end
def pbl:PV->Option Bool
 | .bl b=>some b
 |_=>none
def yG:PV->Option Int
 | .int i=>some i
 |_=>none
def QC {α:Type} (f:PV->Option α):List PV->Option (List α)
 |[]=>some []
 |p::ps=>match f p with
  |some a=>match QC f ps with
   |some r=>some (a::r)
   |none=>none
  |none=>none
section
variable {X:Cx} {E:XK} {e a c d:Expr} {es:List Expr} {f fa fb fc:FE} {pos:Pos} {F G:FS}
theorem qCw {K:W.Frag} {H:Hp} {b:Bz}:∀ {l:List PV} {xs:List V} {bs:List Bool},RVs K H b l xs->QC pbl l=some bs->xs=bs.map V.bl
 |[],_,_,h,e=>by unfold RVs at h;subst h;cases e;rfl
 |p::ps,_,bs,h,e=>by
  unfold RVs at h
  obtain ⟨x,r,rfl,h1,h2⟩:=h
  unfold QC at e
  cases p with
  |bl k =>
   unfold RV at h1;subst h1
   cases q:QC pbl ps with
   |none=>rw [q] at e;cases e
   |some r'=>rw [q] at e;cases e;rw [qCw h2 q];rfl
  |_=>cases e
theorem Z3 {K:W.Frag} {H:Hp} {b:Bz}:∀ {l:List PV} {xs:List V} {bs:List Int},RVs K H b l xs->QC yG l=some bs->xs=bs.map V.int
 |[],_,_,h,e=>by unfold RVs at h;subst h;cases e;rfl
 |p::ps,_,bs,h,e=>by
  unfold RVs at h
  obtain ⟨x,r,rfl,h1,h2⟩:=h
  unfold QC at e
  cases p with
  |int k =>
   unfold RV at h1;subst h1
   cases q:QC yG ps with
   |none=>rw [q] at e;cases e
   |some r'=>rw [q] at e;cases e;rw [Z3 h2 q];rfl
  |_=>cases e
def qEM {α:Type} (k:PV->Option α) (g:List α->PV):List PV->qB->Rs PV:=fun ps st=>match ps with
 |[p]=>match asL st p with
  |some l=>match QC k l with
   |some r => .ok (g r) st
   |none => .no
  |none => .no
 |_ => .no
def yv:=qEM pbl fun bs => .bl (bs.all id)
theorem qHO:Zp X E (fun xs H Q => ∃ (p:Addr) (bs:List Bool),xs=[.ref p]∧SqL X.K H p (bs.map V.bl)∧Q (.bl (bs.all id)) H) yv:=by
 intro H b st ps vs Q S r P
 unfold yv qEM at P
 split at P
 ·obtain ⟨v,rfl,r1⟩:=RVs.one r
  split at P
  ·rename_i l e
   split at P
   ·rename_i bs eb
    obtain ⟨a,xs,rfl,h2,h3⟩:=Q3 S r1 e
    rw [qCw h3 eb] at h2
    exact ⟨a,bs,rfl,h2,PostE.here P S Wl⟩
   ·exact P.elim
  ·exact P.elim
 ·exact P.elim
section
variable {ta:FA} {p:Pos} (ha:VA X E (e::es) ta)
include ha
theorem jO (hm:X.mg "all" = none) (hg:Gl X "all" := by rfl) (he:starEach (e::es) X.env=(false,eval e X.env)::starEach es X.env:=by rfl) (hpl:(backTo pos (starEach es X.env)).any (·.1)=false:=by rfl):VE X E (.Call (.Name "all" p) (e::es) [] pos) (qE yv ta) :=
 wN qCE qHO hg hm Boot.«all» ha (he:=he) (hpl:=hpl)
theorem ZL (hm:X.mg "len" = none) (hg:Gl X "len" := by rfl) (he:starEach (e::es) X.env=(false,eval e X.env)::starEach es X.env:=by rfl) (hpl:(backTo pos (starEach es X.env)).any (·.1)=false:=by rfl):VE X E (.Call (.Name "len" p) (e::es) [] pos) (qE zR ta) :=
 wN jF qGU hg hm Boot.«len» ha (he:=he) (hpl:=hpl)
theorem qA6 (hc:X.calm=true) (hm:X.mg "max" = none) (hg:Gl X "max" := by rfl) (he:starEach (e::es) X.env=(false,eval e X.env)::starEach es X.env:=by rfl) (hpl:(backTo pos (starEach es X.env)).any (·.1)=false:=by rfl):VE X E (.Call (.Name "max" p) (e::es) [] pos) (qE qAI ta) :=
 wN (qB9 hc) qHo hg hm Boot.«max» ha (he:=he) (hpl:=hpl)
theorem jK (hc:X.calm=true) (hm:X.mg "min" = none) (hg:Gl X "min" := by rfl) (he:starEach (e::es) X.env=(false,eval e X.env)::starEach es X.env:=by rfl) (hpl:(backTo pos (starEach es X.env)).any (·.1)=false:=by rfl):VE X E (.Call (.Name "min" p) (e::es) [] pos) (qE yY ta) :=
 wN (qBz hc) qHl hg hm Boot.«min» ha (he:=he) (hpl:=hpl)
theorem WG (hm:X.mg "tuple" = none) (hg:Gl X "tuple" := by rfl) (he:starEach (e::es) X.env=(false,eval e X.env)::starEach es X.env:=by rfl) (hpl:(backTo pos (starEach es X.env)).any (·.1)=false:=by rfl):VE X E (.Call (.Name "tuple" p) (e::es) [] pos) (qE wH ta) :=
 Za YG qDW hg hm Boot.«tuple» ha (he:=he) (hpl:=hpl)
theorem qEk (hm:X.mg "int" = none) (hg:Gl X "int" := by rfl) (he:starEach (e::es) X.env=(false,eval e X.env)::starEach es X.env:=by rfl) (hpl:(backTo pos (starEach es X.env)).any (·.1)=false:=by rfl):VE X E (.Call (.Name "int" p) (e::es) [] pos) (qE qCU ta) :=
 Za qCH qHC hg hm Boot.«int» ha (he:=he) (hpl:=hpl)
end
def yL (fa fb:FE):FL:=fun r st=>(fa r st).bind fun p s1=>(fb r s1).bind fun q s2=>match asL s2 p with
 |some l=>match asL s2 q with
  |some m=>if l.length + m.length≤sizeLine then .ok (l++m) s2 else .no
  |none => .no
 |none => .no
theorem qAT (ha:VE X E a fa) (hb:VE X E c fb):VN X E (.BinOp a .Add c pos) (yL fa fb):=PE.imp (qGI qFj ha hb) fun s H Q ⟨b,r,st,S,R,P⟩ =>
 ⟨b,r,st,S,R,PostE.bindN P fun p s1 u H1 b1 e1 S1 r1 P1=>⟨b1,r,s1,S1,R.ext e1,PostE.bindN P1 fun q s2 v H2 b2 e2 S2 r2 P2=>by
  split at P2
  ·rename_i l el
   split at P2
   ·rename_i m em
    split at P2
    ·rename_i hl
     obtain ⟨x,xs,rfl,h2,h3⟩:=Q3 S2 (RV.ext e2 p r1) el
     obtain ⟨y,ys,rfl,h4,h5⟩:=Q3 S2 r2 em
     exact ⟨x,y,xs,ys,rfl,rfl,h2,h4,by rw [← h3.length,← h5.length];exact hl,fun z hz=>PostN.lay P2 S2 (h3.append h5) hz⟩
    ·exact P2.elim
   ·exact P2.elim
  ·exact P2.elim⟩⟩
end
section
variable {X:Cx} {E:XK} {e a c d:Expr} {es:List Expr} {f fa fb fc:FE} {fl:FL} {pos:Pos} {F G:FS}
def qD1:PV->PV->qB->Rs PV:=fun p q st=>match p,q with
 | .tup l,.tup m=>if l.length + m.length≤sizeLine then .ok (.tup (l++m)) st else .no
 |_,_ => .no
theorem qEt (ha:VE X E a fa) (hb:VE X E c fb):VE X E (.BinOp a .Add c pos) (qG qD1 fa fb):=Zs qEE (fun H b st p q u v Q S rp rq P=>by
 unfold qD1 at P
 split at P
 ·rename_i l m
  split at P
  ·rename_i hl
   have rp0:=rp
   have rq0:=rq
   unfold RV at rp rq
   obtain ⟨x,xs,rfl,h2,h3⟩:=rp
   obtain ⟨y,ys,rfl,h4,h5⟩:=rq
   have n1:=h3.length
   have n2:=h5.length
   refine ⟨x,y,xs,ys,rfl,rfl,h2.sq,h4.sq,by rw [← n1,← n2];exact hl,fun z => ?_,fun _ z => ?_,fun _ _ w hw=>PostE.layT P S (h3.append h5) hw⟩
   ·have:l=[]:=List.length_eq_zero_iff.mp (by rw [n1,z];rfl)
    subst this
    exact PostE.here P S rq0
   ·have:m=[]:=List.length_eq_zero_iff.mp (by rw [n2,z];rfl)
    subst this
    rw [A6] at P
    exact PostE.here P S rp0
  ·exact P.elim
 ·exact P.elim) ha hb
abbrev FO:=qh->qB->Rs (Option Int)
def PostO (K:W.Frag) (E:XK) (H:Hp) (b:Bz) (r:Rs (Option Int)) (Q:Option Int->Hp->Prop):Prop:=match r with
 | .ok k st => ∀ H' b',Ext H b H' b'->SR K H' b' st->Q k H'
 | .ex x st=>XP K E H b x st
 | .no=>False
def rdO (K:W.Frag) (E:XK) (f:FO):TO:=fun s H Q => ∃ b r st,SR K H b st∧REnv K H b r s∧PostO K E H b (f r st) Q
abbrev VO (X:Cx) (E:XK) (e:Option Expr) (f:FO):Prop:=PO X e (rdO X.K E f)
def wY:FO:=fun _ st => .ok none st
def Q2 (f:FE):FO:=fun r st=>(f r st).bind fun p s=>match p with
 | .int i => .ok (some i) s
 |_ => .no
theorem ZM:VO X E none wY:=fun pins s σ H Q I ⟨b,r,st,S,R,P⟩=>qEg pins s σ H Q I (P H b (Ext.refl _ _) S)
theorem ZH (h:VE X E e f):VO X E (some e) (Q2 f):=fun pins s σ H Q I ⟨b,r,st,S,R,P⟩=>qFV h pins s σ H Q I ⟨b,r,st,S,R,by
 unfold Q2 at P
 cases ef:f r st with
 |no=>rw [ef] at P;exact P.elim
 |ex x s1=>rw [ef] at P;exact P
 |ok p s1 =>
  rw [ef] at P
  intro v H1 b1 e1 S1 r1
  dsimp only [Rs.bind] at P
  split at P
  ·rename_i i
   unfold RV at r1
   exact ⟨i,r1,P H1 b1 e1 S1⟩
  ·exact P.elim⟩
def zY (l:List PV) (lo hi:Option Int):List PV:=(l.drop (HT.sIx l.length 0 lo)).take (HT.sIx l.length l.length hi - HT.sIx l.length 0 lo)
def Zy (f:FE) (lo hi:FO):FE:=fun r st=>(f r st).bind fun p s1=>(lo r s1).bind fun a s2=>(hi r s2).bind fun c s3=>match p with
 | .tup l => .ok (.tup (zY l a c)) s3
 |_ => .no
theorem PostO.bind {K:W.Frag} {E:XK} {H:Hp} {b:Bz} {r:Rs (Option Int)} {k:Option Int->qB->Rs PV} {Q:VK} {R:Option Int->Hp->Prop} (P:PostE K E H b (r.bind k) Q)
  (h:∀ p st H1 b1,Ext H b H1 b1->SR K H1 b1 st->PostE K E H1 b1 (k p st) Q->R p H1):PostO K E H b r R:=by
 cases r with
 |ok p st=>exact fun H1 b1 e S=>h p st H1 b1 e S (PostE.ext (show PostE K E H b (k p st) Q from P) e)
 |ex x st=>exact P
 |no=>exact P
theorem qAj {lo hi:Option Expr} {flo fhi:FO} {p2:Pos} (h:VE X E e f) (hl:VO X E lo flo) (hh:VO X E hi fhi):VE X E (.Subscript e (.Slice lo hi none p2) pos) (Zy f flo fhi) :=
 PE.imp (YA (sl_tup.or qD0) h hl hh) fun s H Q ⟨b,r,st,S,R,P⟩=>⟨b,r,st,S,R,PostE.bind P fun p s1 u H1 b1 e1 S1 r1 P1=>⟨b1,r,s1,S1,R.ext e1,PostO.bind P1 fun k s2 H2 b2 e2 S2 P2=>⟨b2,r,s2,S2,(R.ext e1).ext e2,PostO.bind P2 fun m s3 H3 b3 e3 S3 P3=>by
  split at P3
  ·rename_i l
   have r3:=RV.ext e3 _ (RV.ext e2 _ r1)
   have r0:=r3
   unfold RV at r3
   obtain ⟨x,xs,rfl,h2,h3⟩:=r3
   have hlen:=h3.length
   by_cases hw:HT.sIx xs.length 0 k=0∧HT.sIx xs.length xs.length m=xs.length
   ·refine .inr ⟨x,xs,rfl,h2.sq,hw.1,hw.2,?_⟩
    have:zY l k m=l:=by
     unfold zY
     rw [hlen,hw.1,hw.2,List.drop_zero,Nat.sub_zero,← hlen,List.take_length]
    rw [this] at P3
    exact PostE.here P3 S3 r0
   ·refine .inl ⟨x,xs,rfl,h2.sq,hw,fun z hz => ?_⟩
    have hc:RVs X.K H3 b3 (zY l k m) (YE xs k m):=by
     unfold zY YE
     rw [hlen]
     exact (h3.drop _).take _
    exact PostE.layT P3 S3 hc hz
  ·exact P3.elim⟩⟩⟩
def wO (fo f:FE):FS:=fun r st=>(fo r st).bindS fun o s1=>match o with
 | .ref n=>if lk s1 (.ref n)=true then (f r s1).bindS fun p s2=>match s2[n]? with
  |some (.l xs)=>if xs.length < sizeLine then .nx r (s2.set n (.l (xs++[p]))) else .no
  |_ => .no else .no
 |_ => .no
theorem Yr {fo:FE} {o:Expr} {apos cpos:Pos} (ho:VE X E o fo) (h:VE X E e f) (hs:swapsWith (.Call (.Attribute o "append" apos) [e] [] cpos) none pos.line X.env=pure false:=by rfl)
  (hbase:attributeBase o "append" X.env (eval o X.env)=eval o X.env:=by rfl)
  (hfew:((backTo cpos (starEach [e] X.env)).all (fun x => !x.1)&&(backToKw cpos (keywordEach [] X.env)).all (fun x=>x.1.isSome)&&decide ([e].length + ([]:List Keyword).length + (if ([]:List Keyword).isEmpty then 0 else 1) < 30))=true:=by rfl)
  (hline:(apos.endLine==cpos.line)=true:=by rfl) (h1:starEach [e] X.env=(false,eval e X.env)::starEach [] X.env:=by rfl) (hplain:(backTo cpos (starEach [] X.env)).any (·.1)=false:=by rfl) :
  VS X E (.Expr (.Call (.Attribute o "append" apos) [e] [] cpos) pos) (wO fo f) :=
 PS.imp (qFq (qBb PySem.F.plainAttrs_list PySem.F.slot_list_append PySem.F.type_list_append Yq ho (ZN h yM h1) hbase hfew hline h1 hplain) hs) fun D s H ⟨b,r,st,S,R,P⟩=>⟨b,r,st,S,R,PostE.bindS P fun o s1 u H1 b1 e1 S1 r1 P1=>by
  have key:∀ {n:Nat},o = .ref n->lk s1 (.ref n)=true->tyV X.K "list" u H1:=fun {n} ho hlk=>by
   subst ho
   unfold RV at r1
   obtain ⟨x,rfl,hx⟩:=r1
   have hl:n < s1.length:=by rw [← S1.len];exact (AV.mp hx).1
   obtain ⟨a',o',h3,h4,h5⟩:=S1.at_ n _ (AS hl)
   rw [hx] at h3;cases h3
   cases hq:s1[n] with
   |l xs=>rw [hq] at h5;obtain ⟨vs,e,_⟩:=h5;subst e;exact .inl ⟨rfl,vs,SqL.of h4⟩
   |z xs=>unfold lk at hlk;dsimp only at hlk;rw [AS hl,hq] at hlk;cases hlk
   |d xs=>unfold lk at hlk;dsimp only at hlk;rw [AS hl,hq] at hlk;cases hlk
  cases o with
  |ref n =>
   have P1:PostS X.K E H1 b1 (if lk s1 (.ref n)=true then ((f r s1).bindS fun p s2=>match s2[n]? with |some (.l xs)=>if xs.length < sizeLine then .nx r (s2.set n (.l (xs++[p]))) else .no |_ => .no) else .no) D:=P1
   by_cases hlk:lk s1 (.ref n)=true
   rotate_left
   ·rw [AH hlk] at P1;exact P1.elim
   rw [AC hlk] at P1
   refine ⟨key rfl hlk,b1,r,s1,S1,R.ext e1,?_⟩
   cases eb:f r s1 with
   |no=>rw [eb] at P1;exact P1.elim
   |ex x s2=>rw [eb] at P1;exact P1
   |ok p s2 =>
    rw [eb] at P1
    intro v H2 b2 e2 S2 r2
    have P2:PostS X.K E H1 b1 (match s2[n]? with |some (.l xs)=>if xs.length < sizeLine then .nx r (s2.set n (.l (xs++[p]))) else .no |_ => .no) D:=P1
    split at P2
    ·rename_i xs ex
     split at P2
     ·rename_i hl
      have r1':=RV.ext e2 _ r1
      unfold RV at r1'
      obtain ⟨x,rfl,hx⟩:=r1'
      obtain ⟨x',o',h1,h2,vs,rfl,h4⟩:=S2.at_ n _ ex
      rw [hx] at h1;cases h1
      refine ⟨x,vs,v,rfl,rfl,h2,by rw [← h4.length];exact hl,?_⟩
      have hm:x∈b2.b:=BX hx
      have ew:Ext H2 b2 (upd H2 x (.lst (vs++[v]))) b2:=Ext.wr hm S2.zb (qHW h2)
      exact P2 s _ b2 (e2.trans ew) (S2.wr (x := .l (xs++[p])) hx ⟨_,rfl,(RVs.ext ew xs h4).append (RVs.cons (RV.ext ew p r2) RVs.nil)⟩) (((R.ext e1).ext e2).ext ew)
     ·exact P2.elim
    ·exact P2.elim
  |_=>exact P1.elim⟩
def qIl (i:Int):Str:=toString i
def qAp (f:FE):FE:=fun r st=>(f r st).bind fun p s=>match p with
 | .int i=>if i.natAbs.log2 < 1920 then .ok (.str (qIl i)) s else .no
 |_ => .no
theorem qEV (h:VE X E e f):VE X E (.FormattedValue e (-1) none pos) (qAp f):=PE.imp (qG5 h) fun s H Q ⟨b,r,st,S,R,P⟩=>⟨b,r,st,S,R,PostE.bind P fun p s1 u H1 b1 e1 S1 r1 P1=>by
 split at P1
 ·rename_i i
  split at P1
  ·rename_i hi
   unfold RV at r1
   exact ⟨i,r1,hi,PostE.here P1 S1 (by unfold RV;rfl)⟩
  ·exact P1.elim
 ·exact P1.elim⟩
def vJ:List FE->Str->qh->qB->Rs PV
 |[],out,_,st=>if out.length≤sizeLine then .ok (.str out) st else .no
 |f::fs,out,r,st=>(f r st).bind fun p s=>match p with
  | .str y=>if (out++y).length≤sizeLine then vJ fs (out++y) r s else .no
  |_ => .no
def VJ (X:Cx) (E:XK) (es:List Expr) (fs:List FE):Prop:=PJ X es (fun out σ H Q => ∃ b r st,SR X.K H b st∧REnv X.K H b r σ∧PostE X.K E H b (vJ fs out r st) (fun v H' => ∃ x,v = .str x∧Q x H'))
theorem qGd:VJ X E [] []:=fun out pins s σ H Q I ⟨b,r,st,S,R,P⟩=>qHq out pins s σ H Q I (by
 unfold vJ at P
 split at P
 ·rename_i h
  obtain ⟨x,e,q⟩:=PostE.here P S (by unfold RV;rfl)
  cases e
  exact ⟨h,q⟩
 ·exact P.elim)
theorem Ys {fs:List FE} (h1:VE X E e f) (h2:VJ X E es fs):VJ X E (e::es) (f::fs):=fun out pins s σ H Q I ⟨b,r,st,S,R,P⟩=>qFg h1 h2 out pins s σ H Q I (by
 unfold vJ at P
 refine ⟨b,r,st,S,R,PostE.bind P fun p s1 u H1 b1 e1 S1 r1 P1 => ?_⟩
 split at P1
 ·rename_i y
  split at P1
  ·rename_i h
   unfold RV at r1
   exact ⟨y,r1,h,b1,r,s1,S1,R.ext e1,P1⟩
  ·exact P1.elim
 ·exact P1.elim)
theorem qE0 {e1 e2:Expr} {fs:List FE} (h:VJ X E (e1::e2::es) fs):VE X E (.JoinedStr (e1::e2::es) pos) (vJ fs Str.empty):=fun pins s σ H Q I ⟨b,r,st,S,R,P⟩=>qFr h pins s σ H Q I ⟨b,r,st,S,R,by
 cases e:vJ fs Str.empty r st with
 |ex x s1=>rw [e] at P;exact P
 |no=>rw [e] at P;exact P
 |ok p s1 =>
  rw [e] at P
  intro v H' b' e' S' r'
  have q:=P v H' b' e' S' r'
  have hp:∃ y,p = .str y:=by
   have key:∀ (fs:List FE) (out:Str) (st:qB) (p:PV) (s1:qB),vJ fs out r st = .ok p s1 -> ∃ y,p = .str y:=by
    intro fs
    induction fs with
    |nil=>intro out st p s1 h;unfold vJ at h;split at h;(cases h;exact ⟨_,rfl⟩);cases h
    |cons g gs ih =>
     intro out st p s1 h
     unfold vJ at h
     cases eg:g r st with
     |no=>rw [eg] at h;cases h
     |ex x s2=>rw [eg] at h;cases h
     |ok p2 s2 =>
      rw [eg] at h
      dsimp only [Rs.bind] at h
      split at h
      ·split at h
       ·exact ih _ _ _ _ h
       ·cases h
      ·cases h
   exact key _ _ _ _ _ e
  obtain ⟨y,rfl⟩:=hp
  unfold RV at r'
  exact ⟨y,r',by rw [r'] at q;exact q⟩⟩
theorem ql {P:Program} {w:World} (X:Cx):ZQ (CXF P w) X E0:=fun pins σ H s e s' I h=>by
 obtain ⟨_,_,_,_,_,_,_,_,_,_,_,_,q⟩:=h
 exact q.elim
def qi (i:Nat):FG:=fun p r=>match r[i]? with
 |some none=>some (r.set i (some p))
 |_=>none
theorem qBB {i:Nat} {p:PV} {r r':qh} (h:qi i p r=some r'):r[i]? = some none∧r'=r.set i (some p):=by
 unfold qi at h
 split at h
 ·rename_i e;cases h;exact ⟨e,rfl⟩
 ·cases h
theorem qw (i:Nat) {x:Str} (hN:X.N.Nodup) (hi:X.N[i]? = some x:=by rfl) (hx:Loc X.env.scope x:=by first |exact Or.inl rfl |exact Or.inr rfl) (hf:X.fn x=true∨X.env.scope.names.lookup x=some .local:=by first |exact .inl rfl |exact .inr rfl |assumption):VG X (.Name x pos) (qi i) :=
 PG.imp (QO i hN hi hx hf) fun v s H Q ⟨b,r,p,st,S,R,rv,r',e,q⟩=>⟨b,r,p,st,S,R,rv,r',by rw [(qBB e).2];rfl,q⟩
theorem Le.refl (r:qh):Le r r:=⟨rfl,fun _ _ h=>h⟩
theorem Le.trans {r r1 r2:qh} (h:Le r r1) (g:Le r1 r2):Le r r2:=⟨h.1.trans g.1,fun i p e=>g.2 i p (h.2 i p e)⟩
theorem qV (i:Nat):qA3 (qi i):=fun p r r' h=>by
 obtain ⟨h1,rfl⟩:=qBB h
 refine ⟨by simp,fun j q e => ?_⟩
 by_cases hj:i=j
 ·subst hj;rw [h1] at e;cases e
 ·rw [BW hj];exact e
def jN (g:FGs):Prop := ∀ p r r',g p r=some r'->Le r r'
theorem WF:jN w8:=fun p r r' h=>by
 unfold w8 at h
 split at h
 ·cases h;exact Le.refl _
 ·cases h
theorem qu {g:FG} {gs:FGs} (h1:qA3 g) (h2:jN gs):jN (qd g gs):=fun p r r' h=>by
 unfold qd at h
 split at h
 ·split at h
  ·rename_i r1 e;exact (h1 _ _ _ e).trans (h2 _ _ _ h)
  ·cases h
 ·cases h
theorem WB {n:Nat} {gs:FGs} (h1:jN gs):qA3 (wu n gs):=fun p r r' h=>by
 unfold wu at h
 split at h
 ·split at h
  ·exact h1 _ _ _ h
  ·cases h
 ·cases h
theorem max_at {ns:List Int} {m:Int} {i:Nat} (hm:ns.max? = some m) (hi:i≤ns.length - 1) (h:∀ j,j≤ns.length - 1->ns.getD j 0≤ns.getD i 0):ns.getD i 0=m:=by
 have hne:ns≠[]:=by intro z;subst z;cases hm
 have hl:0 < ns.length:=CM.mpr hne
 obtain ⟨h1,h2⟩:=List.max?_eq_some_iff.mp hm
 have hil:i < ns.length:=by omega
 have e1:ns.getD i 0=ns[i]:=by simp [Af,hil]
 have a1:ns.getD i 0≤m:=by rw [e1];exact h2 _ (Bq hil)
 obtain ⟨j,hj,rfl⟩:=CB.mp h1
 have:=h j (by omega)
 have e2:ns.getD j 0=ns[j]:=by simp [Af,hj]
 omega
end
structure DefG (P:Program) (w:World) (K:W.Frag) (mg:Str->Option Value) (base:Heap) (k:Nat) (x:Str) (fa:Addr) (n:Nat) (g:List PV->qB->Rs PV):Prop where
 ok:∃ fd ps,ps.length=n∧FnOk P w K mg base (CXF P w) k fa fd ps (spG K ps.length g)∧L2.Binds K fd ps [] ∧ ∀ l st,g l st ≠ .no->l.length=ps.length
 mg:mg x=some (.ref fa)
 kp:W.keepIn K (.ref fa)=true
section
variable {X:Cx} {E:XK} {e a c d:Expr} {es:List Expr} {f fa fb fc:FE} {fl:FL} {pos:Pos} {F G:FS}
theorem DefG.call {k n:Nat} {x:Str} {fa:Addr} {g:List PV->qB->Rs PV} (D:DefG X.prog X.w X.K X.mg X.base k x fa n g) (hr:Room k X.A) (hx:ZQ (CXF X.prog X.w) X E) (hg:Gl X x:=by rfl) (hdb:(x==("__debug__":Str))=false:=by decide):qGm X E x g:=by
 obtain ⟨fd,ps,_,F,B,hl⟩:=D.ok
 exact qJr (n:=n) F hr hg D.mg D.kp B hx hl hdb
end
def QB (n N:Nat) (B:FS):List PV->qB->Rs PV:=fun l st=>if l.length=n then qFi (B (QA N l) st) else .no
theorem qZ {n N:Nat} {B:FS} {l:List PV} {st:qB} (h:QB n N B l st ≠ .no):l.length=n:=by
 unfold QB at h
 split at h
 ·assumption
 ·exact absurd rfl h
section
variable {X:Cx} {E:XK} {e a c d:Expr} {f fa fb fc:FE} {pos:Pos}
def zi (f:FE):FE:=fun r st=>(f r st).bind fun p s=>match p with
 | .int i => .ok (.int (-i)) s
 |_ => .no
theorem ZR (h:VE X E e f):VE X E (.UnaryOp .USub e pos) (zi f):=PE.imp (qId qGz h) fun s H Q ⟨b,r,st,S,R,P⟩=>⟨b,r,st,S,R,PostE.bind P fun p s1 u H1 b1 e1 S1 r1 P1=>by
 split at P1
 ·rename_i i
  unfold RV at r1
  exact ⟨i,r1,PostE.here P1 S1 QR⟩
 ·exact P1.elim⟩
end
theorem qW {n N m:Nat} {B:FS} {l:List PV} {s0:qB} (hl:l.length=n):Refn m (qFi (B (QA N l) s0)) (QB n N B l s0):=by
 unfold QB;rw [AC hl];exact Refn.refl
section
variable {P:Program} {w:World} {K:W.Frag} {mg:Str->Option Value} {base:Heap}
theorem Qn {x:Str} {st:Stmt} {fa:Addr} {fd:FuncData} {N ps:List Str} {k:Nat} {B:FS} {g:List PV->qB->Rs PV} (F:Fun K x x st fa fd) (S:FnScope N ps (qH st)) (b:L2.Binds K fd ps []) (m:mg x=some (.ref fa)) (hlen:∀ l s,g l s ≠ .no->l.length=ps.length)
  (body:∀ (cdv:Value) (A:Around) (outer:List Env) (s:Shared) (H:Hp) (E:XK),Room k (A.deeper (envOfC x (qH st) s.heap.objs.size fa cdv))->(0 < k->A.handled=none)->VSs (Wg (CXF P w) P w K mg base N x (qH st) fa cdv A outer s H E) E (qb st) B)
  (hg:∀ l s0,l.length=ps.length->g l s0 ≠ .no->Refn s0.length (qFi (B (QA N.length l) s0)) (g l s0)):DefG P w K mg base (k + 1) x fa ps.length g :=
 ⟨⟨fd,ps,rfl,okV F S fun cdv A outer s H E hr hc=>⟨B,body cdv A outer s H E hr hc,hg⟩,b,hlen⟩,m,F.kp⟩
end
section
variable {X:Cx} {E:XK} {es:List Expr} {f:FE} {g:FA} {pos:Pos}
theorem WT {c:Const} {j:Nat} (h:VE X E (.Constant c j pos) f) (h2:VA X E es g):VA X E (.Constant c j pos::es) (qA f g):=Qa h h2 rfl
theorem qX {x:Str} (h:VE X E (.Name x pos) f) (h2:VA X E es g):VA X E (.Name x pos::es) (qA f g):=Qa h h2 rfl
theorem wk {a b c} (h:VE X E (.Call a b c pos) f) (h2:VA X E es g):VA X E (.Call a b c pos::es) (qA f g):=Qa h h2 rfl
theorem WS {a b c} (h:VE X E (.BinOp a b c pos) f) (h2:VA X E es g):VA X E (.BinOp a b c pos::es) (qA f g):=Qa h h2 rfl
theorem qIF {a b} (h:VE X E (.Tuple a b pos) f) (h2:VA X E es g):VA X E (.Tuple a b pos::es) (qA f g):=Qa h h2 rfl
theorem qJ0 {a} (h:VE X E (.List a pos) f) (h2:VA X E es g):VA X E (.List a pos::es) (qA f g):=Qa h h2 rfl
theorem qAP {a b} (h:VE X E (.Subscript a b pos) f) (h2:VA X E es g):VA X E (.Subscript a b pos::es) (qA f g):=Qa h h2 rfl
theorem qJJ {a b} (h:VE X E (.UnaryOp a b pos) f) (h2:VA X E es g):VA X E (.UnaryOp a b pos::es) (qA f g):=Qa h h2 rfl
theorem qJe {a b c} (h:VE X E (.Compare a b c pos) f) (h2:VA X E es g):VA X E (.Compare a b c pos::es) (qA f g):=Qa h h2 rfl
theorem jP {a b c} (h:VE X E (.ListComp a b c pos) f) (h2:VA X E es g):VA X E (.ListComp a b c pos::es) (qA f g):=Qa h h2 rfl
theorem qJz {a} (h:VE X E (.JoinedStr a pos) f) (h2:VA X E es g):VA X E (.JoinedStr a pos::es) (qA f g):=Qa h h2 rfl
theorem qJx {a b c} (h:VE X E (.IfExp a b c pos) f) (h2:VA X E es g):VA X E (.IfExp a b c pos::es) (qA f g):=Qa h h2 rfl
theorem qJ1 {a b} (h:VE X E (.BoolOp a b pos) f) (h2:VA X E es g):VA X E (.BoolOp a b pos::es) (qA f g):=Qa h h2 rfl
end
section
variable {X:Cx} {E:XK} {e a c d:Expr} {es:List Expr} {f fa fb fc:FE} {pos:Pos}
theorem Qm {x s:Str} {t:Tok} {pos:Pos} (hg:Gl X x) (hm:X.mg x=some (.str s t)) (hd:(x==("__debug__":Str))=false:=by decide):VE X E (.Name x pos) (vC (.str s)) :=
 qCY (qBM (v := .str s) hg hm ⟨t,rfl⟩ hd) fun _ _=>by unfold RV;rfl
end
section
variable {X:Cx} {E:XK} {e a c d:Expr} {es:List Expr} {f fa fb fc:FE} {fl:FL} {pos:Pos} {F G:FS}
theorem JZ:wz X (.builtin "divmod") (fun xs H Q => ∃ i j:Int,xs=[.int i,.int j]∧0 < j∧j < 1073741824 ∧ ∀ p,H p=none->Q (.ref p) (upd H p (.tup [.int (i / j),.int (i % j)]))):=by
 intro pins s σ H xs us Q I r h
 obtain ⟨i,j,rfl,h1,h2,q⟩:=h
 obtain ⟨u,w',rfl,⟨t,rfl⟩,⟨t',rfl⟩⟩:=qBI r
 refine divmod_int (by omega) ?_ (.inl (PyProof.noPylong_small (by omega)))
 rw [Int.fdiv_eq_ediv_of_nonneg i (by omega),Int.fmod_eq_emod_of_nonneg i (by omega)]
 refine ⟨.ref s.heap.objs.size,_,I.laid (t':=s.toks + 1 + 1) (o := .tup [.int (i / j),.int (i % j)]) (fun b ob q=>AF _ q) (AI _) ?_,rfl,q _ (I.hok.fresh (AI _))⟩
 exact ⟨show 2≤sizeLine by decide,_,.cons ⟨_,rfl⟩ (.cons ⟨_,rfl⟩ .nil),IsTup.new _ _⟩
def ZF:List PV->qB->Rs PV:=fun ps st=>match ps with
 |[.int i,.int j]=>if 0 < j∧j < 1073741824 then .ok (.tup [.int (i / j),.int (i % j)]) st else .no
 |_ => .no
theorem qBn {ta:FA} {p:Pos} (ha:VA X E (e::es) ta) (hm:X.mg "divmod" = none) (hg:Gl X "divmod" := by rfl) (he:starEach (e::es) X.env=(false,eval e X.env)::starEach es X.env:=by rfl) (hpl:(backTo pos (starEach es X.env)).any (·.1)=false:=by rfl):VE X E (.Call (.Name "divmod" p) (e::es) [] pos) (qE ZF ta) :=
 wN JZ (fun H b st ps vs Q S r P=>by
  unfold ZF at P
  split at P
  ·rename_i i j
   split at P
   ·rename_i hc
    obtain ⟨v,w,rfl,r1,r2⟩:=RVs.two r
    unfold RV at r1 r2;subst r1;subst r2
    exact ⟨i,j,rfl,hc.1,hc.2,fun p hp=>PostE.layT P S (RVs.cons QR (RVs.cons QR RVs.nil)) hp⟩
   ·exact P.elim
  ·exact P.elim) hg hm PyProof.Rows.boot_divmod ha (he:=he) (hpl:=hpl)
end
section
variable {X:Cx} {E:XK} {es:List Expr} {f:FE} {g:FA} {pos:Pos}
theorem qJw {a b} (h:VE X E (.Dict a b pos) f) (h2:VA X E es g):VA X E (.Dict a b pos::es) (qA f g):=Qa h h2 rfl
end
section
variable {X:Cx} {E:XK} {e a c d:Expr} {es:List Expr} {f fa fb fc:FE} {pos:Pos}
def CMulB (i j:Int):Prop:=Builtin.Int.intBits i + Builtin.Int.intBits j≤bitsLine
theorem CMulB.ok {i j:Int} (h:CMulB i j):IntMulOk i j:=by
 unfold IntMulOk Builtin.Int.intTooBig
 have h':¬ (((Builtin.Int.intBits i:Int) + (Builtin.Int.intBits j:Int)) > (bitsLine:Int)):=by unfold CMulB at h;omega
 rw [AO h']
 simp
theorem qE4:OpR X (binaryOp .Mult) (rI CMulB fun i j => .int (i * j)):=opI fun _ _ _ _ _ _ _ hc q=>mul_int q hc.ok
def qBV:=gI fun i j=>if Builtin.Int.intBits i + Builtin.Int.intBits j≤bitsLine then some (.int (i * j)) else none
theorem qE5 (ha:VE X E a fa) (hb:VE X E c fb):VE X E (.BinOp a .Mult c pos) (qG qBV fa fb):=Zs qE4 (qE7 fun i j z e=>by
 split at e
 ·rename_i hc;cases e;exact ⟨hc,fun _ _=>QR⟩
 ·cases e) ha hb
theorem qHT {i j:Int} {st:qB} (h:Builtin.Int.intBits i + Builtin.Int.intBits j≤bitsLine):qBV (.int i) (.int j) st = .ok (.int (i * j)) st:=by
 unfold qBV gI;dsimp only;rw [AC h]
theorem qEp {x:Int} {n:Nat} (h:x.natAbs < 2 ^ n):Builtin.Int.intBits x≤n:=by
 unfold Builtin.Int.intBits
 by_cases h0:x=0
 ·subst h0;exact BG _
 ·rw [AH (by simpa using h0)]
  have:x.natAbs≠0:=by omega
  exact (Nat.log2_lt this).mpr h
theorem qFs {x:Int} {n:Nat} (h:Builtin.Int.intBits x≤n):x.natAbs < 2 ^ n:=by
 unfold Builtin.Int.intBits at h
 by_cases h0:x=0
 ·subst h0;exact Nat.two_pow_pos n
 ·rw [AH (by simpa using h0)] at h
  have:x.natAbs≠0:=by omega
  exact (Nat.log2_lt this).mp (by omega)
end
end EV
end
section
namespace Att
open PySem PySem.W PySem.Calls PyProof.Rows
theorem yd:∀ {ns:List Int} {n:Int},n∈ns->WData.weight (.int n)≤WData.weightAll (ns.map WData.int)
 |m::ns,n,h=>by
  show _≤WData.weight (.int m) + 1 + WData.weightAll (ns.map WData.int)
  rcases AL.mp h with rfl |h
  ·omega
  ·have:=yd h;omega
theorem ja {ns:List Int} (h:WData.layableAll [WData.list (ns.map WData.int)]=true):∀ n∈ns,Builtin.Int.intBits n≤2 ^ 20:=by
 intro n hn
 unfold WData.layableAll at h
 have h1:WData.layable (WData.list (ns.map WData.int))=true:=by simpa using h
 unfold WData.layable at h1
 rw [Am] at h1
 have h2:WData.weight (WData.list (ns.map WData.int))≤2 ^ 20:=BI h1.2
 have h3:WData.weightAll (ns.map WData.int)≤2 ^ 20:=h2
 exact Aa (yd hn) h3
theorem attach_callB {l:OpenLaw} {n:Nat} {q:Program} {loose:List Str} {XP:(Str->Option Value)->Heap->Prop} {YP:World->Heap->Prop} {d:DefRec}
  (hn:l.most=some n) (hdf:d.params.defaults=[])
  (call:∀ (w:World) (s₀ s₁:Shared) (mg mb:Str->Option Value) (fa:Addr) (o:Obj) (pm cd doc:Value) (a:Addr) (vs:List Value) (ns:List Int),
   Ground q loose [] XP w s₀ mg mb s₁.heap->YP w s₁.heap ->
   s₁.heap.get? fa=some o->o.data = .func (docDef d.name d.params d.body d.scope pm cd doc)->s₁.heap.CodeRec cd d.name->mg d.name=some (.ref fa) ->
   s₁.heap.get? a=some { cls := .type "list",data := .seq vs.toArray }->IntsAre vs ns->ns.length≤n->(∀ k∈ns,Builtin.Int.intBits k≤2 ^ 20)->s₁.gens = #[] ->
   codeAny (model l.prog w) callerA (.call (.ref fa) ⟨[.ref a],[]⟩) (fun r s'=>r = .ok (.ret (.bool true))∧OldK s₁.heap s'.heap∧s'.os=s₁.os∧AllBare s'.gens) s₁) :
  WalkO q loose XP YP l.row.toRowW d [] (fun f vs=>PySem.call f vs):=by
 intro w s₀ s₁ mg mb G Y fa o pm cd doc dV kV ho hd hcd hD hmg hg args vals as hpre hlay hrd hwl hlo
 obtain rfl:dV = .none:=Dflts.none hD hdf
 obtain rfl:kV = .none:=Dflts.noKw hD
 obtain ⟨a,vs,ns,rfl,rfl,hobj,hints,hlen⟩:=qCZ hn hpre hwl
 refine enter_call (codeAny_mono (call w s₀ s₁ mg mb fa o pm cd doc a vs ns G Y ho (fd_plain hd) hcd hmg hobj hints hlen (ja hlay) hg) fun r s' hq => ?_)
 obtain ⟨rfl,h2,h3,h4⟩:=hq
 exact ⟨.inl ⟨.bool true,.bool true,[],rfl,fun _=>rfl,.bool true,qB8 l _,fun _=>⟨List.Pairwise.nil,fun _ hm=>(nomatch hm)⟩⟩,h2,h3,h4⟩
end Att
end
section
namespace EX
open PySem PySem.Spec PyProof.Rows L2
section
variable {X:Cx} {pins:List (Addr×Obj)} {σ:L2.St} {H:Hp} {s:Shared}
theorem qB5:wz X (.builtin "max") (fun xs H Q => ∃ (p:Addr) (ns:List Int) (m:Int),xs=[.ref p]∧SqL X.K H p (ns.map V.int)∧ns.max? = some m∧Q (.int m) H):=by
 intro pins s σ H xs us Q I r h
 obtain ⟨p,ns,m,rfl,hq,hm,q⟩:=h
 obtain ⟨u,rfl,rx⟩:=ZA r
 cases rx
 obtain ⟨its,r',pl,hz⟩:=I.list hq
 have hl:=r'.length
 rw [AB] at hl
 have hne:ns≠[]:=by intro z;subst z;cases hm
 have hpos:0 < ns.length:=CM.mpr hne
 have hsz:its.toArray.size=ns.length:=by rw [AN,← hl]
 refine call_max_walk (Zd I pl fun W st fp k=>⟨_,_,_,_,_,_,_,rfl,W,st,fp,by rw [hsz];exact hpos,CmpOf.ints_gt (fun i=>ns.getD i 0) fun i v hv=>yk r' (by simpa using hv),fun v h' tk hv hk => ?_⟩)
 rw [hsz] at hv
 rw [List.getElem?_toArray] at hv
 obtain ⟨t,rfl⟩:=yk r' hv
 obtain ⟨g1,g2⟩:=argBest_gt (fun i=>ns.getD i 0) (ns.length - 1)
 rw [EV.max_at hm g1 g2]
 exact ⟨.int m,H,I.kept (t':=tk) (k h' hk),⟨t,rfl⟩,q⟩
end
end EX
namespace EV
open PySem PySem.Spec PyProof.Rows L2 EX
section
variable {X:Cx} {E:XK} {e a c d:Expr} {es:List Expr} {f fa fb fc:FE} {fl:FL} {pos:Pos} {F G:FS}
def qJu:List PV->qB->Rs PV:=fun ps st=>match ps with
 |[.tup l]=>match QC yG l with
  |some ns => .ok (.int ns.sum) st
  |none => .no
 |_ => .no
def zG:List PV->qB->Rs PV:=fun ps st=>match ps with
 |[p]=>match asL st p with
  |some l=>match QC yG l with
   |some ns=>match ns.max? with
    |some m => .ok (.int m) st
    |none => .no
   |none => .no
  |none => .no
 |_ => .no
theorem qBR {ta:FA} {p:Pos} (ha:VA X E (e::es) ta) (hm:X.mg "max" = none) (hg:Gl X "max" := by rfl) (he:starEach (e::es) X.env=(false,eval e X.env)::starEach es X.env:=by rfl) (hpl:(backTo pos (starEach es X.env)).any (·.1)=false:=by rfl):VE X E (.Call (.Name "max" p) (e::es) [] pos) (qE zG ta) :=
 wN qB5 (fun H b st ps vs Q S r P=>by
  unfold zG at P
  split at P
  ·rename_i p'
   split at P
   ·rename_i l el
    split at P
    ·rename_i ns en
     split at P
     ·rename_i m em
      obtain ⟨v,rfl,r1⟩:=RVs.one r
      obtain ⟨x,xs,rfl,h2,h3⟩:=Q3 S r1 el
      rw [Z3 h3 en] at h2
      exact ⟨x,ns,m,rfl,h2,em,PostE.here P S QR⟩
     ·exact P.elim
    ·exact P.elim
   ·exact P.elim
  ·exact P.elim) hg hm Boot.«max» ha (he:=he) (hpl:=hpl)
end
end EV
end
section
namespace HT
open PySem PySem.Spec PyProof.Rows L2
end HT
namespace L2
open PySem PySem.Spec PyProof.Rows
end L2
end
section
namespace EV
open PySem PySem.Spec PyProof.Rows L2
theorem qFe {X:Cx} {E:XK} (i:Nat) {x:Str} {p' pos2:Pos} {elt:Expr} {c:Comprehension} {cs:List Comprehension} {scope:Scope} {pos:Pos} {capN locN:List Str} {caps:List Nat} {fi:FI} {g:FG} {ts:List FT} {gs:List GenF} {f:FE} (hN:X.N.Nodup) (hi':X.N[i]? = some x) (hx:Loc X.env.scope x) (hf:X.fn x=true∨X.env.scope.names.lookup x=some .local) (hsw:swapsWith (.ListComp elt (c::cs) scope pos) (some (.Name x p')) pos2.line X.env=pure true) (hcs:CSc X scope capN locN caps)
  (hi:VI X E c.target c.iter fi) (sub:∀ s H fp pn,VE (cCx X scope (capN++locN) s H fp pn) E0 elt f∧GOk (cCx X scope (capN++locN) s H fp pn) c ⟨fi,g,ts⟩∧GsOk (cCx X scope (capN++locN) s H fp pn) cs gs)
  (hs:∀ x,foldedSetIterable c.iter X.env x=pure x):PS X (.Assign [.Name x p'] (.ListComp elt (c::cs) scope pos) pos2) (qHs (rdN X.K E (qp caps locN.length fi g ts gs f)) (qC0 i)):=by
 intro pins s σ H D0 I hq
 obtain ⟨b,r,st,S,RE,P⟩:=hq
 have hfree:∀ x∈scope.names,x.2 = .free -> ∃ c,X.env.cells.lookup x.1=some c:=fun x hx hk=>I.ok.has x.1 (hcs.fr x hx hk)
 obtain ⟨c1,c2,c3,c4⟩:=c
 have hasy:c4=0:=(sub s H [] []).2.1.asy
 subst hasy
 rw [exec_Assign_Name_used x p' _ pos2 hsw]
 refine AA (CF ?_)
 refine AA (BP (Q:=fun _ s' => ∃ v H',L2.Inv X pins (σ.set i (some v)) H' s'∧D0.nx (σ.set i (some v)) H') ?_ (fun _ s' ⟨v,H',I',q'⟩=>AE ⟨_,H',I',q'⟩) fun _ _ z=>z)
 rw [arm_evalThenUse_ListComp]
 refine AA (BP (Q:=fun _ s' => ∃ v H',L2.Inv X pins (σ.set i (some v)) H' s'∧D0.nx (σ.set i (some v)) H') ?_ (fun _ s' q'=>AE q') fun _ _ z=>z)
 refine wpAny_comprehension_free (e := .ListComp elt (⟨c1,c2,c3,0⟩::cs) scope pos) (use:=some (assign (.Name x p') X.env)) rfl hs (yj hfree) hcs.kind (fun x hx hl=>WI hcs.nd (by rw [← hl];exact hx)) ?_
 show wpAny _ _ (eval c2 X.env) _ _ s
 unfold qp at P
 cases ef:fi r st with
 |no=>rw [ef] at P;exact P.elim
 |ex xx s1 =>
  rw [ef] at P
  refine thn (hi pins s σ H (fun _ _=>False) I ⟨b,r,st,S,RE,by rw [ef];exact P⟩) fun v s2 h2=>thn h2 fun itv s3 h3 => ?_
  obtain ⟨_,_,_,_,_,_,_,_,_,_,z⟩:=h3
  exact z.elim
 |ok w s1 =>
  rw [ef] at P
  refine thn (hi pins s σ H (fun J H' => ∃ b',Ext H b H' b'∧SR X.K H' b' s1∧Zz X.K H' b' J w) I ⟨b,r,st,S,RE,by rw [ef];exact fun J H' b' e' S' i'=>⟨b',e',S',i'⟩⟩) fun v s2 h2=>thn h2 fun itv s3 h3 => ?_
  obtain ⟨it,fp,tn,J,H2,rfl,I2,T,t2,f2,b2,e2,S2,i2⟩:=h3
  have P:PostN X.K E H b (match qf w.G (QH ⟨fi,g,ts⟩ (QW gs f) (WA caps locN.length r)) w.l s1 with | .ok l s'=>if l.length≤sizeLine then .ok l s' else .no |_ => .no) (fun v H'=>D0.nx (σ.set i (some v)) H'):=P
  cases ev:qf w.G (QH ⟨fi,g,ts⟩ (QW gs f) (WA caps locN.length r)) w.l s1 with
  |no=>rw [ev] at P;exact P.elim
  |ex xx s4=>rw [ev] at P;exact P.elim
  |ok l st' =>
   rw [ev] at P
   have P:PostN X.K E H b (if l.length≤sizeLine then .ok l st' else .no) (fun v H'=>D0.nx (σ.set i (some v)) H'):=P
   by_cases hl:l.length≤sizeLine
   ·rw [AC hl] at P
    have hfr:H2 s3.heap.objs.size=none:=I2.hok.fresh (AI _)
    refine By ?_
    generalize hs3:({ s3 with heap:=s3.heap.push { cls := .type "list",data := .seq ([]:List Value).toArray } }:Shared)=s3'
    have I3:L2.Inv X pins σ (upd H2 s3.heap.objs.size (.lst [])) s3':=by
     rw [← hs3]
     exact I2.laid (t':=s3.toks) (fun a u e=>AF _ e) (AI _) (show ObjOk X.prog X.w _ _ _ (.lst []) from ⟨BG _,[],0,.nil,AT _ rfl⟩)
    have k3:∀ a o,s3.heap.get? a=some o->s3'.heap.get? a=some o:=fun a o e=>by rw [← hs3];exact AF _ e
    have hlt:∀ a∈fp,a < s3.heap.objs.size:=fun a ha=>by
     obtain ⟨o,e,_⟩:=T.obj _ _ t2 a ha
     exact AJ e
    have f3:∀ a∈fp,ze X pins (upd H2 s3.heap.objs.size (.lst [])) a:=fun a ha=>⟨by rw [qP (AU (hlt a ha))];exact (f2 a ha).1,(f2 a ha).2⟩
    have hlt3:∀ a∈fp,a < s3'.heap.objs.size:=fun a ha=>by
     obtain ⟨o,e,_⟩:=T.obj _ _ t2 a ha
     exact AJ (k3 a o e)
    generalize hD:s3.heap.objs.size=D at I3 f3 hfr
    refine JA ?_
    have J0:=yX hcs I3 f3 hlt3 rfl
    obtain ⟨he,hg,hgs⟩:=sub s3' (upd H2 D (.lst [])) fp (X.pn++pins)
    have k4:∀ a o,s3'.heap.get? a=some o->(pushCells (s3'.heap.push { cls := .type "dict",data := .dict #[] }) scope.names).get? a=some o:=fun a o e=>CN _ _ _ _ (AF _ e)
    have hDz:D ∉ b2.z:=(S2.new_notin hfr).2
    have loop:=YS (X:=cCx X scope (capN++locN) s3' (upd H2 D (.lst [])) fp (X.pn++pins)) (fun _ _ z=>z) (gens:=⟨c1,c2,c3,0⟩::cs) (scope:=scope) (pos:=pos) (D:=D) he gs cs 0 ⟨c1,c2,c3,0⟩ ⟨fi,g,ts⟩ rfl hg hgs [] _ _ _ ⟨b2.b,D::b2.z⟩ (WA caps locN.length r) s1 st' it fp tn J w [] l
     (compPost (model X.prog X.w) X.A X.xe (some (assign (.Name x p') X.env)) (fun _ s' => ∃ v H',L2.Inv X pins (σ.set i (some v)) H' s'∧D0.nx (σ.set i (some v)) H') (.ref D) s3'.heap.objs.size) J0 (SR.hide S2 hfr) (JF ((RE.ext e2).wext (WE.hide hfr))) AD QL T (T.keep _ _ _ t2 fun a ha o e=>k4 a o (k3 a o e))
     (fun a ha=>⟨(f3 a ha).1,(J0.ok.exf a ha).1,J0.ok.exfs a ha,.inl ha,(J0.ok.exf a ha).2,fun p hp=>(f3 a ha).2.2.2.2.2 p (by simpa [cCx] using hp)⟩) (YX i2 hfr) ev (by simpa using hl)
     (fun s' σ' H' b' lV I' e' S' R' hD' r'=>by
      obtain ⟨m,hn,_⟩:=I'.loc
      have hn:s'.heap.Ns s3'.heap.objs.size m:=hn
      have fin:L2.Inv X pins σ H' s':=JB I3 f3 I' ⟨rfl,fun _ _=>rfl⟩
      have hC:H' s3'.heap.objs.size=none:=I'.free
      have fpC:ze X pins H' s3'.heap.objs.size:=I3.fpOk (AI _) hC
      obtain ⟨oC,esC,epC,hoC,hdC,hkC⟩:=id hn
      have finp:=fin.pinned (fp:=[s3'.heap.objs.size]) (fun b hb=>by rw [AY.mp hb];exact fpC) (fun b hb=>by rw [AY.mp hb];exact ⟨oC,hoC,fun v z=>by rw [hdC] at z;cases z⟩)
      have hz':b'.z=D::b2.z:=e'.same
      show wpAny (model X.prog X.w) X.A (assign (.Name x p') X.env (.ref D)) _ _ s'
      refine wpAny_assign_Name ?_
      refine zK finp hN hi' hx (v := .ref D) rfl (fun s'' I'' => ?_) hf
      have hpin:s''.heap.get? s3'.heap.objs.size=some oC:=by
       have hm:(s3'.heap.objs.size,oC)∈X.pn++(pins++zc [s3'.heap.objs.size] s'.heap):=by
        unfold zc
        simp [hoC]
       exact (I''.pin _ hm).1
      refine ⟨m,⟨oC,esC,epC,hpin,hdC,hkC⟩,fun h'' sb=>⟨.ref D,H',(I''.unpinned).turned (t':=s''.toks) (fun b o hb e=>sb.extBut b o hb e) fpC.1 fpC.2.1 fpC.2.2.2.1 fpC.2.2.2.2.1 (fun p hp=>fpC.2.2.2.2.2 p hp),?_⟩⟩
      have ex:Ext H2 b2 H' ⟨b'.b,b2.z⟩:=by
       refine ⟨⟨?_,⟨[],rfl,by simp⟩,fun a o ha ho => ?_,fun a o ha => ?_⟩,rfl,fun a o hz ha => ?_,fun a o u ha=>e'.fz a o u (qJ ha hfr) (by rw [qP (qJ ha hfr)];exact ha)⟩
       ·obtain ⟨n,hb,hh⟩:=e'.more
        exact ⟨n,hb,fun a ha=>by
         have:=hh a ha
         by_cases q:a=D
         ·rw [q];exact hfr
         ·rwa [qP q] at this⟩
       ·have hne:a≠D:=qJ ha hfr
        exact e'.keep a o (by rw [qP hne];exact ha) ⟨ho.1,fun z=>(AL.mp z).elim hne ho.2⟩
       ·have hne:a≠D:=qJ ha hfr
        exact e'.dom a o (by rw [qP hne];exact ha)
       ·have hne:a≠D:=qJ ha hfr
        exact e'.hid a o (AG _ hz) hne (by rw [qP hne];exact ha)
      have hb':(⟨b'.b,D::b2.z⟩:Bz)=b':=by rw [← hz']
      refine P D lV H' ⟨b'.b,b2.z⟩ (e2.trans ex) (e2.none_of hfr) (by simpa using hD') hDz ?_ ?_
      ·show SR X.K H' ⟨b'.b,D::b2.z⟩ st'
       rw [hb'];exact S'
      ·show RVs X.K H' ⟨b'.b,D::b2.z⟩ l lV
       rw [hb'];exact r')
    exact Wu rfl rfl loop (T.self X.A 0 _ _ _ (T.keep _ _ _ t2 fun a ha o e=>k4 a o (k3 a o e)) loop)
   ·rw [AH hl] at P;exact P.elim
end EV
namespace EV
open PySem PySem.Spec PyProof.Rows L2
section
variable {X:Cx} {E:XK} {x:Str} {p' pos2:Pos} {elt:Expr} {c:Comprehension} {cs:List Comprehension} {scope:Scope} {pos:Pos} {capN locN:List Str} {caps:List Nat} {fi:FI} {g:FG} {ts:List FT} {gs:List GenF} {f:FE}
theorem qBT (i:Nat) (hN:X.N.Nodup) (hcs:CSc X scope capN locN caps)
  (hi:VI X E c.target c.iter fi) (sub:∀ s H fp pn,VE (cCx X scope (capN++locN) s H fp pn) E0 elt f∧GOk (cCx X scope (capN++locN) s H fp pn) c ⟨fi,g,ts⟩∧GsOk (cCx X scope (capN++locN) s H fp pn) cs gs)
  (hi':X.N[i]? = some x:=by rfl) (hx:Loc X.env.scope x:=by first |exact Or.inl rfl |exact Or.inr rfl) (hf:X.fn x=true∨X.env.scope.names.lookup x=some .local:=by first |exact .inl rfl |exact .inr rfl |assumption)
  (hsw:swapsWith (.ListComp elt (c::cs) scope pos) (some (.Name x p')) pos2.line X.env=pure true:=by rfl) (hs:∀ x,foldedSetIterable c.iter X.env x=pure x:=by intro _;rfl) :
  VS X E (.Assign [.Name x p'] (.ListComp elt (c::cs) scope pos) pos2) (qc i (vFz (qp caps locN.length fi g ts gs f))) :=
 PS.imp (qFe i hN hi' hx hf hsw hcs hi sub hs) fun D s H ⟨b,r,st,S,R,P⟩=>⟨b,r,st,S,R,PostN.of (PostE.bindS P fun p s1 u H1 b1 e1 S1 r1 P1=>P1 _ H1 b1 (Ext.refl _ _) S1 ((R.ext e1).set r1 i))⟩
end
end EV
end
section
namespace EX
open PySem PySem.Spec PyProof.Rows L2
def Src (b:Bool) (i l:Addr) (xs:Array Value) (k:Nat) (h:Heap):Prop:=match b with
 |true=>h.IsTupleIter i l k∧h.IsTuple l xs
 |false=>h.IsListIter i l k∧h.IsList l xs
theorem Src.keep {b:Bool} {i l:Addr} {xs:Array Value} {k:Nat} {h h':Heap} (S:Src b i l xs k h) (e1:∀ o,h.get? i=some o->h'.get? i=some o) (e2:∀ o,h.get? l=some o->h'.get? l=some o):Src b i l xs k h':=by
 cases b
 ·exact ⟨S.1.at e1,S.2.at e2⟩
 ·exact ⟨S.1.at e1,S.2.at e2⟩
theorem Src.here {b:Bool} {i l:Addr} {xs:Array Value} {k:Nat} {h:Heap} (S:Src b i l xs k h):∃ o,h.get? i=some o∧(∃ vs,o.data = .fields vs):=by
 cases b
 ·obtain ⟨⟨o,e,_,d⟩,_⟩:=S;exact ⟨o,e,_,d⟩
 ·obtain ⟨⟨o,e,_,d⟩,_⟩:=S;exact ⟨o,e,_,d⟩
section
variable {prog:Program} {w:World} {A:Around} {E:Value->Shared->Prop} {s:Shared}
theorem Src.item {b:Bool} {i l:Addr} {xs:Array Value} {k:Nat} {x:Value} {Q:Value->Shared->Prop} (S:Src b i l xs k s.heap) (hne:l≠i) (hx:xs[k]? = some x)
  (hQ:∀ h',Src b i l xs (k + 1) h'->Heap.SameBut i s.heap h'->Q x { s with heap:=h' }):wpAny (model prog w) A (Builtin.SmallTypes.nextOf (.ref i)) Q E s:=by
 cases b
 ·exact wpAny_nextOf_list_item S.1 S.2 hx fun h' a1 a2=>hQ h' ⟨a1,S.2.extBut a2.extBut hne⟩ a2
 ·obtain ⟨hit,ht⟩:=S
  obtain ⟨o,ho,hc,hd⟩:=id hit
  obtain ⟨ol,hol,_,nl,hdl⟩:=id ht
  unfold Builtin.SmallTypes.nextOf
  refine AA (At (name:=Str.ofString "__next__") hit.typeIs A8
   (Ay A8 hit.typeIs F.entry_tuple_iterator_next ?_ (F.args_tuple_iterator_next_1 _)))
  show wpAny _ _ (field (.ref i) 0 >>= _) _ _ s
  refine AA (Ax ho hd (x := .ref l) rfl ?_)
  show wpAny _ _ (if (Value.ref l==Value.none)=true then _ else _) _ _ s
  rw [AH (show ¬ ((Value.ref l==Value.none)=true) from Ap)]
  show wpAny _ _ (field (.ref i) 1 >>= _) _ _ s
  refine AA (Ax ho hd (x := .int k 0) rfl ?_)
  show wpAny _ _ (seqItems? (.ref l) >>= _) _ _ s
  refine AA (Bp hol hdl ?_)
  simp only [BA,hx]
  refine AA (BH ho hd (by simp) (AE ⟨x,rfl,AE (hQ _ ⟨?_,ht.extBut (Bv ..).extBut hne⟩ (Bv ..))⟩))
  exact ⟨_,A4 _ ho (Bh (BE hd _)),(Obj.cls_mapFields ..).trans hc,by
   rw [BE hd];simp [rawInt]⟩
theorem Src.over {b:Bool} {i l:Addr} {xs:Array Value} {k:Nat} {Q:Value->Shared->Prop} (hh:A.handled=none) (S:Src b i l xs k s.heap) (hx:xs[k]? = none)
  (hE:∀ h' e,Heap.ExtBut i s.heap h'->(∃ o,h'.get? e=some o∧o.cls = .type "StopIteration")->E (.ref e) { s with heap:=h' }):wpAny (model prog w) A (Builtin.SmallTypes.nextOf (.ref i)) Q E s:=by
 cases b
 ·exact wpAny_nextOf_list_end hh S.1 S.2 hx hE
 ·obtain ⟨hit,ht⟩:=S
  obtain ⟨o,ho,hc,hd⟩:=id hit
  obtain ⟨ol,hol,_,nl,hdl⟩:=ht
  unfold Builtin.SmallTypes.nextOf
  refine AA (At (name:=Str.ofString "__next__") hit.typeIs A8
   (Ay A8 hit.typeIs F.entry_tuple_iterator_next ?_ (F.args_tuple_iterator_next_1 _)))
  show wpAny _ _ (field (.ref i) 0 >>= _) _ _ s
  refine AA (Ax ho hd (x := .ref l) rfl ?_)
  show wpAny _ _ (if (Value.ref l==Value.none)=true then _ else _) _ _ s
  rw [AH (show ¬ ((Value.ref l==Value.none)=true) from Ap)]
  show wpAny _ _ (field (.ref i) 1 >>= _) _ _ s
  refine AA (Ax ho hd (x := .int k 0) rfl ?_)
  show wpAny _ _ (seqItems? (.ref l) >>= _) _ _ s
  refine AA (Bp hol hdl ?_)
  simp only [BA,hx]
  refine AA (CP (AA (BH ho hd (by simp) ?_)))
  show wpAny _ _ (newExc (.type "StopIteration") [] >>= _) _ _ _
  refine AA ?_
  simp only [newExc,newTuple]
  refine AA (Au ?_ (by size_fits))
  refine AA (m:=firstArgMember _ _) (B2 (a:=Value.none) (by first |rfl |(simp only [firstArgMember];rfl)) ?_)
  refine Au ?_ (by size_fits)
  simp only [raiseNew]
  refine AA (wpAny_handled ?_)
  first |rw [show A.in1.handled=none from hh] |rw [hh]
  refine AA (AE (wpAny_throw ?_))
  exact hE _ _ (((Bv ..).extBut.push _).push _) ⟨_,AT _ rfl,rfl⟩
def Wf (b:Bool) (l:Addr):Obj:={ cls := .type (cond b "tuple_iterator" "list_iterator"),data := .fields #[.ref l,.int 0 0] }
def SqAt (b:Bool) (l:Addr) (xs:Array Value) (h:Heap):Prop:=match b with
 |true=>h.IsTuple l xs
 |false=>h.IsList l xs
theorem SqAt.here {b:Bool} {l:Addr} {xs:Array Value} {h:Heap} (S:SqAt b l xs h):∃ o,h.get? l=some o:=by
 cases b
 ·obtain ⟨o,e,_⟩:=S;exact ⟨o,e⟩
 ·obtain ⟨o,e,_⟩:=S;exact ⟨o,e⟩
theorem SqAt.at {b:Bool} {l:Addr} {xs:Array Value} {h h':Heap} (S:SqAt b l xs h) (e:∀ o,h.get? l=some o->h'.get? l=some o):SqAt b l xs h':=by
 cases b
 ·exact Heap.IsList.at S e
 ·obtain ⟨o,q,r⟩:=S;exact ⟨o,e o q,r⟩
theorem SqAt.iter {b:Bool} {l:Addr} {xs:Array Value} {Q:Value->Shared->Prop} (S:SqAt b l xs s.heap) (hQ:Q (.ref s.heap.objs.size) { s with heap:=s.heap.push (Wf b l) }):wpAny (model prog w) A (pyIter (.ref l)) Q E s:=by
 cases b
 ·exact wpAny_pyIter_list S hQ
 ·exact wpAny_pyIter_tuple S hQ
theorem SqAt.src {b:Bool} {i l:Addr} {xs:Array Value} {h:Heap} (S:SqAt b l xs h) (e:h.get? i=some (Wf b l)):Src b i l xs 0 h:=by
 cases b
 ·exact ⟨⟨_,e,rfl,rfl⟩,S⟩
 ·exact ⟨⟨_,e,rfl,rfl⟩,S⟩
end
def SqG (b:Bool) (K:W.Frag) (H:Hp) (l:Addr) (xs:List V):Prop:=match b with
 |true=>SqT K H l xs
 |false=>SqL K H l xs
theorem qAh {X:Cx} {pins:List (Addr×Obj)} {σ:L2.St} {H:Hp} {s:Shared} (I:L2.Inv X pins σ H s) {b:Bool} {l:Addr} {xs:List V} (h:SqG b X.K H l xs):∃ us:List Value,Vals xs us∧SqAt b l us.toArray s.heap:=by
 cases b
 ·obtain ⟨us,r,p,_⟩:=I.list h;exact ⟨us,r,p.isList⟩
 ·obtain ⟨us,r,p,_⟩:=I.tuple h;exact ⟨us,r,p⟩
theorem qFm {X:Cx} {pins:List (Addr×Obj)} {σ:L2.St} {H:Hp} {s:Shared} (I:L2.Inv X pins σ H s) {b:Bool} {l:Addr} {xs ys:List V} (h:SqG b X.K H l xs) (h':SqG b X.K H l ys):xs=ys:=by
 cases b
 ·exact I.list_inj h h'
 ·exact I.tuple_inj h h'
def IterAt (b:Bool) (i l:Addr) (k:Nat) (h:Heap):Prop:=match b with
 |true=>h.IsTupleIter i l k
 |false=>h.IsListIter i l k
theorem IterAt.at {b:Bool} {i l:Addr} {k:Nat} {h h':Heap} (S:IterAt b i l k h) (e:∀ o,h.get? i=some o->h'.get? i=some o):IterAt b i l k h':=by
 cases b
 ·exact Heap.IsListIter.at S e
 ·exact Heap.IsTupleIter.at S e
theorem IterAt.here {b:Bool} {i l:Addr} {k:Nat} {h:Heap} (S:IterAt b i l k h):∃ o,h.get? i=some o ∧ ∃ vs,o.data = .fields vs:=by
 cases b
 ·obtain ⟨o,e,_,d⟩:=S;exact ⟨o,e,_,d⟩
 ·obtain ⟨o,e,_,d⟩:=S;exact ⟨o,e,_,d⟩
theorem IterAt.src {b:Bool} {i l:Addr} {k:Nat} {xs:Array Value} {h:Heap} (S:IterAt b i l k h) (S2:SqAt b l xs h):Src b i l xs k h:=by
 cases b
 ·exact ⟨S,S2⟩
 ·exact ⟨S,S2⟩
theorem Src.iter {b:Bool} {i l:Addr} {k:Nat} {xs:Array Value} {h:Heap} (S:Src b i l xs k h):IterAt b i l k h:=by
 cases b
 ·exact S.1
 ·exact S.1
end EX
namespace EV
open PySem PySem.Spec PyProof.Rows L2 EX
section
variable {X:Cx} {E:XK} {e a c d:Expr} {es:List Expr} {f fa fb fc:FE} {fl:FL} {pos:Pos} {F G:FS}
def kQ:PV->Bool
 | .tup _=>true
 |_=>false
theorem jb {K:W.Frag} {H:Hp} {b:Bz} {st:qB} {p:PV} {v:V} {l:List PV} (S:SR K H b st) (r:RV K H b p v) (h:w5 st p=some l) :
  ∃ x xs,v = .ref x∧SqG (kQ p) K H x xs∧RVs K H b l xs:=by
 unfold w5 at h
 split at h
 ·cases h
  unfold RV at r
  obtain ⟨x,xs,rfl,h2,h3⟩:=r
  exact ⟨x,xs,rfl,h2.sq,h3⟩
 ·rename_i hp
  have:kQ p=false:=by unfold kQ;split <;> first |(exact absurd rfl (hp _)) |rfl
  rw [this]
  exact Q3 S r h
end
end EV
end
section
namespace EV
open PySem PySem.Spec PyProof.Rows L2 EX
section
variable {X:Cx} {E:XK}
def qGT (sc:Scope) (x:Str):Bool:=match sc.names.lookup x with
 |some .local=>true
 |some .cell=>true
 |some .free=>true
 |_=>false
theorem qHy {sc:Scope} {x:Str} (h:qGT sc x=true):Vis sc x:=by
 unfold qGT at h
 unfold Vis
 split at h
 ·rename_i e;exact .inl e
 ·rename_i e;exact .inr (.inl e)
 ·rename_i e;exact .inr (.inr e)
 ·cases h
theorem qI (i:Nat) {x:Str} {pos:Pos} (hN:X.N[i]? = some x:=by rfl) (hv:qGT X.env.scope x=true:=by rfl) (hd:((x==("__debug__":Str)) || (x==("__classdict__":Str)))=false:=by rfl):VE X E (.Name x pos) (qC i):=by
 rw [Bool.or_eq_false_iff] at hd
 exact qIT (pv i hN (qHy hv) hd.1 hd.2)
def frB (X:Cx):List (Str×NameKind)->Bool
 |[]=>true
 |(x,.free)::l=>(match X.env.kindOf x with |some .cell=>true |some .free=>true |_=>false)&&frB X l
 |_::l=>frB X l
theorem qDV:∀ {l:List (Str×NameKind)},frB X l=true -> ∀ x∈l,x.2 = .free->(X.env.kindOf x.1=some .cell∨X.env.kindOf x.1=some .free)
 |[],_,x,hx,_=>by cases hx
 |(y,k)::l,h,x,hx,hk=>by
  rcases AL.mp hx with rfl |hx
  ·have hk:k = .free:=hk
   subst hk
   unfold frB at h
   rw [Am] at h
   have h:=h.1
   split at h
   ·rename_i e;exact .inl e
   ·rename_i e;exact .inr e
   ·cases h
  ·refine qDV (l:=l) ?_ x hx hk
   unfold frB at h
   split at h
   ·rename_i he;cases he
   ·rename_i he;cases he;rw [Am] at h;exact h.2
   ·rename_i he;cases he;exact h
def qFT (X:Cx) (l:List (Str×NameKind)):List Str->List Nat->Prop
 |x::xs,j::js=>(X.N[j]? = some x∧l.lookup x=some .free)∧qFT X l xs js
 |_,_=>True
theorem yQ {x:Str} {k:NameKind}:∀ {l:List (Str×NameKind)},l.lookup x=some k->(x,k)∈l
 |[],h=>by cases h
 |(y,q)::l,h=>by
  rw [An] at h
  split at h
  ·rename_i e;cases h;rw [CU e];exact AD
  ·exact AG _ (yQ h)
theorem qBN {l:List (Str×NameKind)}:∀ {xs:List Str} {js:List Nat},qFT X l xs js -> ∀ (i:Nat) (x:Str) (j:Nat),xs[i]? = some x->js[i]? = some j->X.N[j]? = some x∧(x,NameKind.free)∈l
 |[],_,_,i,x,j,h1,_=>by cases h1
 |_::_,[],_,i,x,j,_,h2=>by cases h2
 |a::xs,b::js,h,i,x,j,h1,h2=>by
  unfold qFT at h
  cases i with
  |zero=>cases h1;cases h2;exact ⟨h.1.1,yQ h.1.2⟩
  |succ i=>exact qBN h.2 i x j h1 h2
theorem Qp {scope:Scope} {capN locN:List Str} {caps:List Nat} (h1:scope.kind = .function) (h2:(scope.names.map (·.1)).Nodup) (h3:frB X scope.names=true) (h4:capN.length=caps.length) (h5:qFT X scope.names capN caps):CSc X scope capN locN caps :=
 ⟨h1,h2,qDV h3,h4,qBN h5⟩
end
end EV
end
section
namespace EX
open PySem PySem.Spec PyProof.Rows L2
end EX
namespace EV
open PySem PySem.Spec PyProof.Rows L2 EX
end EV
end
section
namespace EV
open PySem PySem.Spec PyProof.Rows L2 EX
section
variable {X:Cx} {E:XK} {e:Expr} {es:List Expr} {pos:Pos}
theorem qJy {a:Expr} {n:Str} {f:FE} {g:FA} (h:VE X E (.Attribute a n pos) f) (h2:VA X E es g):VA X E (.Attribute a n pos::es) (qA f g):=Qa h h2 rfl
end
end EV
end
section
namespace EX
open PySem PySem.Spec PyProof.Rows L2
structure RawAt (h:Heap) (d:Addr) (es:Array DictEntry) (ep:Nat):Prop where
 ex:∃ o,h.get? d=some o∧o.ExactDict∧o.data = .dict es ep
section
variable {prog:Program} {w:World} {A:Around} {E:Value->Shared->Prop} {s:Shared} {d it:Addr} {es:Array DictEntry} {ep i:Nat}
theorem RawAt.typeIs (m:RawAt s.heap d es ep):s.TypeIs (.ref d) "dict" := let ⟨o,h,c,_⟩:=m.ex;⟨o,h,c.1⟩
theorem qCy {Q:Value->Shared->Prop} (hd:(d==sysModules)=false) (m:RawAt s.heap d es ep)
  (hQ:Q (.ref s.heap.objs.size) { s with heap:=s.heap.push { cls := .type "dict_keyiterator",data := .fields #[.ref d,.int 0 0,.int es.size 0,.int ep 0] } }):wpAny (model prog w) A (pyIter (.ref d)) Q E s:=by
 obtain ⟨o,ho,hc,hdat⟩:=m.ex
 refine wpAny_pyIter_slot m.typeIs F.slot_dict_iter (Ay F.slot_dict_iter m.typeIs F.entry_dict_iter ?_ (F.args_dict_iter_1 _))
 unfold Builtin.«dict.__iter__» Builtin.Dict.dictSlotNone Builtin.Dict.showsAll
 refine AA (AA (wpAny_notOrdered_dict m.typeIs (AE ?_)))
 show wpAny _ _ ((if (d==sysModules)=true then _ else _) >>= _) _ _ s
 rw [AH (by rw [hd];exact Ap)]
 refine AA (AE (AA (wpAny_dictEntries ho hdat (AA (wpAny_dictEpoch ho hdat ?_)))))
 exact AA (Au (AE ⟨_,rfl,"dict_keyiterator",_,⟨_,AT _ rfl,rfl⟩,F.slot_dict_keyiterator_next.lookup,by simpa [rawInt] using hQ⟩))
theorem qCi {Q:Option Value->Shared->Prop} (hit:s.heap.IsKeyIter it d i es.size ep) (m:RawAt s.heap d es ep) {e:DictEntry} (hx:es[i]? = some e)
  (hQ:∀ h',h'.IsKeyIter it d (i + 1) es.size ep->Heap.SameBut it s.heap h'->Q (some e.key) { s with heap:=h' }):wpAny (model prog w) A (pyNext (.ref it)) Q E s:=by
 obtain ⟨o,ho,hc,hd⟩:=id hit
 obtain ⟨od,hod,hcd,hdd⟩:=m.ex
 have hown:Builtin.Dict_items.ownsTuple "dict_keyiterator" = false:=by decide
 obtain ⟨hlt,rfl⟩:=Bl.mp hx
 unfold pyNext
 refine AA (Bx (At (name:=Str.ofString "__next__") hit.typeIs Bd (Ay Bd hit.typeIs F.entry_dict_keyiterator_next ?_ (F.args_dict_keyiterator_next_1 _))))
 refine AA (AE (AA (AA ?_)))
 first |refine AA (Ba hit.typeIs (AE (AA (wpAny_fieldsOf ho hd ?_)))) |refine AA (Br hit.typeIs (AE (AA (wpAny_fieldsOf ho hd ?_))))
 simp only [hown,BF,BY]
 show wpAny _ _ (if (Value.ref d==Value.none)=true then _ else _) _ _ s
 rw [AH (show ¬ ((Value.ref d==Value.none)=true) from Ap)]
 refine AA (AE (AA (wpAny_dictEntries hod hdd ?_)))
 rw [AH (by simp)]
 refine AA (AE (AA (wpAny_dictEpoch hod hdd ?_)))
 rw [AH (by simp)]
 refine AE ?_
 simp only [show ¬ ((i:Int) < 0) from by omega,BY,BA,Aw hlt]
 refine AA ?_
 first |refine AA (Ba hit.typeIs (AE (AA (wpAny_isOneOf_keyiter hit.typeIs ?_)))) |refine AA (Br hit.typeIs (AE (AA (wpAny_isOneOf_keyiter hit.typeIs ?_))))
 show wpAny _ _ (setField (.ref it) 1 (rawInt ((i:Int) + 1)) >>= _) _ _ s
 refine AA (BH ho hd (by simp) ?_)
 have hit':(s.heap.update it (Obj.mapFields (·.setIfInBounds 1 (rawInt ((i:Int) + 1))))).IsKeyIter it d (i + 1) es.size ep:=⟨_,A4 _ ho (Bh (BE hd _)),(Obj.cls_mapFields ..).trans hc,by rw [BE hd];simp [rawInt]⟩
 refine AA (As (AA (wpAny_isOneOf_keyiter (s:={ s with heap:=s.heap.update it (Obj.mapFields (·.setIfInBounds 1 (rawInt ((i:Int) + 1)))) }) hit'.typeIs ?_)))
 exact AE (AE ⟨_,rfl,AE (hQ _ hit' (Bv ..))⟩)
theorem qEs {Q:Option Value->Shared->Prop} (hn:Hnd A s.heap) (z4:∀ v,A.handled=some v->v ≠ .ref it) (hit:s.heap.IsKeyIter it d i es.size ep) (m:RawAt s.heap d es ep) (hx:es.size≤i)
  (hQ:∀ h',(∀ b o,b≠it->s.heap.get? b=some o->h'.get? b=some o)->Q none { s with heap:=h' }):wpAny (model prog w) A (pyNext (.ref it)) Q E s:=by
 obtain ⟨o,ho,hc,hd⟩:=id hit
 obtain ⟨od,hod,hcd,hdd⟩:=m.ex
 have hown:Builtin.Dict_items.ownsTuple "dict_keyiterator" = false:=by decide
 unfold pyNext
 refine AA (Bx (At (name:=Str.ofString "__next__") hit.typeIs Bd (Ay Bd hit.typeIs F.entry_dict_keyiterator_next ?_ (F.args_dict_keyiterator_next_1 _))))
 refine AA (AE (AA (AA ?_)))
 first |refine AA (Ba hit.typeIs (AE (AA (wpAny_fieldsOf ho hd ?_)))) |refine AA (Br hit.typeIs (AE (AA (wpAny_fieldsOf ho hd ?_))))
 simp only [hown,BF,BY]
 show wpAny _ _ (if (Value.ref d==Value.none)=true then _ else _) _ _ s
 rw [AH (show ¬ ((Value.ref d==Value.none)=true) from Ap)]
 refine AA (AE (AA (wpAny_dictEntries hod hdd ?_)))
 rw [AH (by simp)]
 refine AA (AE (AA (wpAny_dictEpoch hod hdd ?_)))
 rw [AH (by simp)]
 refine AE ?_
 simp only [show ¬ ((i:Int) < 0) from by omega,BY,BA,Array.getElem?_eq_none hx]
 refine AA ?_
 first |refine AA (Ba hit.typeIs (AE ?_)) |refine AA (Br hit.typeIs (AE ?_))
 show wpAny _ A.in1 (setField (.ref it) 0 .none >>= _) _ _ s
 refine AA (BH ho hd (by simp) ?_)
 refine W3 (A:=A.in1) ?_ fun h' e k ht => ?_
 ·intro v hv
  obtain ⟨ea,oe,vs,e1,e2,e3⟩:=hn v hv
  refine ⟨ea,oe,vs,e1,?_,e3⟩
  have hne:ea≠it:=fun z=>z4 v hv (by rw [e1,z])
  exact (AZ _ _ (Ne.symm hne)).trans e2
 ·refine AA (wpAny_isInstance (T := "StopIteration") (b:=true) ht isSubtype_stop ?_)
  exact AE (hQ _ fun b o' hb q=>k b o' ((AZ _ _ (Ne.symm hb)).trans q))
end
end EX
end
section
namespace EV
open PySem PySem.Spec PyProof.Rows L2 EX
def YQ:PV->Option (List L2.Key)
 | .tup (p::l)=>match QC yG (p::l) with
  |some ns=>some (ns.map Sum.inl)
  |none=>none
 |_=>none
def qFk (K:W.Frag):Prop := ∀ a ns,KT K a (ns.map V.int)->ns=[]
theorem qDo (K:W.Frag):qFk K:=fun a ns h=>by
 cases ns with
 |nil=>rfl
 |cons i ns=>exact absurd rfl (h.2 i _)
section
variable {X:Cx} {E:XK} {e a c d o:Expr} {es:List Expr} {f fa fb fc fd fk fx:FE} {pos:Pos} {F G:FS}
theorem qG2 {K:W.Frag} {H:Hp} {b:Bz} {p:PV} {v:V} {k:List L2.Key} (nk:qFk K) (r:RV K H b p v) (h:YQ p=some k):∃ a,v = .ref a∧H a=some (.tup (k.map kV)):=by
 unfold YQ at h
 split at h
 ·rename_i p l
  split at h
  ·rename_i ns hn
   cases h
   unfold RV at r
   obtain ⟨a,xs,rfl,h2,h3⟩:=r
   have:=Z3 h3 hn
   subst this
   refine ⟨a,rfl,?_⟩
   rcases h2 with q |q
   ·rw [q.1];congr 2;simp [kV]
   ·have:=nk a ns q
    subst this
    have:=h3.length
    cases this
  ·cases h
 ·cases h
theorem Ext.newS {H:Hp} {b:Bz} {p:Addr} {o:HO} (h:H p=none):Ext H b (upd H p o) ⟨b.b++[p],b.z⟩ :=
 ⟨⟨⟨[p],rfl,fun a ha=>by rw [AY.mp ha];exact h⟩,⟨[],rfl,by simp⟩,fun a u e _=>by rw [qP (qJ e h)];exact e,fun a u e=>⟨u,by rw [qP (qJ e h)];exact e⟩⟩,rfl,fun a u _ e=>by rw [qP (qJ e h)];exact e,fun a u _ e=>by rw [qP (qJ e h)];exact e⟩
theorem SR.newS {K:W.Frag} {H:Hp} {b:Bz} {st:qB} (S:SR K H b st) {p:Addr} {o:HO} {x:SO} (h:H p=none) (hx:SOk K (upd H p o) ⟨b.b++[p],b.z⟩ x o):SR K (upd H p o) ⟨b.b++[p],b.z⟩ (st++[x]):=by
 have hn:=S.new_notin h
 refine ⟨by simp [S.len],?_,fun i y hy => ?_,fun a ha => ?_,fun a ha hm => ?_⟩
 ·exact Bn.mpr ⟨S.nd,by simp,fun a ha c hc=>by rw [AY.mp hc];intro z;subst z;exact hn.1 ha⟩
 ·by_cases hi:i < st.length
  ·rw [Ak hi] at hy
   obtain ⟨a,u,h1,h2,h3⟩:=S.at_ i y hy
   exact ⟨a,u,(Ext.newS (b:=b) (o:=o) h).ix h1,by rw [qP (qJ h2 h)];exact h2,h3.ext (Ext.newS h)⟩
  ·have hi':i=st.length:=by
    have:=(AV.mp hy).1
    rw [Ab,Bi] at this;omega
   subst hi'
   have e1:(st++[x])[st.length]? = some x:=by simp
   rw [e1] at hy;cases hy
   exact ⟨p,o,by show (b.b++[p])[st.length]? = some p;rw [← S.len];simp,QL,hx⟩
 ·obtain ⟨u,e⟩:=S.zo a ha
  exact ⟨u,by rw [qP (qJ e h)];exact e⟩
 ·rcases Ah.mp hm with q |q
  ·exact S.zb a ha q
  ·rw [AY.mp q] at ha;exact hn.2 ha
theorem qFP {K:W.Frag} {H H':Hp} {b:Bz} {st:qB} (S:SR K H b st) {p:Addr}:RV K H' ⟨b.b++[p],b.z⟩ (.ref st.length) (.ref p):=by
 unfold RV
 exact ⟨p,rfl,by show (b.b++[p])[st.length]? = some p;rw [← S.len];simp⟩
def qEC:FE:=fun _ st => .ok (.ref st.length) (st++[.d []])
theorem qEm:VE X E (.Dict [] [] pos) qEC:=PE.imp qD4 fun s H Q ⟨b,r,st,S,R,P⟩ p hp =>
 P (.ref p) _ ⟨b.b++[p],b.z⟩ (Ext.newS hp) (S.newS (x := .d []) hp ⟨[],rfl,rfl,RVs.nil⟩) (qFP S)
def qJQ (kvs:List (List L2.Key×PV)) (k:List L2.Key):Option PV:=(kvs.find? fun kv=>decide (kv.1=k)).map (·.2)
def jk (kvs:List (List L2.Key×PV)) (k:List L2.Key) (v:PV):List (List L2.Key×PV) :=
 if (kvs.any fun kv=>decide (kv.1=k))=true then kvs.map (fun kv=>if kv.1=k then (kv.1,v) else kv) else kvs++[(k,v)]
theorem qFE {k:List L2.Key} {kvs:List (List L2.Key×PV)} {vs:List (List L2.Key×V)} (h:kvs.map (·.1)=vs.map (·.1)):(kvs.any fun kv=>decide (kv.1=k))=(vs.any fun kv=>decide (kv.1=k)):=by
 have h1:(kvs.any fun kv=>decide (kv.1=k))=(kvs.map (·.1)).any fun x=>decide (x=k):=by rw [List.any_map];rfl
 have h2:(vs.any fun kv=>decide (kv.1=k))=(vs.map (·.1)).any fun x=>decide (x=k):=by rw [List.any_map];rfl
 rw [h1,h2,h]
theorem jp {K:W.Frag} {H:Hp} {b:Bz} {k:List L2.Key} {p:PV} {v:V} (rp:RV K H b p v):∀ {kvs:List (List L2.Key×PV)} {vs:List (List L2.Key×V)},kvs.map (·.1)=vs.map (·.1)->RVs K H b (kvs.map (·.2)) (vs.map (·.2)) ->
  (kvs.map (fun kv=>if kv.1=k then (kv.1,p) else kv)).map (·.1)=(vs.map (fun kv=>if kv.1=k then (kv.1,v) else kv)).map (·.1) ∧
  RVs K H b ((kvs.map (fun kv=>if kv.1=k then (kv.1,p) else kv)).map (·.2)) ((vs.map (fun kv=>if kv.1=k then (kv.1,v) else kv)).map (·.2))
 |[],[],_,_=>⟨rfl,RVs.nil⟩
 |[],_::_,h,_=>by cases h
 |_::_,[],h,_=>by cases h
 |(k1,q)::r,(k2,w)::vs,h,hr=>by
  rw [AK,AK] at h hr
  obtain ⟨h1,h2⟩:=BZ h
  unfold RVs at hr
  obtain ⟨x,xs,e1,e2,e3⟩:=hr
  obtain ⟨rfl,rfl⟩:=BZ e1
  have h1:k1=k2:=h1
  subst h1
  obtain ⟨i1,i2⟩:=jp (k:=k) rp h2 e3
  by_cases e:k1=k
  ·exact ⟨by simp only [AK,e,CI] at i1 ⊢;rw [i1],by simp only [AK,e,CI];exact RVs.cons rp i2⟩
  ·exact ⟨by simp only [AK,e,BY] at i1 ⊢;rw [i1],by simp only [AK,e,BY];exact RVs.cons e2 i2⟩
theorem qEx {K:W.Frag} {H:Hp} {b:Bz} {k:List L2.Key} {p:PV} {v:V} (rp:RV K H b p v) {kvs:List (List L2.Key×PV)} {vs:List (List L2.Key×V)} (h:kvs.map (·.1)=vs.map (·.1)) (hr:RVs K H b (kvs.map (·.2)) (vs.map (·.2))) :
  (jk kvs k p).map (·.1)=(zg vs k v).map (·.1)∧RVs K H b ((jk kvs k p).map (·.2)) ((zg vs k v).map (·.2)):=by
 unfold jk zg
 rw [qFE h]
 by_cases q:(vs.any fun kv=>decide (kv.1=k))=true
 ·rw [AC q,AC q];exact jp rp h hr
 ·rw [AH q,AH q]
  refine ⟨by rw [A2,A2,h];rfl,?_⟩
  rw [A2,A2]
  exact hr.append (RVs.cons rp RVs.nil)
def dAt (st:qB) (i:Nat):Option (List (List L2.Key×PV)):=match st[i]? with
 |some (.d kvs)=>some kvs
 |some (.z kvs)=>some kvs
 |_=>none
def qJ2:PV->PV->qB->Rs PV:=fun p q st=>match p with
 | .ref i=>match YQ q,dAt st i with
  |some k,some kvs=>match qJQ kvs k with
   |some v => .ok v st
   |none => .no
  |_,_ => .no
 |_ => .no
def yh (fd fk f:FE):FS:=fun r st=>(f r st).bindS fun p s1=>(fd r s1).bindS fun o s2=>(fk r s2).bindS fun q s3=>match o with
 | .ref i=>match YQ q,s3[i]? with
  |some k,some (.d kvs)=>if kvs.length < sizeLine then .nx r (s3.set i (.d (jk kvs k p))) else .no
  |_,_ => .no
 |_ => .no
theorem qFG {tpos:Pos} (hu:X.A.units + 1 < cLine) (nk:qFk X.K) (ho:VE X E o fd) (hi:VE X E c fk) (h:VE X E e f) (hs:swapsWith e (some (.Subscript o c tpos)) pos.line X.env=pure false:=by rfl) :
  VS X E (.Assign [.Subscript o c tpos] e pos) (yh fd fk f) :=
 PS.imp (qFC hu ho hi h hs) fun D s H ⟨b,r,st,S,R,P⟩=>⟨b,r,st,S,R,PostE.bindS P fun p s1 u H1 b1 e1 S1 r1 P1 =>
  ⟨b1,r,s1,S1,R.ext e1,PostE.bindS P1 fun o s2 w H2 b2 e2 S2 r2 P2=>⟨b2,r,s2,S2,(R.ext e1).ext e2,PostE.bindS P2 fun q s3 y H3 b3 e3 S3 r3 P3=>by
   split at P3
   ·rename_i i
    split at P3
    ·rename_i k kvs hk hd
     split at P3
     ·rename_i hl
      have r2':=RV.ext e3 _ r2
      unfold RV at r2'
      obtain ⟨x,rfl,hx⟩:=r2'
      obtain ⟨c1,rfl,hy⟩:=qG2 nk r3 hk
      obtain ⟨a',o',g1,g2,vs,rfl,g3,g4⟩:=S3.at_ i _ hd
      rw [hx] at g1;cases g1
      have hlen:kvs.length=vs.length:=by have:=B3 List.length g3;simpa using this
      have hm:x∈b3.b:=BX hx
      have ew:Ext H3 b3 (upd H3 x (.dT (zg vs k u))) b3:=Ext.wr hm S3.zb (nfz g2 fun _ _ z=>nomatch z)
      refine ⟨x,_,rfl,DPut.t g2 hy (by rw [← hlen];exact hl),?_⟩
      obtain ⟨q1,q2⟩:=qEx (k:=k) (RV.ext ew _ (RV.ext e3 _ (RV.ext e2 _ r1))) g3 (RVs.ext ew _ g4)
      exact P3 s _ b3 ew (S3.wr (x := .d (jk kvs k p)) hx ⟨_,rfl,q1,q2⟩) ((((R.ext e1).ext e2).ext e3).ext ew)
     ·exact P3.elim
    ·exact P3.elim
   ·exact P3.elim⟩⟩⟩
theorem SR.tup_out {K:W.Frag} {H:Hp} {b:Bz} {st:qB} (S:SR K H b st) {x:Addr} {xs:List V} (h:H x=some (.tup xs)):b.out x:=by
 refine ⟨fun hm => ?_,fun hm => ?_⟩
 ·obtain ⟨i,hi⟩:=List.getElem?_of_mem hm
  have hl:i < b.b.length:=(AV.mp hi).1
  have hs:st[i]? = some (st[i]'(by rw [← S.len];exact hl)):=AS _
  obtain ⟨a',o,h1,h2,h3⟩:=S.at_ i _ hs
  rw [hi] at h1;cases h1
  rw [h] at h2;cases h2
  cases hq:st[i]'(by rw [← S.len];exact hl) with
  |l xs=>rw [hq] at h3;obtain ⟨_,e,_⟩:=h3;cases e
  |d xs=>rw [hq] at h3;obtain ⟨_,e,_⟩:=h3;cases e
  |z xs=>rw [hq] at h3;obtain ⟨_,_,e,_⟩:=h3;cases e
 ·obtain ⟨ys,e⟩:=S.zo x hm
  rw [h] at e;cases e
def kp:L2.Key->PV
 | .inl i => .int i
 | .inr x => .str x
def yJ (k:List L2.Key):PV := .tup (k.map kp)
structure Bef (K:W.Frag) (H1:Hp) (b1:Bz) (s1:qB) (i:Nat) (x:Addr) (kvs:List (List L2.Key×PV)) (vs:List (List L2.Key×V)):Prop where
 S:SR K H1 b1 s1
 ix:b1.b[i]? = some x
 h:H1 x=some (.dT vs)
 ks:kvs.map (·.1)=vs.map (·.1)
 rs:RVs K H1 b1 (kvs.map (·.2)) (vs.map (·.2))
theorem Bef.of {K:W.Frag} {H1:Hp} {b1:Bz} {s1:qB} {i:Nat} {u:V} {kvs:List (List L2.Key×PV)} (S:SR K H1 b1 s1) (r:RV K H1 b1 (.ref i) u) (hs:s1[i]? = some (.d kvs)):∃ x vs,u = .ref x∧Bef K H1 b1 s1 i x kvs vs:=by
 unfold RV at r
 obtain ⟨x,rfl,hx⟩:=r
 obtain ⟨a',o,h1,h2,vs,rfl,g3,g4⟩:=S.at_ i _ hs
 rw [hx] at h1;cases h1
 exact ⟨x,vs,rfl,S,hx,h2,g3,g4⟩
end
end EV
end
section
namespace EX
open PySem PySem.Spec PyProof.Rows L2
theorem Src.draws {prog:Program} {w:World} {A:Around} (hA:A.handled=none) (b:Bool) (i l:Addr) (hne:l≠i) (xs:Array Value):Draws prog w A i [i,l] xs.size (fun k x=>xs[k]? = some x) (fun k h=>Src b i l xs k h) where
 live:=fun k h S=>let ⟨o,e,_⟩:=S.here;⟨o,e⟩
 frame:=fun k h h' S q=>S.keep (fun o e=>q i (by simp) o e) fun o e=>q l (by simp) o e
 item:=fun k s Q E hk S hQ=>Src.item S hne (Aw hk) fun h' S' sb=>hQ _ h' s.toks (Aw hk) S' sb
 done:=fun s Q E S hE=>Src.over hA S (by simp) hE
def Yh (i:Addr):Obj:={ cls := .type "enumerate",data := .fields #[.none,.bool false,.ref i,rawInt 0,.none,.none] }
theorem jr (b:Bool) (l:Addr) (xs:Array Value) :
  Meets (Builtin.«enumerate.__new__» ⟨[.type "enumerate",.ref l],[]⟩) (fun _ R s=>SqAt b l xs s.heap∧R (.ok (.ret (.ref (s.heap.objs.size + 1)))) { s with heap:=(s.heap.push (Wf b l)).push (Yh s.heap.objs.size) }) :=
 .of_wp fun prog w A R s h=>by
  obtain ⟨hp,g,d,tk,os⟩:=s;obtain ⟨hl,h⟩:=h
  have hsub:=sub_enumerate
  have hL:SqAt b l xs (Shared.heap ⟨hp,g,d,tk,os⟩):=hl
  have z1:(hp.push (Wf b l)).objs.size=hp.objs.size + 1:=A9 ..
  wp_walk
  refine wpAny_stack_any fun st=>AE ?_
  split
  ·rename_i c _ _ _ _ _
   cases (c==Value.type "enumerate")
   ·wp_walk using SqAt.iter hL
    exact ⟨_,rfl,by simp only [A9];exact h⟩
   ·wp_walk using SqAt.iter hL
    exact ⟨_,rfl,by simp only [A9];exact h⟩
  ·wp_walk using SqAt.iter hL
   exact ⟨_,rfl,by simp only [A9];exact h⟩
section
variable {prog:Program} {w:World} {A:Around} {E:Value->Shared->Prop} {s:Shared}
theorem qAk {b:Bool} {l:Addr} {xs:Array Value} {Q:Value->Shared->Prop} (hl:SqAt b l xs s.heap)
  (h:∀ h',IsEnum h' (s.heap.objs.size + 1) s.heap.objs.size 0 .none->Src b s.heap.objs.size l xs 0 h'->(∀ c o,s.heap.get? c=some o->h'.get? c=some o)->Q (.ref (s.heap.objs.size + 1)) { s with heap:=h' }) :
  wpAny (model prog w) A (call (.type "enumerate") [.ref l]) Q E s:=by
 refine callType_new F.called_enumerate (by decide) (F.typeCall_enumerate_1 _) (F.newCall_enumerate_1 _) (fun obj=>F.args_object_init_2 obj _) F.entry_enumerate_new (jr b l xs) ⟨hl,?_⟩
 have z1:(s.heap.push (Wf b l)).objs.size=s.heap.objs.size + 1:=A9 ..
 have g2:((s.heap.push (Wf b l)).push (Yh s.heap.objs.size)).get? (s.heap.objs.size + 1)=some (Yh s.heap.objs.size):=by
  have:=AT (s.heap.push (Wf b l)) (o:=Yh s.heap.objs.size) rfl
  rw [z1] at this
  exact this
 have g1:((s.heap.push (Wf b l)).push (Yh s.heap.objs.size)).get? s.heap.objs.size=some (Wf b l):=AF _ (AT _ rfl)
 have old:∀ c o,s.heap.get? c=some o->((s.heap.push (Wf b l)).push (Yh s.heap.objs.size)).get? c=some o:=fun c o e=>AF _ (AF _ e)
 show _∧_
 exact ⟨⟨_,g2,rfl⟩,h _ g2 ((hl.at fun o e=>old _ o e).src g1) old⟩
end
def ItE (b:Bool) (K:W.Frag) (l:Addr):It :=
 ⟨fun i H => ∃ xs x,SqG b K H l xs∧xs[i]? = some x,fun i H x H' => ∃ T y,H T=none∧x = .ref T∧H'=upd H T (.tup [.int (i:Nat),y]) ∧ ∀ xs,SqG b K H l xs->xs[i]? = some y,fun i H => ∃ xs,SqG b K H l xs∧xs.length≤i⟩
def qIa (b:Bool) (z i1 l:Addr) (i:Nat) (h:Heap):Prop:=(∃ old,IsEnum h z i1 ((i:Nat):Int) old)∧IterAt b i1 l i h
theorem qAC {P:Program} {w:World} {K:W.Frag} {A:Around} {elts:List Expr} {n:Nat} {pos:Pos} (hA:A.handled=none) (b:Bool) (z i1 l:Addr) (h1:z≠i1) (h2:z≠l) (h3:l≠i1) :
  Turn P w K A (.Tuple elts n pos) (ItE b K l) [z,i1] z (qIa b z i1 l) where
 mem:=by simp
 obj:=fun i h st c hc=>by
  obtain ⟨⟨old,a1⟩,s4⟩:=st
  obtain ⟨o4,a4,_,d4⟩:=s4.here
  simp only [AL,Ae,Bt] at hc
  rcases hc with rfl |rfl
  ·exact ⟨_,a1,fun v q=>by cases (show Data.fields _=Data.cell v from q)⟩
  ·exact ⟨_,a4,fun v q=>by rw [d4] at q;cases q⟩
 keep:=fun i h h' st k=>by
  obtain ⟨⟨old,a1⟩,a4⟩:=st
  exact ⟨⟨old,k z (by simp) _ a1⟩,a4.at fun o e=>k i1 (by simp) o e⟩
 item:=by
  intro X hP hw hK hA' i pins s σ H E I hf st hg
  subst hP hw hK
  obtain ⟨xs,x,q1,e1⟩:=hg
  obtain ⟨⟨old,a1⟩,a4⟩:=st
  obtain ⟨us,r1,p1⟩:=qAh I q1
  obtain ⟨u,g1,ru⟩:=r1.get e1
  have hlt:i < us.toArray.size:=by
   have:=(AV.mp g1).1
   simpa using this
  refine wpAny_pyNext_enum_itemD (Src.draws (by rw [hA'];exact hA) b i1 l h3 us.toArray) a1 (a4.src p1) hlt h1 (by simp [h1,h2]) fun x' h' tk px z1 z4 z5 zs z7=>⟨_,rfl,?_⟩
  have eu:x'=u:=by
   have:us.toArray[i]? = some u:=by simpa using g1
   rw [px] at this;exact AW this
  subst eu
  refine wpAny_letOwnedTupleGo_enum (s:={ s with heap:=h',toks:=tk + 1 }) z1 fun hh y1 y2 => ?_
  have nz:s.heap.objs.size≠z:=B5 (AJ a1)
  have oth:∀ c,c≠z->hh.get? c=h'.get? c:=fun c hc=>y2.2 c hc
  have tz:qIa b z i1 l (i + 1) hh:=⟨⟨x',by exact_mod_cast y1⟩,z4.iter.at fun o e=>(oth i1 (Ne.symm h1)).trans e⟩
  have hT:IsPair hh s.heap.objs.size (.int i tk) x':=(oth _ nz).trans z5
  have I2:=qBZ (t':=tk + 1) (h':=hh) (x := .int i) (y:=x) I hf ⟨tk,rfl⟩ ru (fun c o hc e=>(oth c fun q=>hc (by simp [q])).trans (z7 c o (fun q=>hc (by simp [q])) (fun q=>hc (by simp [q])) e)) (fun c hc=>by
   obtain ⟨⟨ol,b1⟩,s4⟩:=tz
   obtain ⟨o4,b4,_⟩:=s4.here
   simp only [AL,Ae,Bt] at hc
   rcases hc with rfl |rfl
   ·exact ⟨_,b1⟩
   ·exact ⟨_,b4⟩) hT
  refine ⟨.ref s.heap.objs.size,_,I2,rfl,⟨_,x,I.hok.fresh (AI _),rfl,rfl,fun xs' hq => ?_⟩,tz,fun c hc => ?_⟩
  ·rw [qFm I hq q1];exact e1
  ·have:=(hf c hc).1
   have ne:c≠s.heap.objs.size:=by
    simp only [AL,Ae,Bt] at hc
    obtain ⟨o4,b4,_⟩:=a4.here
    rcases hc with rfl |rfl
    ·exact AU (AJ a1)
    ·exact AU (AJ b4)
   rw [qP ne];exact this
 done:=by
  intro X hP hw hK hA' i pins s σ H E I hf st hg
  subst hP hw hK
  obtain ⟨xs,q1,e1⟩:=hg
  obtain ⟨⟨old,a1⟩,a4⟩:=st
  obtain ⟨us,r1,p1⟩:=qAh I q1
  have n1:=r1.length
  have hA2:X.A.in1.handled=none:=by rw [hA'];exact hA
  have D:Draws X.prog X.w X.A.in1 i1 [i1,l] i (fun _ _=>True) (fun k h=>k=i∧Src b i1 l us.toArray i h) :=
   ⟨fun k h S=>let ⟨o,e,_⟩:=S.2.here;⟨o,e⟩,fun k h h' S q=>⟨S.1,S.2.keep (fun o e=>q i1 (by simp) o e) fun o e=>q l (by simp) o e⟩,fun k s Q E hk S hQ=>absurd S.1 (AU hk),
    fun s Q E S hE=>Src.over hA2 S.2 (by simp;omega) hE⟩
  obtain ⟨f0,f1,f2,f3,f4,f5⟩:=hf i1 (by simp)
  exact wpAny_pyNext_enum_endD D a1 ⟨rfl,a4.src p1⟩ fun h' k=>⟨rfl,I.turned (t':=s.toks) (fun b o hb e=>k b o hb e) f0 f1 f3 f4 f5⟩
 self:=fun _ _ _ _ _ st h=>let ⟨⟨_,a1⟩,_⟩:=st;wpAny_pyIter_enum a1 h
section
variable {X:Cx} {a:Expr} {ta:TA} {p pos:Pos} {elts:List Expr} {n:Nat} {tpos:Pos}
def qJg (K:W.Frag) (ta:TA):TI:=fun σ H R=>ta σ H fun vs H1 => ∃ b l,vs=[.ref l]∧(∃ xs,SqG b K H1 l xs)∧R (ItE b K l) H1
theorem qDQ (hc:X.calm=true) (hg:Gl X "enumerate") (hm:X.mg "enumerate" = none) (ha:PA X [a] ta) (he:starEach [a] X.env=(false,eval a X.env)::starEach [] X.env:=by rfl) (hpl:(backTo pos (starEach [] X.env)).any (·.1)=false:=by rfl) :
  PI X (.Tuple elts n tpos) (.Call (.Name "enumerate" p) [a] [] pos) (qJg X.K ta):=by
 intro pins s σ H R I h
 refine BS (Wx I hg hm PyProof.Rows.boot_enumerate ?_)
 refine BJ (thn (ha pos pins s σ H _ I h) fun us s1 ⟨vs,H1,I1,r1,q1⟩ => ?_) he hpl
 obtain ⟨b,l,rfl,⟨xs,h1⟩,q⟩:=q1
 obtain ⟨u,rfl,ru⟩:=r1.one
 cases ru
 obtain ⟨ts,r1,p1⟩:=qAh I1 h1
 refine qAk p1 fun h' c1 c4 c7 => ?_
 refine wpAny_pyIter_enum c1 ?_
 have lt1:l < s1.heap.objs.size:=by obtain ⟨_,e⟩:=p1.here;exact AJ e
 have I2:L2.Inv X pins σ H1 { s1 with heap:=h' }:=I1.kept (t':=s1.toks) c7
 refine ⟨_,_,_,_,H1,rfl,I2,qAC (I1.ok.hd hc) b _ _ l (Nat.succ_ne_self _) (B5 (BB lt1)) (AU lt1),⟨⟨_,c1⟩,c4.iter⟩,fun c hc' => ?_,q⟩
 have hle:s1.heap.objs.size≤c:=by
  simp only [AL,Ae,Bt] at hc'
  rcases hc' with rfl |rfl
  ·exact CA _ _
  ·exact AI _
 exact I1.fpOk hle (I1.hok.fresh hle)
end
end EX
namespace EV
open PySem PySem.Spec PyProof.Rows L2 EX
section
variable {X:Cx} {E:XK} {e a c d:Expr} {es:List Expr} {f fa fb fc:FE} {fl:FL} {pos:Pos} {F G:FS}
def zP (k:Nat):List PV->List PV
 |[]=>[]
 |p::l => .tup [.int (k:Int),p]::zP (k + 1) l
theorem yu:∀ (l:List PV) (k:Nat),(zP k l).length=l.length
 |[],_=>rfl
 |p::l,k=>by unfold zP;rw [AM,AM,yu l]
theorem ya:∀ {l:List PV} {k i:Nat} {p:PV},(zP k l)[i]? = some p -> ∃ q,l[i]? = some q∧p = .tup [.int ((k + i:Nat):Int),q]
 |[],_,_,_,h=>by simp [zP] at h
 |q::l,k,0,p,h=>by
  unfold zP at h
  simp at h
  exact ⟨q,rfl,h.symm⟩
 |q::l,k,i + 1,p,h=>by
  unfold zP at h
  obtain ⟨r,h1,h2⟩:=ya (l:=l) (k:=k + 1) (i:=i) (by simpa using h)
  exact ⟨r,by simpa using h1,by rw [h2,show k + 1 + i=k + (i + 1) by omega]⟩
def qIZ (ps:List PV) (st:qB):Rs ItP:=match ps with
 |[p]=>match w5 st p with
  |some l => .ok ⟨zP 0 l,fun s=>w5 s p=some l⟩ st
  |none => .no
 |_ => .no
def JI (t:FA):FI:=fun r st=>(t r st).bind qIZ
theorem qFW {elts:List Expr} {n:Nat} {tpos p:Pos} {t:FA} (hc:X.calm=true) (hm:X.mg "enumerate" = none) (ha:VA X E [a] t) (hg:Gl X "enumerate" := by rfl) (he:starEach [a] X.env=(false,eval a X.env)::starEach [] X.env:=by rfl) (hpl:(backTo pos (starEach [] X.env)).any (·.1)=false:=by rfl) :
  VI X E (.Tuple elts n tpos) (.Call (.Name "enumerate" p) [a] [] pos) (JI t):=fun pins s σ H R I q=>qDQ hc hg hm ha he hpl pins s σ H R I (by
 obtain ⟨b,r,st,S,RE,P⟩:=q
 refine ⟨b,r,st,S,RE,PostA.bindI P fun l s1 us H1 b1 e1 S1 r1 P1 => ?_⟩
 unfold qIZ at P1
 split at P1
 ·rename_i p
  split at P1
  ·rename_i l el
   obtain ⟨u,rfl,h1⟩:=RVs.one r1
   obtain ⟨x,xs,rfl,hq,hr⟩:=jb S1 h1 el
   refine ⟨kQ p,x,rfl,⟨xs,hq⟩,P1 _ H1 b1 (Ext.refl _ _) S1 ?_⟩
   intro H2 b2 st2 e2 _ S2 g2
   obtain ⟨y,ys,ey,hq2,hr2⟩:=jb S2 (RV.wext e2 _ h1) g2
   cases ey
   refine ⟨fun i p' hp => ?_,fun i hi=>⟨ys,hq2,by rw [← hr2.length,← yu l 0];exact hi⟩⟩
   obtain ⟨q',hq',rfl⟩:=ya hp
   obtain ⟨v,hv,rv⟩:=hr2.get hq'
   refine ⟨⟨ys,v,hq2,hv⟩,fun z H3 ⟨T,w,hT,h3,h4,h5⟩ => ?_⟩
   subst h3;subst h4
   have ew:=h5 ys hq2
   rw [hv] at ew;cases ew
   have en:Ext H2 b2 (upd H2 T (.tup [.int (i:Nat),v])) b2:=Ext.new hT
   refine ⟨fun c o q=>by rw [qP (qJ q hT)];exact q,S2.new hT,?_⟩
   unfold RV
   exact ⟨T,_,rfl,.inl ⟨QL,S2.new_notin hT⟩,RVs.cons (by rw [Nat.zero_add];exact QR) (RVs.cons (RV.ext en _ rv) RVs.nil)⟩
  ·exact P1.elim
 ·exact P1.elim)
end
end EV
end
section
namespace EX
open PySem PySem.Spec PyProof.Rows L2
end EX
namespace EV
open PySem PySem.Spec PyProof.Rows L2 EX
end EV
end
section
namespace EX
open PySem PySem.Spec PyProof.Rows L2
end EX
namespace EV
open PySem PySem.Spec PyProof.Rows L2 EX
end EV
end
section
namespace EV
open PySem PySem.Spec PyProof.Rows L2 EX
section
variable {X:Cx} {E:XK} {e a c d:Expr} {es:List Expr} {f fa fb fc:FE} {fl:FL} {pos:Pos} {F G:FS}
def qDB (f:FE) (lo hi:FO):FE:=fun r st=>(f r st).bind fun p s1=>(lo r s1).bind fun k s2=>(hi r s2).bind fun m s3=>match asL s3 p with
 |some l => .ok (.lst (zY l k m)) s3
 |none => .no
theorem qFD {l:List PV} {xs:List V} (h:l.length=xs.length) {K:W.Frag} {H:Hp} {b:Bz} (r:RVs K H b l xs) (k m:Option Int):RVs K H b (zY l k m) (YE xs k m):=by
 unfold zY YE
 rw [h]
 exact RVs.take _ (RVs.drop _ r)
theorem qHc {lo hi:Option Expr} {flo fhi:FO} {p2:Pos} (h:VE X E e f) (hl:VO X E lo flo) (hh:VO X E hi fhi):VE X E (.Subscript e (.Slice lo hi none p2) pos) (qDB f flo fhi) :=
 PE.imp (YA qEc h hl hh) fun s H Q ⟨b,r,st,S,R,P⟩=>⟨b,r,st,S,R,PostE.bind P fun p s1 u H1 b1 e1 S1 r1 P1=>⟨b1,r,s1,S1,R.ext e1,PostO.bind P1 fun k s2 H2 b2 e2 S2 P2=>⟨b2,r,s2,S2,(R.ext e1).ext e2,PostO.bind P2 fun m s3 H3 b3 e3 S3 P3=>by
  split at P3
  ·rename_i l el
   obtain ⟨x,xs,rfl,h2,h3⟩:=Q3 S3 (RV.ext e3 _ (RV.ext e2 _ r1)) el
   refine ⟨x,xs,rfl,h2,fun p hp=>PostN.lay (PostN.of (r := .ok (zY l k m) s3) P3) S3 (qFD h3.length h3 k m) hp⟩
  ·exact P3.elim⟩⟩⟩
end
end EV
end
section
namespace EX
open PySem PySem.Spec PyProof.Rows L2
end EX
namespace EV
open PySem PySem.Spec PyProof.Rows L2 EX
end EV
end
section
namespace EX
open PySem PySem.Spec PyProof.Rows L2
end EX
namespace EV
open PySem PySem.Spec PyProof.Rows L2 EX
section
variable {X:Cx} {E:XK} {e:Expr} {f:FE} {p p2 pos pos2:Pos}
theorem Wq {K:W.Frag} {H:Hp} {b:Bz}:∀ (ns:List Int),RVs K H b (ns.map PV.int) (ns.map V.int)
 |[]=>RVs.nil
 |n::ns=>RVs.cons QR (Wq ns)
end
end EV
end
section
namespace EX
open PySem PySem.Spec PyProof.Rows L2
inductive LexG (A:Around) (s:Shared) (r:Bool):List Value->List Value->Prop where
 |nn:r=false->LexG A s r [] []
 |nc {w ws}:r=true->LexG A s r [] (w::ws)
 |cn {v vs}:r=false->LexG A s r (v::vs) []
 |eq {v vs w ws}:SeqAt.EqAt A s v w true->LexG A s r vs ws->LexG A s r (v::vs) (w::ws)
 |ne {v vs w ws}:SeqAt.EqAt A s v w false->(∀ (prog:Program) (wd:World) (E:Value->Shared->Prop) (Q:Value->Shared->Prop),Q (.bool r) s->wpAny (model prog wd) A (richCompare .Lt v w) Q E s)->LexG A s r (v::vs) (w::ws)
section
open PySem.SeqAt
open PySem.AutoSeq1 (wpAny_loadPart')
open PySem.MeetsSeq PySem.MeetsSeq2 PySem.MeetsSeq3
theorem jH (l b:Addr) (items items2:Array Value) (n n2:Nat) (dd dd2:Option Addr) (sl sl2:Array (Option Value)) (r:Bool) :
  Meets (Builtin.«tuple.__lt__» ⟨[.ref l,.ref b],[]⟩)
   (fun A R s=>s.heap.get? l=some { cls := .type "tuple",dict:=dd,data := .seq items n,slots:=sl }∧s.heap.get? b=some { cls := .type "tuple",dict:=dd2,data := .seq items2 n2,slots:=sl2 }∧LexG A.in1 s r items.toList items2.toList ∧
    R (.ok (.ret (.bool r))) s) :=
 .of_wp fun prog w A R s h=>by
  obtain ⟨hp,g,d,tk,os⟩:=s;obtain ⟨hl,hb,hG,h⟩:=h
  have f2:=AutoSeq1.sub_tuple_tuple
  wp_walk using wpAny_loadPart' hl,wpAny_loadPart' hb,wpAny_forIn_list _ (fun rest b s'=>b.1=none∧s'=⟨hp,g,d,tk,os⟩ ∧ ∃ (vs ws:List Value),rest=vs.zip ws∧LexG A.in1 ⟨hp,g,d,tk,os⟩ r vs ws ∧
   vs.length + items2.size=ws.length + items.size) _
  case turn =>
   rintro ⟨y,x⟩ rest b s' ⟨hb',rfl,vs,ws,hz,hG',hlen⟩
   cases hG' with
   |nn _=>cases hz
   |nc _=>cases hz
   |cn _=>rw [List.zip_nil_right] at hz;cases hz
   |eq he hG2 =>
    rw [Aj] at hz
    injection hz with hyx hrest
    injection hyx with hy hx
    subst hy hx
    simp only [AM] at hlen
    refine AA (he prog w _ _ ?_)
    wp_walk
    exact ⟨rfl,rfl,_,_,hrest,hG2,by omega⟩
   |ne he hc =>
    rw [Aj] at hz
    injection hz with hyx hrest
    injection hyx with hy hx
    subst hy hx
    refine AA (he prog w _ _ ?_)
    have hri:=hc prog w
    wp_walk using hri
    exact ⟨_,rfl,by simpa using h⟩
  case fin =>
   rintro ⟨b1,b2⟩ s' ⟨hb',rfl,vs,ws,hz,hG',hlen⟩
   simp only at hb'
   subst hb'
   have hv:r=decide (items.size < items2.size):=by
    cases hG' with
    |nn hr =>
     simp only [BC] at hlen
     rw [hr];exact (AO (by omega)).symm
    |nc hr =>
     simp only [BC,AM] at hlen
     rw [hr];exact (AR (by omega)).symm
    |cn hr =>
     simp only [BC,AM] at hlen
     rw [hr];exact (AO (by omega)).symm
    |eq he hG2=>rw [Aj] at hz;cases hz
    |ne he hc=>rw [Aj] at hz;cases hz
   rw [hv] at h
   wp_walk
   exact ⟨_,rfl,by simpa [Builtin.Tuple.tupleCompareSizes] using h⟩
  case h =>
   exact ⟨rfl,rfl,items.toList,items2.toList,rfl,hG,by simp;omega⟩
end
end EX
namespace EV
open PySem PySem.Spec PyProof.Rows L2 EX
mutual
def plt:PV->PV->Option Bool
 | .int i,.int j=>some (decide (i < j))
 | .tup l,.tup m=>plts l m
 |_,_=>none
def plts:List PV->List PV->Option Bool
 |[],[]=>some false
 |[],_::_=>some true
 |_::_,[]=>some false
 |p::ps,q::qs=>if peq p q=true then plts ps qs else plt p q
end
section
variable {X:Cx} {pins:List (Addr×Obj)} {σ:L2.St} {H:Hp} {s:Shared}
def qIA (X:Cx) (H:Hp) (s:Shared) (A:Around) (p q:PV):Prop := ∀ {v u:V} {uv uu:Value} {r:Bool},RW X.K H p v->RW X.K H q u->RelV v uv->RelV u uu->plt p q=some r ->
  ∀ (prog:Program) (wd:World) (E:Value->Shared->Prop) (Q:Value->Shared->Prop),Q (.bool r) s->wpAny (model prog wd) A (richCompare .Lt uv uu) Q E s
theorem qHN (I:L2.Inv X pins σ H s) {n:Nat} {A:Around} {r:Bool} (hu:A.units + n < cLine) (ih:∀ p q,dep p≤n->qIA X H s A p q):∀ {l m:List PV} {xs ys:List V} {its its2:List Value},deps l≤n->RWs X.K H l xs->RWs X.K H m ys->Vals xs its->Vals ys its2->plts l m=some r->LexG A s r its its2:=by
 intro l
 induction l with
 |nil =>
  intro m xs ys its its2 _ h1 h2 r1 r2 e
  unfold RWs at h1;subst h1;cases r1
  cases m with
  |nil=>unfold RWs at h2;subst h2;cases r2;unfold plts at e;cases e;exact .nn rfl
  |cons q qs=>unfold RWs at h2;obtain ⟨y,yr,rfl,_,_⟩:=h2;cases r2;unfold plts at e;cases e;exact .nc rfl
 |cons p ps ihl =>
  intro m xs ys its its2 hd h1 h2 r1 r2 e
  unfold RWs at h1
  obtain ⟨x,xr,rfl,hx,hxs⟩:=h1
  unfold deps at hd
  cases r1 with
  |cons rx rxs =>
   cases m with
   |nil=>unfold RWs at h2;subst h2;cases r2;unfold plts at e;cases e;exact .cn rfl
   |cons q qs =>
    unfold RWs at h2
    obtain ⟨y,yr,rfl,hy,hys⟩:=h2
    cases r2 with
    |cons ry rys =>
     have he:=qAr I n p q x y _ _ A (by omega) hu hx hy rx ry
     unfold plts at e
     cases hq:peq p q with
     |true =>
      rw [hq] at e he
      exact .eq he (ihl (by omega) hxs hys rxs rys e)
     |false =>
      rw [hq] at e he
      exact .ne he (ih p q (by omega) hx hy rx ry e)
theorem qIR (I:L2.Inv X pins σ H s):∀ (n:Nat) (p q:PV) (A:Around),dep p≤n->A.units + n < cLine->qIA X H s A p q:=by
 intro n
 induction n with
 |zero =>
  intro p q A hd hu v u uv uu r hp hq rv ru e prog wd E Q h
  cases p with
  |int i =>
   cases q with
   |int j =>
    unfold RW at hp hq
    subst hp;subst hq
    obtain ⟨t,rfl⟩:=rv
    obtain ⟨t',rfl⟩:=ru
    unfold plt at e
    cases e
    exact HT.rcLt_int A s i t j t' prog wd E Q h
   |_=>simp [plt] at e
  |tup l=>unfold dep at hd;omega
  |_=>cases q <;> simp [plt] at e
 |succ n ih =>
  intro p q A hd hu v u uv uu r hp hq rv ru e prog wd E Q h
  cases p with
  |int i =>
   cases q with
   |int j =>
    unfold RW at hp hq
    subst hp;subst hq
    obtain ⟨t,rfl⟩:=rv
    obtain ⟨t',rfl⟩:=ru
    unfold plt at e
    cases e
    exact HT.rcLt_int A s i t j t' prog wd E Q h
   |_=>simp [plt] at e
  |tup l =>
   cases q with
   |tup m =>
    unfold RW at hp hq
    obtain ⟨a,xs,rfl,h2,h3⟩:=hp
    obtain ⟨a',ys,rfl,k2,k3⟩:=hq
    cases rv;cases ru
    obtain ⟨its,r1,t1,_⟩:=I.tuple h2
    obtain ⟨its2,r2,t2,_⟩:=I.tuple k2
    unfold plt at e
    unfold dep at hd
    obtain ⟨⟨cls,dd,data,sl⟩,ho,hc,n1,hda⟩:=id t1
    obtain ⟨⟨cls2,dd2,data2,sl2⟩,ho2,hc2,n2,hda2⟩:=id t2
    simp only at hc hda hc2 hda2
    subst hc hda hc2 hda2
    have hu1:A.in1.units + n < cLine:=by show A.units + 1 + n < cLine;omega
    have G:=qHN I (n:=n) (A:=A.in1) hu1 (fun p q hd=>ih p q A.in1 hd hu1) (by omega) h3 k3 r1 r2 e
    exact richCompare_meets_room (op := .Lt) ⟨_,ho,rfl⟩ ⟨_,ho2,rfl⟩ PySem.F.slot_tuple_lt PySem.F.entry_tuple_lt (PySem.F.args_tuple_lt_2 _ _) (jH _ _ its.toArray its2.toArray n1 n2 dd dd2 sl sl2 r)
     ⟨ho,ho2,by simpa using G,show Value.bool r≠Value.notImplemented∧Q (.bool r) s from ⟨(fun x=>nomatch x),h⟩⟩ (by omega)
   |_=>simp [plt] at e
  |_=>cases q <;> simp [plt] at e
end
section
variable {X:Cx} {E:XK} {a c:Expr} {fa fb:FE} {pos:Pos}
def qIp (K:W.Frag):R2:=fun u v H Q => ∃ p q r,RW K H p u∧RW K H q v∧dep p≤Zx∧plt p q=some r∧Q (.bl r) H
theorem qHJ (hr:X.A.units + 64 < cLine):OpR X (compareOp .Lt) (qIp X.K):=by
 intro pins s σ H x y v u Q I rx ry h
 obtain ⟨p,q,r,hp,hq,hd,e,h⟩:=h
 exact qIR I 60 p q X.A hd (by omega) hp hq rx ry e _ _ _ _ ⟨.bl _,H,I,rfl,h⟩
def j6:PV->PV->qB->Rs PV:=fun p q st=>if zT (res st p) (res st q)=true then (match plt (res st p) (res st q) with |some r => .ok (.bl r) st |none => .no) else .no
theorem qGa:OpG X E (qIp X.K) j6:=by
 intro H b st p q u v Q S rp rq P
 unfold j6 at P
 split at P
 ·rename_i h
  obtain ⟨h1,h2,h3⟩:=yF h
  split at P
  ·rename_i r hr
   exact ⟨_,_,r,zy S rp h1,zy S rq h2,h3,hr,PostE.here P S Wl⟩
  ·exact P.elim
 ·exact P.elim
theorem qGS (hu:X.A.units + 64 < cLine) (ha:VE X E a fa) (hb:VE X E c fb):VE X E (.Compare a [.Lt] [c] pos) (qG j6 fa fb):=Y6 (qHJ hu) qGa ha hb
end
end EV
end
section
namespace ET
open PySem PySem.Spec PyProof.Rows L2 EX
section
variable {prog:Program} {w:World} {A:Around} {E:Value->Shared->Prop} {s:Shared}
abbrev TK (prog:Program) (w:World) (h:Heap) (ks:List Int) (b:Addr):Prop:=IsTupleKey (intKind prog w) h ks b
theorem yP {ks:List Int} {vs:List Value} (h:ItemsAre (intKind prog w) ks vs):∀ v∈vs,∃ n t,v=Value.int n t:=by
 induction h with
 |nil=>intro v hv;cases hv
 | @cons k v ks vs h1 _ ih =>
  intro u hu
  rcases AL.mp hu with q |q
  ·subst q
   cases u with
   |int n t=>exact ⟨n,t,rfl⟩
   |_=>exact Bool.noConfusion (show false=true from h1)
  ·exact ih u q
theorem TK.keep {h h':Heap} {ks:List Int} {b:Addr} (k:TK prog w h ks b) (e:∀ o,h.get? b=some o->h'.get? b=some o):TK prog w h' ks b:=by
 obtain ⟨o,its,n,h1,h2⟩:=k
 exact ⟨o,its,n,e o h1,h2⟩
end
end ET
end
section
namespace ET
open PySem PySem.Spec PyProof.Rows L2 EX PySem.W
section
variable {O:KeyOrd} {key:Nat->O.α} {n:Nat}
def kOk (key:Nat->O.α) (n:Nat) {α:Type}:KasT α->(α->Prop)->Prop
 | .ret a,P=>P a
 | .ask i j k,P=>i < n∧j < n∧kOk key n (k (O.blt (key i) (key j))) P
theorem Wk {α β:Type} {f:α->KasT β} {P:β->Prop}:∀ {t:KasT α},kOk key n t (fun a=>kOk key n (f a) P)->kOk key n (t.bind f) P
 | .ret a,h=>h
 | .ask i j k,h=>⟨h.1,h.2.1,Wk h.2.2⟩
theorem JJ {α:Type} {cmp:Nat->Nat->(Bool->Shared->Prop)->Shared->Prop} {s:Shared} (hc:∀ i j C,i < n->j < n->C (O.blt (key i) (key j)) s->cmp i j C s) {P:α->Prop} {Q:α->Shared->Prop} (hq:∀ a,P a->Q a s):∀ (t:KasT α),kOk key n t P->t.kasWp cmp Q s
 | .ret a,h=>hq a h
 | .ask i j k,h=>hc i j _ h.1 h.2.1 (JJ hc hq _ h.2.2)
structure PB (n:Nat) (p:Array Nat):Prop where
 perm:p.Perm (List.range n).toArray
theorem PB.size {p:Array Nat} (h:PB n p):p.size=n:=by
 have:=h.perm.size_eq;simpa using this
theorem PB.lt {p:Array Nat} (h:PB n p) {k:Nat} (hk:k < n):p.getD k 0 < n:=by
 have hs:=h.size
 rw [Al,Aw (by omega)]
 have:p[k]∈(List.range n).toArray.toList:=(Array.perm_iff_toList_perm.mp h.perm).mem_iff.mp (by simp)
 simpa using this
def kq (key:Nat->O.α) (p:Array Nat) (k:Nat):O.α:=key (p.getD k 0)
def Srt (key:Nat->O.α) (p:Array Nat) (k:Nat):Prop := ∀ i j,i≤j->j < k->O.kle (kq key p i) (kq key p j)
def Nin (key:Nat->O.α) (p:Array Nat) (k:Nat):Prop := ∀ i j,i≤j->j < k->O.kle (kq key p j) (kq key p i)
theorem ZO {p:Array Nat} {i j:Nat} (hj:j≤p.size) (k:Nat):kq key (kas_rev p i j) k=if i≤k∧k < j then kq key p (i + j - 1 - k) else kq key p k:=by
 have e:=getElem?_mirror_all (i:=i) hj k
 unfold kq kas_rev
 rw [Al,e]
 split
 ·rw [Al]
 ·rw [Al]
theorem wI {p:Array Nat} {i j:Nat} (hj:j≤p.size) (heq:∀ k,i≤k->k < j->kq key p k=kq key p (j - 1)) (k:Nat):kq key (kas_rev p i j) k=kq key p k:=by
 rw [ZO hj]
 split
 ·rw [heq _ (by omega) (by omega),heq k (by omega) (by omega)]
 ·rfl
theorem Yo {p:Array Nat} {src d:Nat} (hs:src < p.size) (hd:d≤src) (k:Nat):kq key (bubble p src d) k=if k=src - d then kq key p src else if src - d < k∧k≤src then kq key p (k - 1) else kq key p k:=by
 have e:=getElem?_bubble hs d hd k
 unfold kq
 rw [Al,Al,Al,Al,e]
 split
 ·rfl
 ·split <;> rfl
theorem PB.rev {p:Array Nat} (h:PB n p) (i j:Nat):PB n (kas_rev p i j):=⟨(mirror_perm _ _ _ _).trans h.perm⟩
theorem J6 {p:Array Nat} (B:PB n p) {nrem:Nat} (hn:nrem≤n) {P:Nat->Prop} (h:∀ m,1≤m->m≤nrem->Srt key p m->(m=nrem∨O.klt (kq key p m) (kq key p (m - 1)))->P m):∀ (f a:Nat),1≤a->a + f=nrem->Srt key p a->kOk key n (kas_asc p f a) P
 |0,a,h1,h2,hs=>h a h1 (by omega) hs (.inl (by omega))
 |f + 1,a,h1,h2,hs=>by
  refine ⟨B.lt (by omega),B.lt (by omega),?_⟩
  show kOk key n (if O.blt (kq key p a) (kq key p (a - 1))=true then .ret a else kas_asc p f (a + 1)) P
  cases hl:O.blt (kq key p a) (kq key p (a - 1)) with
  |true=>rw [AC rfl];exact h a h1 (by omega) hs (.inr hl)
  |false =>
   rw [AH (by simp)]
   refine J6 B hn h f (a + 1) (by omega) (by omega) fun i j hij hj => ?_
   by_cases hja:j < a
   ·exact hs i j hij hja
   ·have:j=a:=by omega
    subst this
    by_cases hi':i=j
    ·subst hi';exact BL _
    ·exact CC (hs i (j - 1) (by omega) (by omega)) hl
theorem JH {p:Array Nat} (B:PB n p) {nrem m:Nat} (hn:nrem≤n) (h1:1≤m) (hm:m≤nrem) (hs:Nin key p m) {P:Nat×Array Nat->Prop} (h:∀ m' p',PB n p'->1≤m'->m'≤nrem->Srt key p' m'->P (m',p')):kOk key n (kas_tail3 m nrem p) P:=by
 unfold kas_tail3
 have hsz:m≤p.size:=by rw [B.size];omega
 refine Wk (J6 (B.rev 0 m) hn (fun m' a b c _=>h m' _ (B.rev 0 m) a b c) _ _ h1 (by omega) fun i j hij hj => ?_)
 rw [ZO hsz,ZO hsz,AC (by omega),AC (by omega)]
 exact hs _ _ (by omega) (by omega)
theorem yC {nrem:Nat} (hn:nrem≤n) {P:Array Nat×Nat×Nat->Prop}
  (h:∀ m neq p',PB n p'->1≤m->m≤nrem->Nin key p' m->neq + 1≤m->(∀ i,m - (neq + 1)≤i->i < m->kq key p' i=kq key p' (m - 1))->P (p',m,neq)) :
  ∀ (f:Nat) (p:Array Nat) (x neq:Nat),PB n p->1≤x->x + f=nrem->Nin key p x->neq + 1≤x->(∀ i,x - (neq + 1)≤i->i < x->kq key p i=kq key p (x - 1))->kOk key n (kas_desc f p x neq) P
 |0,p,x,neq,B,h1,h2,hs,hq,he=>h x neq p B h1 (by omega) hs hq he
 |f + 1,p,x,neq,B,h1,h2,hs,hq,he=>by
  have hsz:x≤p.size:=by rw [B.size];omega
  refine ⟨B.lt (by omega),B.lt (by omega),?_⟩
  show kOk key n (if O.blt (kq key p x) (kq key p (x - 1))=true then (if neq > 0 then kas_desc f (kas_rev p (x - (neq + 1)) x) (x + 1) 0 else kas_desc f p (x + 1) 0) else .ask (p.getD (x - 1) 0) (p.getD x 0) fun d=>if d=true then .ret (p,x,neq) else kas_desc f p (x + 1) (neq + 1)) P
  cases hl:O.blt (kq key p x) (kq key p (x - 1)) with
  |true =>
   rw [AC rfl]
   have step1:∀ p':Array Nat,(∀ k,kq key p' k=kq key p k)->Nin key p' (x + 1):=by
    intro p' hk i j hij hj
    rw [hk,hk]
    by_cases hjx:j < x
    ·exact hs i j hij hjx
    ·have hj':j=x:=by omega
     subst hj'
     by_cases hi':i=j
     ·subst hi';exact BL _
     ·exact CC (B4 hl) (hs i (j - 1) (by omega) (by omega))
   by_cases hneq:neq > 0
   ·rw [AC hneq]
    exact yC hn h f _ _ _ (B.rev _ _) (by omega) (by omega) (step1 _ (wI hsz he)) (by omega) fun i h1 h2=>by congr 1;omega
   ·rw [AH hneq]
    exact yC hn h f _ _ _ B (by omega) (by omega) (step1 _ fun _=>rfl) (by omega) fun i h1 h2=>by congr 1;omega
  |false =>
   rw [AH (by simp)]
   refine ⟨B.lt (by omega),B.lt (by omega),?_⟩
   show kOk key n (if O.blt (kq key p (x - 1)) (kq key p x)=true then .ret (p,x,neq) else kas_desc f p (x + 1) (neq + 1)) P
   cases hg:O.blt (kq key p (x - 1)) (kq key p x) with
   |true=>rw [AC rfl];exact h x neq p B h1 (by omega) hs hq he
   |false =>
    rw [AH (by simp)]
    have heqx:kq key p x=kq key p (x - 1):=KeyOrd.kle_antisymm hg hl
    refine yC hn h f _ _ _ B (by omega) (by omega) (fun i j hij hj => ?_) (by omega) fun i h1 h2 => ?_
    ·by_cases hjx:j < x
     ·exact hs i j hij hjx
     ·have hj':j=x:=by omega
      subst hj'
      by_cases hi':i=j
      ·subst hi';exact BL _
      ·rw [heqx];exact hs i (j - 1) (by omega) (by omega)
    ·rw [show x + 1 - 1=x by omega]
     by_cases hix:i=x
     ·subst hix;rfl
     ·rw [heqx];exact he i (by omega) (by omega)
theorem Zl {p:Array Nat} (B:PB n p) {nrem m:Nat} (hn:nrem≤n) (hm:m + 1≤nrem) (hs:Nin key p (m + 1)) {P:Nat×Array Nat->Prop} (h:∀ m' p',PB n p'->1≤m'->m'≤nrem->Srt key p' m'->P (m',p')):kOk key n (kas_descPart m nrem p) P:=by
 unfold kas_descPart
 refine Wk (yC hn (fun m' neq p' B' a1 a2 hs' hq he => ?_) _ _ _ _ B (by omega) (by omega) hs (by omega) fun i h1 h2=>by congr 1;omega)
 dsimp only
 have hsz:m'≤p'.size:=by rw [B'.size];omega
 by_cases hneq:neq > 0
 ·rw [AC hneq]
  refine JH (B'.rev _ _) hn a1 a2 (fun i j hij hj => ?_) h
  rw [wI hsz he,wI hsz he]
  exact hs' i j hij hj
 ·rw [AH hneq]
  exact JH B' hn a1 a2 hs' h
theorem qCe {p:Array Nat} (B:PB n p) (h1:1≤n) {P:Nat×Array Nat->Prop} (h:∀ m' p',PB n p'->1≤m'->m'≤n->Srt key p' m'->P (m',p')):kOk key n (kas_count n p) P:=by
 unfold kas_count
 refine Wk (J6 B (AI n) (fun m hm1 hm2 hsn hor => ?_) _ _ (AI 1) (by omega) fun i j hij hj=>by have:i=j:=(by omega);subst this;exact BL _)
 by_cases hnn:m=n
 ·rw [AC (by simpa using hnn)]
  exact h m p B hm1 hm2 hsn
 ·rw [AH (by simpa using hnn)]
  have hlt:O.klt (kq key p m) (kq key p (m - 1)):=hor.resolve_left hnn
  have hsz:m≤p.size:=by rw [B.size];omega
  by_cases hgt:m > 1
  ·rw [AC hgt]
   refine ⟨B.lt (by omega),B.lt (by omega),?_⟩
   show kOk key n (if O.blt (kq key p 0) (kq key p (m - 1))=true then .ret (m,p) else kas_descPart m n (kas_rev p 0 m)) P
   cases hrose:O.blt (kq key p 0) (kq key p (m - 1)) with
   |true=>rw [AC rfl];exact h m p B hm1 hm2 hsn
   |false =>
    rw [AH (by simp)]
    have hall:∀ k,0≤k->k < m->kq key p k=kq key p (m - 1):=by
     intro k _ hk
     have a1:=hsn 0 k (by omega) hk
     have a2:=hsn k (m - 1) (by omega) (by omega)
     exact KeyOrd.kle_antisymm a2 (CC hrose a1)
    refine Zl (B.rev _ _) (AI n) (by omega) (fun i j hij hj => ?_) h
    rw [wI hsz hall,wI hsz hall]
    by_cases hjn:j < m
    ·rw [hall i (by omega) (by omega),hall j (by omega) hjn];exact BL _
    ·have hj':j=m:=by omega
     subst hj'
     by_cases hi':i=j
     ·subst hi';exact BL _
     ·rw [hall i (by omega) (by omega)];exact B4 hlt
  ·rw [AH hgt]
   have hn1':m=1:=by omega
   subst hn1'
   refine Zl B (AI n) (by omega) (fun i j hij hj => ?_) h
   by_cases hi':i=j
   ·subst hi';exact BL _
   ·have hi0:i=0:=by omega
    have hj1:j=1:=by omega
    subst hi0;subst hj1
    exact B4 hlt
theorem y0 {p:Array Nat} (B:PB n p) {k:Nat} (hk:k < n) (hs:Srt key p k) {P:Nat->Prop} (h:∀ l,l≤k->(∀ i,i < l->O.kle (kq key p i) (kq key p k))->(∀ i,l≤i->i < k->O.klt (kq key p k) (kq key p i))->P l) :
  ∀ (f l r:Nat),l≤r->r≤k->r - l≤f->(∀ i,i < l->O.kle (kq key p i) (kq key p k))->(∀ i,r≤i->i < k->O.klt (kq key p k) (kq key p i))->kOk key n (kas_place p k f l r) P
 |0,l,r,h1,h2,h3,h4,h5=>by
  have:l=r:=by omega
  subst this
  exact h l h2 h4 h5
 |f + 1,l,r,h1,h2,h3,h4,h5=>by
  unfold kas_place
  by_cases hge:l ≥ r
  ·rw [AC hge]
   have:l=r:=by omega
   subst this
   exact h l h2 h4 h5
  ·rw [AH hge]
   refine ⟨B.lt hk,B.lt (by omega),?_⟩
   show kOk key n (if O.blt (kq key p k) (kq key p ((l + r) / 2))=true then kas_place p k f l ((l + r) / 2) else kas_place p k f ((l + r) / 2 + 1) r) P
   cases hless:O.blt (kq key p k) (kq key p ((l + r) / 2)) with
   |true =>
    rw [AC rfl]
    exact y0 B hk hs h f _ _ (by omega) (by omega) (by omega) h4 fun i a b=>KeyOrd.klt_of_klt_of_kle hless (hs _ _ a b)
   |false =>
    rw [AH (by simp)]
    exact y0 B hk hs h f _ _ (by omega) (by omega) (by omega) (fun i a=>CC (hs i ((l + r) / 2) (by omega) (by omega)) (show O.kle _ _ from hless)) h5
theorem Yu {P:Array Nat->Prop} (h:∀ p,PB n p->Srt key p n->P p):∀ (f:Nat) (p:Array Nat) (k:Nat),PB n p->k + f=n->Srt key p k->kOk key n (kas_bin f p k) P
 |0,p,k,B,h1,hs=>h p B (by
  have:k=n:=by omega
  subst this;exact hs)
 |f + 1,p,k,B,h1,hs=>by
  unfold kas_bin
  refine Wk (y0 B (by omega) hs (fun l hlk hlo hhi => ?_) k 0 k (by omega) (AI _) (by omega) (fun i hi=>absurd hi (Nat.not_lt_zero _)) fun i a b=>absurd b (by omega))
  refine Yu h f _ (k + 1) ⟨(bubble_perm _ _ _).trans B.perm⟩ (by omega) fun i j hij hj => ?_
  have hks:k < p.size:=by rw [B.size];omega
  rw [Yo hks (by omega),Yo hks (by omega),show k - (k - l)=l by omega]
  repeat' split
  all_goals first
   |(exfalso;omega)
   |exact BL _
   |exact hlo _ (by omega)
   |exact B4 (hhi _ (by omega) (by omega))
   |exact hs _ _ (by omega) (by omega)
theorem qFo (h1:1≤n):kOk key n (kas_sort n) fun p=>PB n p∧Srt key p n:=by
 unfold kas_sort
 refine Wk (qCe ⟨Array.Perm.refl _⟩ h1 fun m p B a b hs => ?_)
 dsimp only
 by_cases hlt:m < n
 ·rw [AC hlt,show max m 1=m by omega]
  exact Yu (fun p B hs=>⟨B,hs⟩) _ _ _ B (by omega) hs
 ·rw [AH hlt]
  have:m=n:=by omega
  subst this
  exact ⟨B,hs⟩
end
section
variable {prog:Program} {w:World} {A:Around} {E:Value->Shared->Prop} {s:Shared} {O:KeyOrd}
theorem qBp {vs:List Value} (hsz:vs.toArray.size=vs.length) (h2:vs.toArray.size < 2):List.toArray ((List.range vs.length).toArray.toList.map fun i=>vs.getD i Value.none)=(vs.toArray.zip vs.toArray).map (·.2):=by
 match vs,hsz,h2 with
 |[],_,_=>simp
 |[v],_,_=>simp
 |v₁::v₂::rest,hsz,h2=>rw [hsz,AM,AM] at h2;omega
theorem qBP {a:Addr} {vs:List Value} {n:Nat} {P:PySem.Fin->Shared->Prop} {key:Nat->O.α} {κ:SortKind} (ho:s.heap.get? a=some (seqObj "list" vs.toArray n)) (h64:vs.length < 64)
  (hk:2≤vs.length -> ∀ (h6:Heap) (Q:SortKind->Shared->Prop),(∀ b o,b≠a->s.heap.get? b=some o->h6.get? b=some o)->Q κ { s with heap:=h6 }->wpAny (model prog w) A (keyKind' vs.toArray) Q E { s with heap:=h6 })
  (hc:∀ (h6:Heap) (i j:Nat) (C:Bool->Shared->Prop),(∀ b o,b≠a->s.heap.get? b=some o->h6.get? b=some o)->i < vs.length->j < vs.length->C (O.blt (key i) (key j)) { s with heap:=h6 }->wpAny (model prog w) A (keyLt' κ (vs.getD i Value.none) (vs.getD j Value.none)) C (fun _ _=>False) { s with heap:=h6 })
  (h:∀ p:Array Nat,PB vs.length p->Srt key p vs.length->P (.done (.ret .none)) { s with heap:=sortedHeap s.heap a vs (List.toArray (p.toList.map fun i=>vs.getD i Value.none)) }) :
  wpAny (model prog w) A (Builtin.«list.sort» ⟨[.ref a],[]⟩) P E s:=by
 rw [list_sort_plain]
 have ha:a < s.heap.objs.size:=AJ ho
 refine AA (listItems_at ho rfl ?_)
 refine AA (listUpdate_at ho rfl ?_)
 obtain ⟨e1,ho1⟩:∃ e1,(s.heap.update a (Obj.mapSeq fun _ => #[])).get? a=some (seqObj "list" #[] e1):=⟨_,get?_update_seq ho (fun _ => #[])⟩
 refine AA (seqEpoch_at ho1 rfl ?_)
 refine AA (wpAny_newTuple ?_)
 refine AA (By ?_)
 refine As ?_
 have ho6:(((s.heap.update a (Obj.mapSeq fun _ => #[])).push (seqObj "tuple" vs.toArray 0)).push (seqObj "list" #[] 0)).get? a=some (seqObj "list" #[] e1):=by
  rw [Heap.get?_push_ne _ _ _ (by rw [size_push',Heap.size_update];exact AU (BB ha)),Heap.get?_push_ne _ _ _ (by rw [Heap.size_update];exact AU ha)]
  exact ho1
 have keep:∀ b o,b≠a->s.heap.get? b=some o->(((s.heap.update a (Obj.mapSeq fun _ => #[])).push (seqObj "tuple" vs.toArray 0)).push (seqObj "list" #[] 0)).get? b=some o:=fun b o hb q =>
  AF _ (AF _ ((AZ _ _ (Ne.symm hb)).trans q))
 show wpAny (model prog w) A _ P E { s with heap:=((s.heap.update a (Obj.mapSeq fun _ => #[])).push (seqObj "tuple" vs.toArray 0)).push (seqObj "list" #[] 0) }
 dsimp only
 have hsz:vs.toArray.size=vs.length:=by simp
 by_cases h2:vs.toArray.size < 2
 ·rw [AC h2,AC h2]
  refine AA (AE ?_)
  rw [StateT.run_pure]
  refine AA (AE ?_)
  dsimp only
  refine AA (seqEpoch_at ho6 rfl ?_)
  refine AA (listUpdate_at ho6 rfl ?_ (hsz2:=by rw [Array.size_map];show (pairsOf vs).size≤_;rw [pairsOf_size,BU];omega))
  simp only [bne_self_eq_false,BF,BY]
  refine AE ?_
  have:=h (List.range vs.length).toArray ⟨Array.Perm.refl _⟩ fun i j hij hj=>by
   have:i=j:=by omega
   subst this;exact BL _
  have e:List.toArray ((List.range vs.length).toArray.toList.map fun i=>vs.getD i Value.none)=(arrOf (SortSt.mk' general' (vs.toArray.zip vs.toArray) #[] 7 none)).map (·.2):=qBp hsz h2
  rw [e] at this
  exact this
 ·rw [AH h2,AH h2]
  have h2':2≤vs.length:=by omega
  refine AA (hk h2' _ _ keep ?_)
  have hw:(kas_sort vs.length).kasWp (kas_ask prog w A κ vs) (fun p s'=>s'={ s with heap:=((s.heap.update a (Obj.mapSeq fun _ => #[])).push (seqObj "tuple" vs.toArray 0)).push (seqObj "list" #[] 0) }∧PB vs.length p∧Srt key p vs.length) { s with heap:=((s.heap.update a (Obj.mapSeq fun _ => #[])).push (seqObj "tuple" vs.toArray 0)).push (seqObj "list" #[] 0) } :=
   JJ (O:=O) (key:=key) (n:=vs.length) (fun i j C hi hj hC=>hc _ i j C keep hi hj hC) (P:=fun p=>PB vs.length p∧Srt key p vs.length) (fun p hp=>⟨rfl,hp⟩) _ (qFo (by omega))
  refine AA (BP (kat_run (Q:=fun st' s' => ∃ p:Array Nat,p.size=vs.length∧arrOf st'=p.map (kas_item (vs.toArray.zip vs.toArray))∧failedOf st'=none∧s'={ s with heap:=((s.heap.update a (Obj.mapSeq fun _ => #[])).push (seqObj "tuple" vs.toArray 0)).push (seqObj "list" #[] 0) }∧PB vs.length p∧Srt key p vs.length)
   rfl h2' h64 (fun p' st' s' a1 a2 a3 a4=>⟨p',a1,a2,a3,a4⟩) hw) ?_ fun _ _ e=>e)
  rintro ⟨⟨⟩,st'⟩ s' ⟨p,hp,har,hf,rfl,B,S⟩
  dsimp only
  have hout:=kat_snds rfl har
  refine AA (seqEpoch_at ho6 rfl ?_)
  refine AA (listUpdate_at ho6 rfl ?_ (hsz2:=by rw [hout,AN,AB,Ar,hp,BU];omega))
  rw [hf]
  simp only [bne_self_eq_false,BF,BY]
  rw [hout]
  exact AE (h p B S)
theorem JC {l:Addr} {vs:List Value} {Q:List Value->Shared->Prop} (hl:∃ o,s.heap.get? l=some o∧o.cls = .type "tuple" ∧ ∃ n,o.data = .seq vs.toArray n) (hz:vs.length≤sizeLine)
  (h:Q vs { s with heap:=(s.heap.push (seqObj "list" #[] 0)).update s.heap.objs.size (Obj.mapSeq (· ++ vs.toArray)) }):wpAny (model prog w) A (collect (.ref l)) Q E s:=by
 obtain ⟨ob,g1,g2,nn,g3⟩:=hl
 unfold collect
 refine AA (wpAny_runValue (BV entry_proto_collect' ?_))
 show wpAny _ _ (do again (.builtin "list.__iadd__" ⟨[← newList [],.ref l],[]⟩)) _ _ s
 refine AA (By (AE ⟨Code.quiet_builtin _ (by decide +kernel),BV entry_list_iadd' ?_⟩))
 show wpAny _ _ (Builtin.List.listExtendWith (.ref s.heap.objs.size) (.ref l) (.ref s.heap.objs.size)) _ _ { s with heap:=s.heap.push (seqObj "list" #[] 0) }
 unfold Builtin.List.listExtendWith
 have g4:(s.heap.push (seqObj "list" #[] 0)).get? l=some ob:=AF _ g1
 refine AA (wpAny_typeOf (T := "tuple") ⟨ob,g4,g2⟩ ?_)
 have g5:(Value.type "tuple" == Value.type "tuple")=true:=by rfl
 rw [AC (by rw [g5];simp)]
 refine AA (listItems_at g4 g3 ?_)
 refine AA (listItems_at (xs := #[]) (n:=0) (AT _ rfl) rfl ?_)
 rw [AH (by simp)]
 refine AA (listUpdate_at (xs := #[]) (n:=0) (AT _ rfl) rfl ?_ (BG _) (by show (#[]++vs.toArray).size≤sizeLine + 1;simp only [Array.size_append,AN,BC];omega))
 refine AE ?_
 show wpAny _ _ (load s.heap.objs.size >>= _) Q E _
 refine AA (wpAny_load (get?_update_seq (AT _ rfl) _) ?_)
 show wpAny _ _ (pure ((#[]:Array Value)++vs.toArray).toList) Q E _
 rw [show ((#[]:Array Value)++vs.toArray).toList=vs by simp]
 exact AE h
theorem qCa {l:Addr} {vs:List Value} {Q:Value->Shared->Prop} {key:Nat->O.α} {κ:SortKind} (hcol:∀ {E':Value->Shared->Prop} {Q':List Value->Shared->Prop},Q' vs { s with heap:=(s.heap.push (seqObj "list" #[] 0)).update s.heap.objs.size (Obj.mapSeq (· ++ vs.toArray)) }->wpAny (model prog w) A.in1 (collect (.ref l)) Q' E' s) (h64:vs.length < 64)
  (hk:2≤vs.length -> ∀ (A':Around) (E':Value->Shared->Prop) (h6:Heap) (Q:SortKind->Shared->Prop),(∀ b o,s.heap.get? b=some o->h6.get? b=some o)->Q κ { s with heap:=h6 }->wpAny (model prog w) A' (keyKind' vs.toArray) Q E' { s with heap:=h6 })
  (hc:∀ (h6:Heap) (i j:Nat) (C:Bool->Shared->Prop),(∀ b o,s.heap.get? b=some o->h6.get? b=some o)->i < vs.length->j < vs.length->C (O.blt (key i) (key j)) { s with heap:=h6 }->wpAny (model prog w) A.in1.in1 (keyLt' κ (vs.getD i Value.none) (vs.getD j Value.none)) C (fun _ _=>False) { s with heap:=h6 })
  (h:∀ p:Array Nat,PB vs.length p->Srt key p vs.length->Q (.ref (s.heap.objs.size + 1)) { s with heap:=sortedAll s.heap vs (List.toArray (p.toList.map fun i=>vs.getD i Value.none)) }) :
  wpAny (model prog w) A (call (.builtin "sorted") [.ref l]) Q E s:=by
 refine Calls.call_function_entry kind_sorted plain_sorted entry_sorted (args_sorted1 _) ?_
 unfold Builtin.«sorted»
 refine AA (m:=checkCount "sorted" 1 1 _) (AE ?_)
 refine AA (hcol ?_)
 refine AA (By ?_ (by rw [BU];omega))
 have hsz:((s.heap.push (seqObj "list" #[] 0)).update s.heap.objs.size (Obj.mapSeq (· ++ vs.toArray))).objs.size=s.heap.objs.size + 1:=by
  rw [Heap.size_update,size_push']
 have hoL:(((s.heap.push (seqObj "list" #[] 0)).update s.heap.objs.size (Obj.mapSeq (· ++ vs.toArray))).push (seqObj "list" vs.toArray 0)).get? (s.heap.objs.size + 1)=some (seqObj "list" vs.toArray 0):=by
  rw [← hsz];exact AT _ rfl
 have keep:∀ b o,s.heap.get? b=some o->(((s.heap.push (seqObj "list" #[] 0)).update s.heap.objs.size (Obj.mapSeq (· ++ vs.toArray))).push (seqObj "list" vs.toArray 0)).get? b=some o:=fun b o q=>by
  have hlt:b < s.heap.objs.size:=AJ q
  rw [Heap.get?_push_ne _ _ _ (by rw [hsz];exact AU (BB hlt)),Heap.get?_update_ne _ _ _ _ (AU hlt),Heap.get?_push_ne _ _ _ (AU hlt)]
  exact q
 show wpAny _ _ _ _ _ { s with heap:=((s.heap.push (seqObj "list" #[] 0)).update s.heap.objs.size (Obj.mapSeq (· ++ vs.toArray))).push (seqObj "list" vs.toArray 0) }
 rw [hsz]
 have hne:∀ b o,s.heap.get? b=some o->b≠s.heap.objs.size + 1:=fun b o q=>AU (BB (AJ q))
 refine AA (As (Ay slot_list_sort ⟨_,hoL,rfl⟩ entry_list_sort (qBP (O:=O) (key:=key) (κ:=κ) hoL h64 (fun h2 h6 Q' k q=>hk h2 _ _ h6 Q' (fun b o hb=>k b o (hne b o hb) (keep b o hb)) q) (fun h6 i j C k hi hj q=>hc h6 i j C (fun b o hb=>k b o (hne b o hb) (keep b o hb)) hi hj q) fun p a1 a2=>⟨_,rfl,?_⟩) (args_list_sort _)))
 exact AE ⟨_,rfl,h p a1 a2⟩
end
def lxb:List Int->List Int->Bool
 |_,[]=>false
 |[],_::_=>true
 |a::l,b::m=>if a < b then true else if b < a then false else lxb l m
theorem Z4:∀ l,lxb l l=false
 |[]=>rfl
 |a::l=>by rw [lxb,AH (CH a),AH (CH a)];exact Z4 l
theorem qAF:∀ a b c,lxb a b=true->lxb b c=true->lxb a c=true
 |_,_,[],_,h=>by
  cases ‹List Int› <;> simp [lxb] at h
 |_,[],_::_,h,_=>by simp [lxb] at h
 |[],_::_,_::_,_,_=>rfl
 |x::l,y::m,z::n,h1,h2=>by
  unfold lxb at h1 h2 ⊢
  by_cases hxy:x < y
  ·by_cases hyz:y < z
   ·rw [AC (by omega)]
   ·rw [AH hyz] at h2
    by_cases hzy:z < y
    ·rw [AC hzy] at h2;cases h2
    ·rw [AC (by omega)]
  ·rw [AH hxy] at h1
   by_cases hyx:y < x
   ·rw [AC hyx] at h1;cases h1
   ·rw [AH hyx] at h1
    by_cases hyz:y < z
    ·rw [AC (by omega)]
    ·rw [AH hyz] at h2
     by_cases hzy:z < y
     ·rw [AC hzy] at h2;cases h2
     ·rw [AH hzy] at h2
      rw [AH (by omega),AH (by omega)]
      exact qAF l m n h1 h2
theorem Z6:∀ a b,lxb a b=false->lxb b a=false->a=b
 |[],[],_,_=>rfl
 |[],_::_,h,_=>by cases h
 |_::_,[],_,h=>by cases h
 |x::l,y::m,h1,h2=>by
  unfold lxb at h1 h2
  by_cases hxy:x < y
  ·rw [AC hxy] at h1;cases h1
  ·by_cases hyx:y < x
   ·rw [AC hyx] at h2;cases h2
   ·rw [AH hxy,AH hyx] at h1
    rw [AH hyx,AH hxy] at h2
    have:x=y:=by omega
    rw [this,Z6 l m h1 h2]
def lxO:KeyOrd where
 α:=List Int
 blt:=lxb
 irrefl:=Z4
 trans:=qAF
 total:=Z6
 negTrans:=fun a b c h=>by
  cases h1:lxb a b with
  |true=>exact .inl rfl
  |false =>
   right
   cases h2:lxb b a with
   |true=>exact qAF b a c h2 h
   |false=>rw [← Z6 a b h1 h2];exact h
section
variable {prog:Program} {w:World} {A:Around} {E:Value->Shared->Prop} {s:Shared}
theorem qFB (b:Bool) {x y:Int} {t u:Tok} {Q:Bool->Shared->Prop} (h:Q (decide (x < y)) s):wpAny (model prog w) A (oneLt' b (.int x t) (.int y u)) Q E s:=by
 cases b with
 |true=>exact oneLt_int h
 |false=>exact kat_one _ _ (wpAny_lt_int h)
theorem qG3 {b fin:Bool} {Q:Bool->Shared->Prop} {ks:List Int} {vs:List Value} (hx:ItemsAre (intKind prog w) ks vs):∀ {ks':List Int} {us:List Value} (i:Nat),ItemsAre (intKind prog w) ks' us->decide (vs.length < us.length)=fin->Q (lxb ks ks') s->KatLex prog w A b fin Q (vs.zip us) i s:=by
 induction hx with
 |nil =>
  intro ks' us i hy hf h
  refine kat_nil ?_
  cases hy with
  |nil=>rw [← hf];exact h
  |cons _ _=>rw [← hf,BC,AM,AR (Nat.succ_pos _)];exact h
 | @cons k v ks vs h1 h2 ih =>
  intro ks' us i hy hf h
  cases hy with
  |nil=>refine kat_nil ?_;rw [← hf];exact h
  | @cons k' u ks' us g1 g2 =>
   rw [Aj]
   refine kat_cons ((intKind prog w).eqBool h1 g1 ?_)
   obtain ⟨n1,t1,rfl⟩:=yP (.cons h1 h2) v AD
   obtain ⟨n2,t2,rfl⟩:=yP (.cons g1 g2) u AD
   have e1:n1=k:=(intKind prog w).inj _ _ _ (intKind_is prog w n1 t1) h1
   have e2:n2=k':=(intKind prog w).inj _ _ _ (intKind_is prog w n2 t2) g1
   subst e1;subst e2
   unfold lxb at h
   by_cases hq:n1=n2
   ·rw [AR hq]
    rw [AH (by omega),AH (by omega)] at h
    exact kat_yes (ih (i + 1) g2 (by simpa using hf) h)
   ·rw [AO hq]
    refine kat_no (qFB _ ?_)
    by_cases hl:n1 < n2
    ·rw [AC hl] at h;rw [AR hl];exact h
    ·rw [AH hl,AC (by omega)] at h;rw [AO hl];exact h
theorem qGD {b:Bool} {ks ks':List Int} {x y:Addr} {Q:Bool->Shared->Prop} (hx:TK prog w s.heap ks x) (hy:TK prog w s.heap ks' y) (h:Q (lxb ks ks') s):wpAny (model prog w) A (keyLt' (tuples' b) (.ref x) (.ref y)) Q E s:=by
 obtain ⟨ox,xs,n,h1,_,h3,h4⟩:=hx
 obtain ⟨oy,ys,m,g1,_,g3,g4⟩:=hy
 exact kat_lt h1 h3 g1 g3 (qG3 h4 0 g4 (by simp) h)
inductive TsV (prog:Program) (w:World) (h:Heap):List Value->List (List Int)->Prop
 |nil:TsV prog w h [] []
 |cons {ks:List Int} {b:Addr} {vs:List Value} {kss:List (List Int)}:TK prog w h ks b->ks≠[]->TsV prog w h vs kss->TsV prog w h (.ref b::vs) (ks::kss)
theorem TsV.len {h:Heap} {vs:List Value} {kss:List (List Int)} (e:TsV prog w h vs kss):vs.length=kss.length:=by
 induction e with
 |nil=>rfl
 |cons _ _ _ ih=>rw [AM,AM,ih]
theorem TsV.keep {h h':Heap} {vs:List Value} {kss:List (List Int)} (e:TsV prog w h vs kss) (k:∀ b o,(∃ ks,TK prog w h ks b)->h.get? b=some o->h'.get? b=some o):TsV prog w h' vs kss:=by
 induction e with
 |nil=>exact .nil
 |cons a ne _ ih=>exact .cons (a.keep fun o=>k _ o ⟨_,a⟩) ne ih
theorem TsV.get {h:Heap} {vs:List Value} {kss:List (List Int)} (e:TsV prog w h vs kss):∀ {i:Nat},i < vs.length -> ∃ b,vs.getD i Value.none = .ref b∧TK prog w h (kss.getD i []) b:=by
 induction e with
 |nil=>intro i hi;exact absurd hi (Nat.not_lt_zero _)
 | @cons ks b vs kss a _ _ ih =>
  intro i hi
  cases i with
  |zero=>exact ⟨b,rfl,a⟩
  |succ i=>simpa using ih (i:=i) (by simpa using hi)
theorem TsV.kat {h:Heap} {vs:List Value} {kss:List (List Int)} (e:TsV prog w h vs kss):∃ fs:List Value,KatTups h vs fs∧fs.length=vs.length ∧ ∀ v∈fs,∃ n t,v=Value.int n t:=by
 induction e with
 |nil=>exact ⟨[],KatTups.nil,rfl,fun v hv=>(Ae hv).elim⟩
 | @cons ks b vs kss a ne _ ih =>
  obtain ⟨fs,h1,h2,h3⟩:=ih
  obtain ⟨o,its,n,g1,g2,g3,g4⟩:=a
  have hv:=yP g4
  cases hq:its.toList with
  |nil =>
   rw [hq] at g4
   cases g4
   exact absurd rfl ne
  |cons f r =>
   have hf:its[0]? = some f:=by rw [← B7,hq];rfl
   refine ⟨f::fs,KatTups.cons g1 g2 g3 hf h1,by rw [AM,AM,h2],fun v hv' => ?_⟩
   rcases AL.mp hv' with q |q
   ·rw [q];exact hv f (by rw [hq];exact AD)
   ·exact h3 v q
theorem qEY {vs:List Value} {kss:List (List Int)} {Q:SortKind->Shared->Prop} (e:TsV prog w s.heap vs kss) (h2:2≤vs.length) (h:Q (tuples' true) s):wpAny (model prog w) A (keyKind' vs.toArray) Q E s:=by
 obtain ⟨fs,h1,h3,h4⟩:=e.kat
 refine kat_kind (T := .type "int") h1 (by omega) (fun v hv => ?_) (by decide) ?_
 ·obtain ⟨n,t,rfl⟩:=h4 v hv
  exact .now
 ·rw [show (Value.type "int" != Value.type "tuple")=true by decide];exact h
def srt (kss:List (List Int)):List (List Int):=kss.mergeSort fun a b => !lxb b a
theorem Qs (kss:List (List Int)):(srt kss).Perm kss:=List.mergeSort_perm _ _
theorem Jn (kss:List (List Int)):(srt kss).Pairwise fun a b=>lxb b a=false:=by
 have:=List.pairwise_mergeSort (le:=fun a b:List Int => !lxb b a) (fun a b c h1 h2=>by
  simp only [Bool.not_eq_eq_eq_not,Bool.not_true] at h1 h2 ⊢
  exact CC (O:=lxO) h1 h2) (fun a b=>by
  cases h:lxb b a with
  |false=>simp
  |true =>
   have:lxb a b=false:=B4 (O:=lxO) (a:=b) (b:=a) h
   simp [this]) kss
 exact this.imp fun h=>by simpa using h
theorem qF7:∀ {l m:List (List Int)},l.Pairwise (fun a b=>lxb b a=false)->m.Pairwise (fun a b=>lxb b a=false)->l.Perm m->l=m
 |[],m,_,_,p=>(List.Perm.eq_nil p.symm).symm
 |x::l,[],_,_,p=>by have:=p.length_eq;simp at this
 |x::l,y::m,hl,hm,p=>by
  have hx:x∈y::m:=p.mem_iff.mp AD
  have hy:y∈x::l:=p.mem_iff.mpr AD
  have e:x=y:=by
   have h1:lxb y x=false:=by
    rcases AL.mp hy with q |q
    ·rw [q];exact Z4 _
    ·exact (Bg.mp hl).1 y q
   have h2:lxb x y=false:=by
    rcases AL.mp hx with q |q
    ·rw [q];exact Z4 _
    ·exact (Bg.mp hm).1 x q
   exact Z6 _ _ h2 h1
  subst e
  rw [qF7 (Bg.mp hl).2 (Bg.mp hm).2 (List.Perm.cons_inv p)]
theorem qGM {h:Heap} {vs:List Value} {kss:List (List Int)} (e:TsV prog w h vs kss) {p:Array Nat} (B:PB vs.length p) (S:Srt (O:=lxO) (fun i=>kss.getD i []) p vs.length):p.toList.map (fun i=>kss.getD i [])=srt kss:=by
 have hsz:=B.size
 refine qF7 ?_ (Jn kss) ?_
 ·rw [List.pairwise_map,BD]
  intro i j hi hj hij
  have:=S i j (by omega) (by rw [Ar] at hj;omega)
  unfold kq at this
  rw [Al,Al,Aw (by simpa using hi),Aw (by simpa using hj)] at this
  exact this
 ·refine ((Array.perm_iff_toList_perm.mp B.perm).map _).trans (.trans ?_ (Qs kss).symm)
  have:(List.range vs.length).map (fun i=>kss.getD i [])=kss:=by
   rw [e.len]
   refine List.ext_getElem (by simp) fun i h1 h2 => ?_
   simp [Af,AS h2]
  show ((List.range vs.length).map fun i=>kss.getD i []).Perm kss
  rw [this]
end
end ET
end
section
namespace ET
open PySem PySem.Spec PyProof.Rows L2
open EX
section
variable {prog:Program} {w:World} {A:Around} {E:Value->Shared->Prop} {R:Result->Shared->Prop}
theorem qAe {h:Heap} {b:Addr} {o:Obj} (ho:h.get? b=some o) (hc:o.cls ≠ .type "tuple"):∀ ks,¬ TK prog w h ks b:=fun ks ⟨o',_,_,h1,h2,_⟩=>by
 rw [ho] at h1;cases h1;exact hc h2
end
end ET
end
section
namespace ET
open PySem PySem.Spec PyProof.Rows L2 PySem.W
open EX
section
variable {prog:Program} {w:World} {A:Around} {E:Value->Shared->Prop} {s:Shared}
theorem TsV.pick {h:Heap} {vs:List Value} {kss:List (List Int)} (e:TsV prog w h vs kss) (hne:∀ ks∈kss,ks≠[]):∀ (l:List Nat),(∀ i∈l,i < vs.length)->TsV prog w h (l.map fun i=>vs.getD i Value.none) (l.map fun i=>kss.getD i [])
 |[],_ => .nil
 |i::l,hl=>by
  have hi:=hl i AD
  obtain ⟨b,h1,h2⟩:=e.get hi
  rw [AK,AK,h1]
  refine .cons h2 ?_ (e.pick hne l fun j hj=>hl j (AG _ hj))
  have hk:i < kss.length:=by rw [← e.len];exact hi
  refine hne _ ?_
  rw [Af,AS hk]
  exact Bq hk
theorem TsV.ne {h:Heap} {vs:List Value} {kss:List (List Int)} (e:TsV prog w h vs kss):∀ ks∈kss,ks≠[]:=by
 induction e with
 |nil=>intro ks hk;cases hk
 |cons _ ne _ ih =>
  intro ks hk
  rcases AL.mp hk with q |q
  ·rw [q];exact ne
  ·exact ih ks q
theorem PB.mem {n:Nat} {p:Array Nat} (B:PB n p):∀ i∈p.toList,i < n:=fun i hi=>by
 have:=(Array.perm_iff_toList_perm.mp B.perm).mem_iff.mp hi
 simpa using this
theorem qHP {a:Addr} {vs:List Value} {kss:List (List Int)} {n:Nat} {P:PySem.Fin->Shared->Prop} (hu:A.units < cLine) (ho:s.heap.get? a=some (seqObj "list" vs.toArray n)) (V:TsV prog w s.heap vs kss) (h64:vs.length < 64)
  (h:∀ out:List Value,(∀ v∈out,v∈vs)->out.length=vs.length->TsV prog w s.heap out (srt kss)->P (.done (.ret .none)) { s with heap:=sortedHeap s.heap a vs out.toArray }) :
  wpAny (model prog w) A (Builtin.«list.sort» ⟨[.ref a],[]⟩) P E s:=by
 have hna:∀ b,(∃ ks,TK prog w s.heap ks b)->b≠a:=fun b ⟨ks,k⟩ z=>qAe ho (show Value.type "list" ≠ Value.type "tuple" by decide) ks (by rw [← z];exact k)
 refine qBP (O:=lxO) (key:=fun i=>kss.getD i []) (κ:=tuples' true) ho h64 (fun h2 h6 Q k q => ?_) (fun h6 i j C k hi hj q => ?_) fun p B S => ?_
 ·exact qEY (s:={ s with heap:=h6 }) (V.keep fun b o z ho=>k b o (hna b z) ho) h2 q
 ·obtain ⟨b,e1,k1⟩:=V.get hi
  obtain ⟨c,e2,k2⟩:=V.get hj
  rw [e1,e2]
  exact qGD (s:={ s with heap:=h6 }) (k1.keep fun o=>k b o (hna b ⟨_,k1⟩)) (k2.keep fun o=>k c o (hna c ⟨_,k2⟩)) q
 ·have:=V.pick V.ne p.toList B.mem
  rw [qGM V B S] at this
  refine h _ (fun v hv => ?_) (by rw [AB,Ar,B.size]) this
  obtain ⟨i,hi,rfl⟩:=AQ.mp hv
  have hi:=B.mem i hi
  rw [Af,AS hi]
  exact Bq hi
end
inductive TsL (K:W.Frag) (H:Hp):List V->List (List Int)->Prop
 |nil:TsL K H [] []
 |cons {a:Addr} {ks:List Int} {xs:List V} {kss:List (List Int)}:SqT K H a (ks.map V.int)->ks≠[]->TsL K H xs kss->TsL K H (.ref a::xs) (ks::kss)
section
variable {X:Cx} {pins:List (Addr×Obj)} {σ:L2.St} {H:Hp} {s:Shared}
theorem je {prog:Program} {w:World}:∀ {ks:List Int} {its:List Value},Vals (ks.map V.int) its->ItemsAre (intKind prog w) ks its
 |[],its,h=>by
  cases its with
  |nil=>exact .nil
  |cons u us=>cases h
 |k::ks,its,h=>by
  rw [AK] at h
  cases h with
  |cons r t =>
   obtain ⟨tk,rfl⟩:=(show ∃ t,_=Value.int k t from r)
   exact .cons (intKind_is prog w k tk) (je t)
theorem qGP (I:L2.Inv X pins σ H s) {a:Addr} {ks:List Int} (h:SqT X.K H a (ks.map V.int)):TK X.prog X.w s.heap ks a:=by
 obtain ⟨its,rv,⟨o,h1,h2,n,h3⟩,hz⟩:=I.tuple h
 exact ⟨o,its.toArray,n,h1,h2,h3,je rv⟩
theorem tsv_of (I:L2.Inv X pins σ H s) {xs:List V} {kss:List (List Int)} (h:TsL X.K H xs kss):∀ {its:List Value},Vals xs its->TsV X.prog X.w s.heap its kss:=by
 induction h with
 |nil=>intro its hv;cases hv;exact .nil
 | @cons a ks xs kss h1 ne _ ih =>
  intro its hv
  cases hv with
  |cons r t =>
   obtain rfl:=(show _=Value.ref a from r)
   exact .cons (qGP I h1) ne (ih t)
theorem TsL.mem {xs:List V} {kss:List (List Int)} (h:TsL X.K H xs kss):∀ x∈xs,∃ a ks,x = .ref a∧SqT X.K H a (ks.map V.int)∧ks≠[]:=by
 induction h with
 |nil=>intro x hx;cases hx
 |cons h1 ne _ ih =>
  intro x hx
  rcases AL.mp hx with q |q
  ·exact ⟨_,_,q,h1,ne⟩
  ·exact ih x q
theorem qCA {xs:List V} {its:List Value} (h:Vals xs its):∀ b,Value.ref b∈its->(∀ x∈xs,∃ a,x=V.ref a)->V.ref b∈xs:=by
 induction h with
 |nil=>intro b hb;cases hb
 | @cons x u xs us r t ih =>
  intro b hb hx
  obtain ⟨a,rfl⟩:=hx _ AD
  obtain rfl:=(show u=Value.ref a from r)
  rcases AL.mp hb with q |q
  ·cases q;exact AD
  ·exact AG _ (ih b q fun y hy=>hx y (AG _ hy))
theorem TsL.zip {xs:List V} {kss:List (List Int)} (h:TsL X.K H xs kss):∀ a,V.ref a∈xs -> ∃ ks,(V.ref a,ks)∈xs.zip kss∧SqT X.K H a (ks.map V.int):=by
 induction h with
 |nil=>intro a hx;cases hx
 | @cons b ks xs kss h1 ne _ ih =>
  intro a hx
  rw [Aj]
  rcases AL.mp hx with q |q
  ·cases q;exact ⟨ks,AD,h1⟩
  ·obtain ⟨ks,i1,i2⟩:=ih a q
   exact ⟨ks,AG _ i1,i2⟩
theorem qEL (I:L2.Inv X pins σ H s) {xs:List V} {kss0:List (List Int)} (T:TsL X.K H xs kss0) {its:List Value} (rv:Vals xs its) {h':Heap} (hk:∀ b o,s.heap.get? b=some o->h'.get? b=some o) :
  ∀ {out:List Value} {kss:List (List Int)},TsV X.prog X.w h' out kss->(∀ v∈out,v∈its) -> ∃ L:List (V×List Int),L.map (·.2)=kss∧Vals (L.map (·.1)) out ∧ ∀ q∈L,q∈xs.zip kss0:=by
 intro out kss V
 induction V with
 |nil=>intro _;exact ⟨[],rfl,.nil,fun y hy=>(Ae hy).elim⟩
 | @cons ks b vs kss k ne _ ih =>
  intro hin
  obtain ⟨L,h1,h2,h3⟩:=ih fun v hv=>hin v (AG _ hv)
  have hm:=qCA rv b (hin _ AD) fun x hx=>by obtain ⟨a,_,e,_⟩:=T.mem x hx;exact ⟨a,e⟩
  obtain ⟨ks2,hz,hs⟩:=T.zip b hm
  have k2:TK X.prog X.w h' ks2 b:=(qGP I hs).keep fun o=>hk b o
  have:=k.inj k2
  subst this
  exact ⟨(.ref b,ks)::L,by rw [AK,h1],.cons rfl h2,fun y hy=>(AL.mp hy).elim (fun z=>by rw [z];exact hz) (h3 y)⟩
end
section
variable {X:Cx} {e:Expr} {te:TE} {p p2 pos pos2:Pos}
def qG1 (K:W.Frag) (te:TE):TE:=fun σ H Q=>te σ H fun x H1 => ∃ a xs kss,x = .ref a∧(SqL K H1 a xs∨SqT K H1 a xs)∧TsL K H1 xs kss∧kss.length < 64 ∧ ∀ p (L:List (V×List Int)),H1 p=none->(∀ q∈L,q∈xs.zip kss)->L.map (·.2)=srt kss->Q (.ref p) (upd H1 p (.lst (L.map (·.1))))
theorem qDK (hu:X.A.units + 64 < cLine) (hg:Gl X "sorted") (hm:X.mg "sorted" = none) (he:PE X e te) (h1:starEach [e] X.env=(false,eval e X.env)::starEach [] X.env:=by rfl) :
  PE X (.Call (.Name "sorted" p) [e] [] pos) (qG1 X.K te):=by
 intro pins s σ H Q I h
 refine BS (Wx I hg hm PyProof.Rows.boot_sorted ?_ (by decide) (by decide))
 refine PyProof.Rows.callWith_builtin1 ?_ h1 rfl
 rw [h1]
 show wpAny _ _ (spliced ((false,eval e X.env)::[])) _ _ s
 refine Calls.spliced_cons (thn (he pins s σ H _ I h) fun u s1 ⟨x,H1,I1,r1,q1⟩=>Calls.spliced_nil ?_)
 obtain ⟨a,xs,kss,rfl,hq,T,h64,q⟩:=q1
 cases r1
 obtain ⟨its,rv,hcol⟩:∃ its,Vals xs its∧(its.length < 64 -> ∀ {E':Value->Shared->Prop} {Q':List Value->Shared->Prop},Q' its { s1 with heap:=(s1.heap.push (seqObj "list" #[] 0)).update s1.heap.objs.size (Obj.mapSeq (· ++ its.toArray)) }->wpAny (model X.prog X.w) X.A.in1 (collect (.ref a)) Q' E' s1):=by
  rcases hq with hq |hq
  ·obtain ⟨its,rv,ht,_⟩:=I1.list hq
   exact ⟨its,rv,fun h _ _ q=>collect_list ht.isList q (by rw [BU];omega)⟩
  ·obtain ⟨its,rv,ht,_⟩:=I1.tuple hq
   exact ⟨its,rv,fun h _ _ q=>JC ht (by rw [BU];omega) q⟩
 have V:=tsv_of I1 T rv
 have hl:=V.len
 refine qCa (O:=lxO) (key:=fun i=>kss.getD i []) (κ:=tuples' true) (s:=s1) (vs:=its) (hcol (by omega)) (by omega) (fun h2 A' E' h6 Q' k q'=>qEY (s:={ s1 with heap:=h6 }) (V.keep fun b o _ ho=>k b o ho) h2 q') (fun h6 i j C k hi hj q' => ?_) fun pp B S => ?_
 ·obtain ⟨b,e1,k1⟩:=V.get hi
  obtain ⟨c,e2,k2⟩:=V.get hj
  rw [e1,e2]
  exact qGD (s:={ s1 with heap:=h6 }) (k1.keep fun o=>k b o) (k2.keep fun o=>k c o) q'
 ·have V2:=V.pick V.ne pp.toList B.mem
  rw [qGM V B S] at V2
  have keep:∀ b o,s1.heap.get? b=some o->(sortedAll s1.heap its (List.toArray (pp.toList.map fun i=>its.getD i Value.none))).get? b=some o:=fun b o hb=>sortedAll_old hb
  obtain ⟨L,lk,rv2,hin2⟩:=qEL I1 T rv keep (V2.keep fun b o _ ho=>keep b o ho) fun v hv=>by
   obtain ⟨i,hi,rfl⟩:=AQ.mp hv
   have hi:=B.mem i hi
   rw [Af,AS hi]
   exact Bq hi
  obtain ⟨e',he'⟩:=sortedAll_at s1.heap its (List.toArray (pp.toList.map fun i=>its.getD i Value.none))
  have hlen:(L.map (·.1)).length≤sizeLine:=by rw [rv2.length,AB,Ar,B.size,BU];omega
  refine ⟨.ref (s1.heap.objs.size + 1),_,I1.laid (t':=s1.toks) (o := .lst (L.map (·.1))) keep (Nat.le_succ _) ⟨hlen,_,e',rv2,he'⟩,rfl,q _ L (I1.hok.fresh (Nat.le_succ _)) hin2 lk⟩
end
open EX
end ET
namespace EV
open PySem PySem.Spec PyProof.Rows L2 EX ET
def Wo:PV->Option (List Int)
 | .tup (p::l)=>QC yG (p::l)
 |_=>none
def zC (ks:List Int):PV := .tup (ks.map PV.int)
section
variable {K:W.Frag} {H:Hp} {b:Bz}
theorem jG {p:PV} {v:V} {ks:List Int} (r:RV K H b p v) (h:Wo p=some ks):∃ a,v = .ref a∧SqT K H a (ks.map V.int)∧ks≠[]∧RV K H b (zC ks) v:=by
 unfold Wo at h
 split at h
 ·rename_i p l
  have r':=r
  unfold RV at r
  obtain ⟨a,xs,rfl,h2,h3⟩:=r
  have e:=Z3 h3 h
  subst e
  refine ⟨a,rfl,h2.sq,?_,?_⟩
  ·intro z
   subst z
   have:=h3.length
   simp at this
  ·unfold zC RV
   exact ⟨a,ks.map V.int,rfl,h2,Wq ks⟩
 ·cases h
theorem qAR:∀ {l:List PV} {xs:List V} {kss:List (List Int)},RVs K H b l xs->QC Wo l=some kss->TsL K H xs kss ∧ ∀ q∈xs.zip kss,RV K H b (zC q.2) q.1
 |[],xs,kss,r,h=>by
  unfold RVs at r;subst r
  cases h
  exact ⟨.nil,fun q hq=>(Ae hq).elim⟩
 |p::l,xs,kss,r,h=>by
  unfold RVs at r
  obtain ⟨x,t,rfl,h2,h3⟩:=r
  unfold QC at h
  cases e1:Wo p with
  |none=>rw [e1] at h;cases h
  |some ks =>
   rw [e1] at h
   dsimp only at h
   cases e2:QC Wo l with
   |none=>rw [e2] at h;cases h
   |some kss' =>
    rw [e2] at h
    cases h
    obtain ⟨a,rfl,h4,h5,h6⟩:=jG h2 e1
    obtain ⟨i1,i2⟩:=qAR h3 e2
    refine ⟨.cons h4 h5 i1,fun q hq => ?_⟩
    rw [Aj] at hq
    rcases AL.mp hq with z |z
    ·rw [z];exact h6
    ·exact i2 q z
theorem YV {xs:List V} {kss:List (List Int)} (hr:∀ q∈xs.zip kss,RV K H b (zC q.2) q.1):∀ {L:List (V×List Int)},(∀ q∈L,q∈xs.zip kss)->RVs K H b ((L.map (·.2)).map zC) (L.map (·.1))
 |[],_=>RVs.nil
 |q::L,h=>by
  rw [AK,AK,AK]
  exact RVs.cons (hr q (h q AD)) (YV hr fun y hy=>h y (AG _ hy))
end
section
variable {X:Cx} {E:XK} {e:Expr} {f:FE} {p p2 pos pos2:Pos}
def zt:PV->qB->Rs PV:=fun q st=>match w5 st q with
 |some l=>match QC Wo l with
  |some kss=>if kss.length < 64 then .ok (.lst ((srt kss).map zC)) st else .no
  |none => .no
 |none => .no
def zj (f:FE):FE:=fun r st=>(f r st).bind zt
theorem yV (hu:X.A.units + 64 < cLine) (hm:X.mg "sorted" = none) (h:VE X E e f) (hg:Gl X "sorted" := by rfl) (h1:starEach [e] X.env=(false,eval e X.env)::starEach [] X.env:=by rfl) :
  VE X E (.Call (.Name "sorted" p) [e] [] pos) (zj f) :=
 PE.imp (qDK hu hg hm h h1) fun s H Q ⟨b,r,st,S,R,P⟩=>⟨b,r,st,S,R,PostE.bind P fun q s1 u H1 b1 e1 S1 r1 P1=>by
  unfold zt at P1
  split at P1
  ·rename_i l el
   split at P1
   ·rename_i kss ek
    split at P1
    ·rename_i hn
     obtain ⟨x,xs,rfl,h2,h3⟩:=Z7 S1 r1 el
     obtain ⟨T,hr⟩:=qAR h3 ek
     exact ⟨x,xs,kss,rfl,h2,T,hn,fun p L hp hin hL=>PostN.lay (PostN.of (r := .ok ((srt kss).map zC) s1) P1) S1 (by rw [← hL];exact YV hr hin) hp⟩
    ·exact P1.elim
   ·exact P1.elim
  ·exact P1.elim⟩
end
end EV
end
section
namespace EJ
open PySem PySem.Spec PyProof.Rows L2 PySem.W EX ET
end EJ
namespace EV
open PySem PySem.Spec PyProof.Rows L2 EX ET EJ
end EV
end
section
namespace EX
open PySem PySem.Spec PyProof.Rows L2 PySem.W
section
variable {X:Cx} {a b:Expr} {rest:List Expr} {ta tb:TE} {pos:Pos}
def qJI (K:W.Frag) (ta tb:TE):TE:=fun σ H Q=>ta σ H fun x H1 => ∃ k,qDX K x H1 k∧if k=true then Q x H1 else tb σ H1 Q
theorem qHt (ha:PE X a ta) (hb:PE X (.BoolOp .Or (b::rest) pos) tb):PE X (.BoolOp .Or (a::b::rest) pos) (qJI X.K ta tb):=by
 intro pins s σ H Q I h
 refine BoolOp_or (thn (ha pins s σ H _ I h) fun v s1 ⟨x,H1,I1,r1,q1⟩ => ?_)
 obtain ⟨k,ht,q1⟩:=q1
 refine thn (qCs pins s1 σ H1 x v (fun k H'=>if k=true then Q x H' else tb σ H' Q) I1 r1 ⟨k,ht,q1⟩) fun k s2 ⟨H2,I2,q2⟩ => ?_
 cases k with
 |false=>exact hb pins s2 σ H2 Q I2 q2
 |true=>exact ⟨x,H2,I2,r1,q2⟩
end
end EX
namespace EX
open PySem PySem.Spec PyProof.Rows L2 PySem.W
end EX
namespace EV
open PySem PySem.Spec PyProof.Rows L2 EX
end EV
end
section
namespace EX
open PySem PySem.Spec PyProof.Rows L2 PySem.W
inductive LexO (op:CmpOp) (z:Nat->Nat->Bool) (A:Around) (s:Shared) (r:Bool):List Value->List Value->Prop where
 |nl {ws}:r=z 0 ws.length->LexO op z A s r [] ws
 |nr {vs}:r=z vs.length 0->LexO op z A s r vs []
 |eq {v vs w ws}:SeqAt.EqAt A s v w true->LexO op z A s r vs ws->LexO op z A s r (v::vs) (w::ws)
 |ne {v vs w ws}:SeqAt.EqAt A s v w false->(∀ (prog:Program) (wd:World) (E:Value->Shared->Prop) (Q:Value->Shared->Prop),Q (.bool r) s->wpAny (model prog wd) A (richCompare op v w) Q E s)->LexO op z A s r (v::vs) (w::ws)
def J1 (z:Nat->Nat->Bool) (o:Int->Int->Bool):List Int->List Int->Bool
 |[],m=>z 0 m.length
 |a::l,[]=>z (l.length + 1) 0
 |a::l,b::m=>if a=b then J1 z o l m else o a b
theorem ZT {op:CmpOp} {z:Nat->Nat->Bool} {o:Int->Int->Bool} {A:Around} {s:Shared} (hop:∀ (i j:Int) (t u:Tok) (prog:Program) (w:World) (E:Value->Shared->Prop) (Q:Value->Shared->Prop),Q (.bool (o i j)) s->wpAny (model prog w) A (richCompare op (.int i t) (.int j u)) Q E s) :
  ∀ {ks ms:List Int} {its its2:List Value},Vals (ks.map V.int) its->Vals (ms.map V.int) its2->LexO op z A s (J1 z o ks ms) its its2
 |[],ms,its,its2,h1,h2=>by
  cases h1
  refine .nl ?_
  rw [← h2.length,AB];rfl
 |k::ks,[],its,its2,h1,h2=>by
  cases h2
  refine .nr ?_
  rw [← h1.length,AB];rfl
 |k::ks,m::ms,its,its2,h1,h2=>by
  rw [AK] at h1 h2
  cases h1 with
  |cons r1 t1 =>
   cases h2 with
   |cons r2 t2 =>
    obtain ⟨t,rfl⟩:=(show ∃ t,_=Value.int k t from r1)
    obtain ⟨u,rfl⟩:=(show ∃ t,_=Value.int m t from r2)
    have he:=SeqAt.EqAt.int_int (A:=A) (s:=s) k t m u
    unfold J1
    by_cases q:k=m
    ·rw [AC q];rw [A7.mpr q] at he;exact .eq he (ZT hop t1 t2)
    ·rw [AH q];rw [BM.mpr q] at he;exact .ne he (hop k m t u)
def TI (h:Heap) (ks:List Int) (a:Addr):Prop := ∃ (o:Obj) (its:List Value) (n:Nat),h.get? a=some o∧o.cls = .type "tuple" ∧ o.data = .seq its.toArray n∧Vals (ks.map V.int) its
theorem TI.keep {h h':Heap} {ks:List Int} {a:Addr} (t:TI h ks a) (k:∀ o,h.get? a=some o->h'.get? a=some o):TI h' ks a:=by
 obtain ⟨o,its,n,h1,h2⟩:=t
 exact ⟨o,its,n,k o h1,h2⟩
section
open PySem.SeqAt
open PySem.AutoSeq1 (wpAny_loadPart')
open PySem.MeetsSeq PySem.MeetsSeq2 PySem.MeetsSeq3
theorem jV (l b:Addr) (items items2:Array Value) (n n2:Nat) (dd dd2:Option Addr) (sl sl2:Array (Option Value)) (r:Bool) :
  Meets (Builtin.«tuple.__gt__» ⟨[.ref l,.ref b],[]⟩)
   (fun A R s=>s.heap.get? l=some { cls := .type "tuple",dict:=dd,data := .seq items n,slots:=sl }∧s.heap.get? b=some { cls := .type "tuple",dict:=dd2,data := .seq items2 n2,slots:=sl2 }∧LexO .Gt (fun i j=>decide (i > j)) A.in1 s r items.toList items2.toList ∧
    R (.ok (.ret (.bool r))) s) :=
 .of_wp fun prog w A R s h=>by
  obtain ⟨hp,g,d,tk,os⟩:=s;obtain ⟨hl,hb,hG,h⟩:=h
  have f2:=AutoSeq1.sub_tuple_tuple
  wp_walk using wpAny_loadPart' hl,wpAny_loadPart' hb,wpAny_forIn_list _ (fun rest b s'=>b.1=none∧s'=⟨hp,g,d,tk,os⟩ ∧ ∃ (vs ws:List Value),rest=vs.zip ws∧LexO .Gt (fun i j=>decide (i > j)) A.in1 ⟨hp,g,d,tk,os⟩ r vs ws ∧
   vs.length + items2.size=ws.length + items.size) _
  case turn =>
   rintro ⟨y,x⟩ rest b s' ⟨hb',rfl,vs,ws,hz,hG',hlen⟩
   cases hG' with
   |nl _=>cases hz
   |nr _=>rw [List.zip_nil_right] at hz;cases hz
   |eq he hG2 =>
    rw [Aj] at hz
    injection hz with hyx hrest
    injection hyx with hy hx
    subst hy hx
    simp only [AM] at hlen
    refine AA (he prog w _ _ ?_)
    wp_walk
    exact ⟨rfl,rfl,_,_,hrest,hG2,by omega⟩
   |ne he hc =>
    rw [Aj] at hz
    injection hz with hyx hrest
    injection hyx with hy hx
    subst hy hx
    refine AA (he prog w _ _ ?_)
    have hri:=hc prog w
    wp_walk using hri
    exact ⟨_,rfl,by simpa using h⟩
  case fin =>
   rintro ⟨b1,b2⟩ s' ⟨hb',rfl,vs,ws,hz,hG',hlen⟩
   simp only at hb'
   subst hb'
   have hv:r=decide (items.size > items2.size):=by
    cases hG' with
    |nl hr=>rw [hr];simp only [BC] at hlen ⊢;exact CD.mpr (by omega)
    |nr hr=>rw [hr];simp only [BC] at hlen ⊢;exact CD.mpr (by omega)
    |eq he hG2=>rw [Aj] at hz;cases hz
    |ne he hc=>rw [Aj] at hz;cases hz
   rw [hv] at h
   wp_walk
   exact ⟨_,rfl,by simpa [Builtin.Tuple.tupleCompareSizes] using h⟩
  case h =>
   exact ⟨rfl,rfl,items.toList,items2.toList,rfl,hG,by simp;omega⟩
theorem jI (l b:Addr) (items items2:Array Value) (n n2:Nat) (dd dd2:Option Addr) (sl sl2:Array (Option Value)) (r:Bool) :
  Meets (Builtin.«tuple.__le__» ⟨[.ref l,.ref b],[]⟩)
   (fun A R s=>s.heap.get? l=some { cls := .type "tuple",dict:=dd,data := .seq items n,slots:=sl }∧s.heap.get? b=some { cls := .type "tuple",dict:=dd2,data := .seq items2 n2,slots:=sl2 }∧LexO .LtE (fun i j=>decide (i≤j)) A.in1 s r items.toList items2.toList ∧
    R (.ok (.ret (.bool r))) s) :=
 .of_wp fun prog w A R s h=>by
  obtain ⟨hp,g,d,tk,os⟩:=s;obtain ⟨hl,hb,hG,h⟩:=h
  have f2:=AutoSeq1.sub_tuple_tuple
  wp_walk using wpAny_loadPart' hl,wpAny_loadPart' hb,wpAny_forIn_list _ (fun rest b s'=>b.1=none∧s'=⟨hp,g,d,tk,os⟩ ∧ ∃ (vs ws:List Value),rest=vs.zip ws∧LexO .LtE (fun i j=>decide (i≤j)) A.in1 ⟨hp,g,d,tk,os⟩ r vs ws ∧
   vs.length + items2.size=ws.length + items.size) _
  case turn =>
   rintro ⟨y,x⟩ rest b s' ⟨hb',rfl,vs,ws,hz,hG',hlen⟩
   cases hG' with
   |nl _=>cases hz
   |nr _=>rw [List.zip_nil_right] at hz;cases hz
   |eq he hG2 =>
    rw [Aj] at hz
    injection hz with hyx hrest
    injection hyx with hy hx
    subst hy hx
    simp only [AM] at hlen
    refine AA (he prog w _ _ ?_)
    wp_walk
    exact ⟨rfl,rfl,_,_,hrest,hG2,by omega⟩
   |ne he hc =>
    rw [Aj] at hz
    injection hz with hyx hrest
    injection hyx with hy hx
    subst hy hx
    refine AA (he prog w _ _ ?_)
    have hri:=hc prog w
    wp_walk using hri
    exact ⟨_,rfl,by simpa using h⟩
  case fin =>
   rintro ⟨b1,b2⟩ s' ⟨hb',rfl,vs,ws,hz,hG',hlen⟩
   simp only at hb'
   subst hb'
   have hv:r=decide (items.size≤items2.size):=by
    cases hG' with
    |nl hr=>rw [hr];simp only [BC] at hlen ⊢;exact CD.mpr (by omega)
    |nr hr=>rw [hr];simp only [BC] at hlen ⊢;exact CD.mpr (by omega)
    |eq he hG2=>rw [Aj] at hz;cases hz
    |ne he hc=>rw [Aj] at hz;cases hz
   rw [hv] at h
   wp_walk
   exact ⟨_,rfl,by simpa [Builtin.Tuple.tupleCompareSizes] using h⟩
  case h =>
   exact ⟨rfl,rfl,items.toList,items2.toList,rfl,hG,by simp;omega⟩
theorem qID {a b:Addr} {ks ms:List Int} {s:Shared} {A:Around} {prog:Program} {w:World} {E:Value->Shared->Prop} {Q:Value->Shared->Prop} (t1:TI s.heap ks a) (t2:TI s.heap ms b) (hu:A.units + 8 < cLine) (h:Q (.bool (J1 (fun i j=>decide (i > j)) (fun i j=>decide (i > j)) ks ms)) s):wpAny (model prog w) A (richCompare .Gt (.ref a) (.ref b)) Q E s:=by
 obtain ⟨⟨cls,dd,data,sl⟩,its,n1,ho,hc,hda,r1⟩:=t1
 obtain ⟨⟨cls2,dd2,data2,sl2⟩,its2,n2,ho2,hc2,hda2,r2⟩:=t2
 simp only at hc hda hc2 hda2
 subst hc hda hc2 hda2
 have G:=ZT (op := .Gt) (z:=fun i j=>decide (i > j)) (o:=fun i j=>decide (i > j)) (A:=A.in1) (s:=s) (fun i j t u prog w E Q h=>richCompare_gives (op := .Gt) (typeIs_int _ _ t) (typeIs_int _ _ u) F.slot_int_gt F.entry_int_gt (F.args_int_gt_2 _ _) (gives_int_gt _ _ t u) (fun x=>nomatch x) h) r1 r2
 exact richCompare_meets_room (op := .Gt) ⟨_,ho,rfl⟩ ⟨_,ho2,rfl⟩ PySem.F.slot_tuple_gt PySem.F.entry_tuple_gt (PySem.F.args_tuple_gt_2 _ _) (jV _ _ its.toArray its2.toArray n1 n2 dd dd2 sl sl2 _)
  ⟨ho,ho2,by simpa using G,show Value.bool _≠Value.notImplemented∧Q (.bool _) s from ⟨(fun x=>nomatch x),h⟩⟩ (by omega)
theorem qIV {a b:Addr} {ks ms:List Int} {s:Shared} {A:Around} {prog:Program} {w:World} {E:Value->Shared->Prop} {Q:Value->Shared->Prop} (t1:TI s.heap ks a) (t2:TI s.heap ms b) (hu:A.units + 8 < cLine) (h:Q (.bool (J1 (fun i j=>decide (i≤j)) (fun i j=>decide (i≤j)) ks ms)) s):wpAny (model prog w) A (richCompare .LtE (.ref a) (.ref b)) Q E s:=by
 obtain ⟨⟨cls,dd,data,sl⟩,its,n1,ho,hc,hda,r1⟩:=t1
 obtain ⟨⟨cls2,dd2,data2,sl2⟩,its2,n2,ho2,hc2,hda2,r2⟩:=t2
 simp only at hc hda hc2 hda2
 subst hc hda hc2 hda2
 have G:=ZT (op := .LtE) (z:=fun i j=>decide (i≤j)) (o:=fun i j=>decide (i≤j)) (A:=A.in1) (s:=s) (fun i j t u prog w E Q h=>richCompare_gives (op := .LtE) (typeIs_int _ _ t) (typeIs_int _ _ u) F.slot_int_le F.entry_int_le (F.args_int_le_2 _ _) (gives_int_le _ _ t u) (fun x=>nomatch x) h) r1 r2
 exact richCompare_meets_room (op := .LtE) ⟨_,ho,rfl⟩ ⟨_,ho2,rfl⟩ PySem.F.slot_tuple_le PySem.F.entry_tuple_le (PySem.F.args_tuple_le_2 _ _) (jI _ _ its.toArray its2.toArray n1 n2 dd dd2 sl sl2 _)
  ⟨ho,ho2,by simpa using G,show Value.bool _≠Value.notImplemented∧Q (.bool _) s from ⟨(fun x=>nomatch x),h⟩⟩ (by omega)
end
section
variable {prog:Program} {w:World} {A:Around} {R:Result->Shared->Prop} {I:Addr} {fp wr:List Addr} {n:Nat} {P:Nat->Value->Prop} {St:Nat->Heap->Prop}
def Kp (wr:List Addr) (S:Addr) (h h':Heap):Prop := ∀ b o,b ∉ wr->b≠S->h.get? b=some o->h'.get? b=some o
theorem Kp.tr {wr:List Addr} {S:Addr} {h h' h2:Heap} (x:Kp wr S h h') (y:Kp wr S h' h2):Kp wr S h h2:=fun b o e1 e2 e=>y b o e1 e2 (x b o e1 e2 e)
theorem qFp (W:Walks prog w A.in1 I fp wr n P St) (bt:Nat->Nat->Bool) {S:Addr} (hSf:S ∉ fp) {h0:Heap}
  (hcmp:∀ i j vi vj (s:Shared) (Q:Value->Shared->Prop) (E:Value->Shared->Prop),Kp wr S h0 s.heap->P i vi->P j vj->Q (.bool (bt i j)) s->wpAny (model prog w) A.in1 (richCompare .Gt vi vj) Q E s) :
  ∀ (k j:Nat) (s:Shared) (vb:Value) (c:Nat),n - (j + 1)=k->j + 1≤n->Kp wr S h0 s.heap->St (j + 1) s.heap->P (argBest bt j) vb->s.heap.get? S=some { cls := .type "list",dict:=none,data := .seq #[vb,vb] c,slots := #[] } ->
   (∀ v h' tk,P (argBest bt (n - 1)) v->Kp wr S s.heap h'->R (.ok (.ret v)) { s with heap:=h',toks:=tk })->codeAny (model prog w) A (.builtin "max.loop" ⟨[.ref I,.none,.ref S],[]⟩) R s:=by
 have hSw:S ∉ wr:=fun h=>hSf (W.sub _ h)
 have nm:(toString "max" ++ toString ".loop":String) = "max.loop" := by decide
 intro k
 induction k with
 |zero =>
  intro j s vb c hk hj hK hst hP hS hR
  have e1:n=j + 1:=by omega
  subst e1
  refine BV F.entry_max_loop ?_
  rw [Bo Be _]
  show wpAny _ A.in1 (seqItems? (.ref S) >>= _) _ _ s
  refine AA (Bp hS rfl ?_)
  show wpAny _ A.in1 (tryCatch (pyNext (.ref I)) _ >>= _) _ _ s
  refine AA (wpAny_tryCatch (W.done s _ _ hst fun h2 t2 k2 => ?_))
  show wpAny _ A.in1 (updateSeq S (fun _ => #[]) >>= _) _ _ _
  exact AA (wpAny_updateSeq (k2 S _ hSw hS) rfl (AA (wpAny_letGo (AE (hR vb _ t2 hP fun b o n1 n2 e=>(AZ _ _ (Ne.symm n2)).trans (k2 b o n1 e))))))
 |succ k ih =>
  intro j s vb c hk hj hK hst hP hS hR
  have e1:j + 1 < n:=by omega
  refine BV F.entry_max_loop ?_
  rw [Bo Be _]
  show wpAny _ A.in1 (seqItems? (.ref S) >>= _) _ _ s
  refine AA (Bp hS rfl ?_)
  show wpAny _ A.in1 (tryCatch (pyNext (.ref I)) _ >>= _) _ _ s
  refine AA (wpAny_tryCatch (W.item (j + 1) s _ _ e1 hst fun v h2 t2 hv st2 k2 => ?_))
  have S2:=k2 S _ hSw hS
  have K2:Kp wr S s.heap h2:=fun b o n1 _ e=>k2 b o n1 e
  show wpAny _ A.in1 (tryCatch (holding [v,v] (richCompare .Gt v vb >>= _)) _ >>= _) _ _ _
  refine AA (wpAny_tryCatch (As (AA (hcmp (j + 1) (argBest bt j) v vb _ _ _ (hK.tr K2) hv hP ?_))))
  refine AA (As (Bm ?_))
  refine AA (wpAny_letGo (AE ?_))
  cases q:bt (j + 1) (argBest bt j) with
  |true =>
   simp only [CI]
   refine AA (wpAny_updateSeq S2 rfl (AA (wpAny_letGo ?_)))
   rw [nm]
   have K3:Kp wr S s.heap (h2.update S (Obj.mapSeq fun _ => #[v,v])):=fun b o n1 n2 e=>(AZ _ _ (Ne.symm n2)).trans (k2 b o n1 e)
   exact AE ⟨CT Be _,ih (j + 1) _ v _ (by omega) e1 (hK.tr K3) (W.frame _ _ _ st2 fun b hb o e=>(AZ _ _ (fun z:S=b=>hSf (by rw [z];exact hb))).trans e) (by simp only [argBest,q,CI];exact hv) (A4 _ S2 rfl)
    fun v' h3 t3 p3 k3=>hR v' h3 t3 p3 (K3.tr k3)⟩
  |false =>
   simp only [BF,BY]
   refine AA (wpAny_letGo ?_)
   rw [nm]
   exact AE ⟨CT Be _,ih (j + 1) _ vb c (by omega) e1 (hK.tr K2) st2 (by simp only [argBest,q,BF,BY];exact hP) S2 fun v' h3 t3 p3 k3=>hR v' h3 t3 p3 (K2.tr k3)⟩
theorem qEa (W:Walks prog w A.in1 I fp wr n P St) (bt:Nat->Nat->Bool) {S:Addr} (hSf:S ∉ fp) (hn:0 < n) {s:Shared} {c:Nat}
  (hcmp:∀ i j vi vj (s':Shared) (Q:Value->Shared->Prop) (E:Value->Shared->Prop),Kp wr S s.heap s'.heap->P i vi->P j vj->Q (.bool (bt i j)) s'->wpAny (model prog w) A.in1 (richCompare .Gt vi vj) Q E s')
  (hst:St 0 s.heap) (hS:s.heap.get? S=some { cls := .type "list",dict:=none,data := .seq #[] c,slots := #[] })
  (hR:∀ v h' tk,P (argBest bt (n - 1)) v->Kp wr S s.heap h'->R (.ok (.ret v)) { s with heap:=h',toks:=tk }):codeAny (model prog w) A (.builtin "max.loop" ⟨[.ref I,.none,.ref S],[]⟩) R s:=by
 have hSw:S ∉ wr:=fun h=>hSf (W.sub _ h)
 have nm:(toString "max" ++ toString ".loop":String) = "max.loop" := by decide
 refine BV F.entry_max_loop ?_
 rw [Bo Be _]
 show wpAny _ A.in1 (seqItems? (.ref S) >>= _) _ _ s
 refine AA (Bp hS rfl ?_)
 show wpAny _ A.in1 (tryCatch (pyNext (.ref I)) _ >>= _) _ _ s
 refine AA (wpAny_tryCatch (W.item 0 s _ _ hn hst fun v h2 t2 hv st2 k2 => ?_))
 show wpAny _ A.in1 (updateSeq S (fun _ => #[v,v]) >>= _) _ _ _
 refine AA (wpAny_updateSeq (k2 S _ hSw hS) rfl ?_)
 rw [nm]
 have K3:Kp wr S s.heap (h2.update S (Obj.mapSeq fun _ => #[v,v])):=fun b o n1 n2 e=>(AZ _ _ (Ne.symm n2)).trans (k2 b o n1 e)
 exact AE ⟨CT Be _,qFp W bt hSf hcmp _ 0 _ v _ rfl hn K3 (W.frame _ _ _ st2 fun b hb o e=>(AZ _ _ (fun z:S=b=>hSf (by rw [z];exact hb))).trans e) hv (A4 _ (k2 S _ hSw hS) rfl) fun v' h3 t3 p3 k3=>hR v' h3 t3 p3 (K3.tr k3)⟩
end
section
variable {prog:Program} {w:World} {A:Around} {E:Value->Shared->Prop} {s:Shared}
theorem qEi {x:Value} {Q:Value->Shared->Prop}
  (h:wpAny (model prog w) A.in1 (pyIter x) (fun it s₂ => ∃ I fp wr n P St bt,it = .ref I∧Walks prog w A.in1 I fp wr n P St∧St 0 s₂.heap∧(∀ b∈fp,b < s₂.heap.objs.size)∧0 < n ∧
   (∀ i j vi vj (s':Shared) (Q:Value->Shared->Prop) (E:Value->Shared->Prop),(∀ b o,b ∉ wr->s₂.heap.get? b=some o->s'.heap.get? b=some o)->P i vi->P j vj->Q (.bool (bt i j)) s'->wpAny (model prog w) A.in1 (richCompare .Gt vi vj) Q E s') ∧
   ∀ v h' tk,P (argBest bt (n - 1)) v->(∀ b o,b ∉ wr->s₂.heap.get? b=some o->h'.get? b=some o)->Q v { s₂ with heap:=h',toks:=tk }) E s):wpAny (model prog w) A (call (.builtin "max") [x]) Q E s:=by
 have nm:(toString "max" ++ toString ".loop":String) = "max.loop" := by decide
 refine call_function_tree F.kind_max F.plain_max F.entry_max (F.args_max1 _) ?_
 show wpAny _ A.in1 (Builtin.Builtins.bindParams "max" ["key","default"] 0 ⟨[],[]⟩ >>= _) _ _ s
 refine AA (B2 (show Builtin.Builtins.bindParams "max" ["key","default"] 0 ⟨[],[]⟩=pure [none,none] from rfl) (AA (AE ?_)))
 refine AA (BP h (fun it s₂ h₂ => ?_) fun _ _ e=>e)
 obtain ⟨I,fp,wr,n,P,St,bt,rfl,W,hst,hfp,hn,hc,hQ⟩:=h₂
 refine AA (Au ?_)
 have old:∀ b o,s₂.heap.get? b=some o->b≠s₂.heap.objs.size:=fun b o e=>AU (AJ e)
 rw [nm]
 exact AE ⟨CT Be _,qEa W bt (fun hm=>Bk _ (hfp _ hm)) hn (fun i j vi vj s' Q E k p1 p2 q=>hc i j vi vj s' Q E (fun b o n1 e=>k b o n1 (old b o e) (AF _ e)) p1 p2 q)
  (W.frame _ _ _ hst fun b _ o e=>AF _ e) (AT _ rfl) fun v h' tk p k=>hQ v h' tk p fun b o n1 e=>k b o n1 (old b o e) (AF _ e)⟩
end
section
variable {X:Cx}
def gtL (a b:List Int):Bool:=J1 (fun i j=>decide (i > j)) (fun i j=>decide (i > j)) a b
def leL (a b:List Int):Bool:=J1 (fun i j=>decide (i≤j)) (fun i j=>decide (i≤j)) a b
def zz (kss:List (List Int)):Nat:=argBest (fun i j=>gtL (kss.getD i []) (kss.getD j [])) (kss.length - 1)
theorem yA (bt:Nat->Nat->Bool):∀ n,argBest bt n≤n
 |0=>AI _
 |n + 1=>by
  unfold argBest
  split
  ·exact AI _
  ·exact Nat.le_succ_of_le (yA bt n)
theorem qEJ {pins:List (Addr×Obj)} {σ:L2.St} {H:Hp} {s:Shared} (I:L2.Inv X pins σ H s) {a:Addr} {ks:List Int} (h:SqT X.K H a (ks.map V.int)):TI s.heap ks a:=by
 obtain ⟨its,rv,⟨o,h1,h2,n,h3⟩,hz⟩:=I.tuple h
 exact ⟨o,its,n,h1,h2,h3,rv⟩
theorem qHU {pins:List (Addr×Obj)} {σ:L2.St} {H:Hp} {s:Shared} (I:L2.Inv X pins σ H s) {xs:List V} {kss:List (List Int)} (T:ET.TsL X.K H xs kss):∀ {its:List Value},Vals xs its -> ∀ (i:Nat) (v:Value),its[i]? = some v -> ∃ a,v = .ref a∧xs.getD i .non = .ref a∧TI s.heap (kss.getD i []) a:=by
 induction T with
 |nil=>intro its rv i v e;cases rv;simp at e
 | @cons a ks xs kss h1 ne _ ih =>
  intro its rv i v e
  cases rv with
  |cons r t =>
   cases i with
   |zero =>
    obtain rfl:=(show _=Value.ref a from r)
    simp only [List.getElem?_cons_zero,Option.some.injEq] at e
    exact ⟨a,e.symm,rfl,qEJ I h1⟩
   |succ i=>exact ih t i v (by simpa using e)
theorem qBs (hu:X.A.units + 64 < cLine):wz X (.builtin "max") (fun xs H Q => ∃ (p:Addr) (vs:List V) (kss:List (List Int)),xs=[.ref p]∧SqL X.K H p vs∧ET.TsL X.K H vs kss∧kss≠[]∧Q (vs.getD (zz kss) .non) H):=by
 intro pins s σ H xs us Q I r h
 obtain ⟨p,vs,kss,rfl,hq,T,hne,q⟩:=h
 obtain ⟨u,rfl,rx⟩:=ZA r
 cases rx
 obtain ⟨its,r',pl,hz⟩:=I.list hq
 have V:=ET.tsv_of I T r'
 have hl:=V.len
 have hpos:0 < kss.length:=CM.mpr hne
 have hsz:its.toArray.size=kss.length:=by rw [AN,hl]
 have hat:=fun i v (e:its.toArray[i]? = some v)=>qHU I T r' i v (by simpa using e)
 refine qEi (Zd I pl fun W st fp k=>⟨_,_,_,_,_,_,fun i j=>gtL (kss.getD i []) (kss.getD j []),rfl,W,st,fp,by rw [hsz];exact hpos,fun i j vi vj s' Q' E' kk p1 p2 q' => ?_,fun v h' tk hv hk => ?_⟩)
 ·obtain ⟨a1,rfl,_,t1⟩:=hat i vi p1
  obtain ⟨a2,rfl,_,t2⟩:=hat j vj p2
  exact qID (t1.keep fun o e=>k s'.heap kk a1 o e) (t2.keep fun o e=>k s'.heap kk a2 o e) (by show X.A.units + 1 + 8 < cLine;omega) q'
 ·rw [hsz] at hv
  obtain ⟨a1,rfl,e1,t1⟩:=hat _ v hv
  have q:Q (vs.getD (argBest (fun i j=>gtL (kss.getD i []) (kss.getD j [])) (kss.length - 1)) .non) H:=q
  rw [e1] at q
  exact ⟨.ref a1,H,I.kept (t':=tk) (k h' hk),rfl,q⟩
def qIz (K:W.Frag):R2:=fun u v H Q => ∃ a b ks ms,u = .ref a∧v = .ref b∧SqT K H a (ks.map V.int)∧SqT K H b (ms.map V.int)∧Q (.bl (leL ks ms)) H
theorem qG6 (hu:X.A.units + 64 < cLine):OpR X (compareOp .LtE) (qIz X.K):=by
 intro pins s σ H x y v u Q I rx ry h
 obtain ⟨a,b,ks,ms,rfl,rfl,h1,h2,q⟩:=h
 cases rx;cases ry
 exact qIV (qEJ I h1) (qEJ I h2) (by omega) ⟨.bl _,H,I,rfl,q⟩
end
end EX
namespace EV
open PySem PySem.Spec PyProof.Rows L2 EX ET
section
variable {X:Cx} {E:XK} {e a c:Expr} {es:List Expr} {fa fb:FE} {pos:Pos}
def yO:List PV->qB->Rs PV:=fun ps st=>match ps with
 |[p]=>match asL st p with
  |some l=>match QC Wo l with
   |some (ks::kss) => .ok (zC ((ks::kss).getD (zz (ks::kss)) [])) st
   |_ => .no
  |none => .no
 |_ => .no
theorem qEz {K:W.Frag} {H:Hp} {xs:List V} {kss:List (List Int)} (T:TsL K H xs kss):xs.length=kss.length:=by
 induction T with
 |nil=>rfl
 |cons _ _ _ ih=>rw [AM,AM,ih]
theorem qDx {α β:Type} {d:α} {d':β}:∀ {l:List α} {m:List β} {i:Nat},l.length=m.length->i < l.length->(l.getD i d,m.getD i d')∈l.zip m
 |[],_,i,_,h=>absurd h (Nat.not_lt_zero i)
 |x::l,[],i,h,_=>by cases h
 |x::l,y::m,0,_,_=>AD
 |x::l,y::m,i + 1,h,h2=>AG _ (qDx (l:=l) (m:=m) (i:=i) (by simpa using h) (by simpa using h2))
theorem qFJ {ta:FA} {p:Pos} (hu:X.A.units + 64 < cLine) (ha:VA X E (e::es) ta) (hm:X.mg "max" = none) (hg:Gl X "max" := by rfl) (he:starEach (e::es) X.env=(false,eval e X.env)::starEach es X.env:=by rfl) (hpl:(backTo pos (starEach es X.env)).any (·.1)=false:=by rfl):VE X E (.Call (.Name "max" p) (e::es) [] pos) (qE yO ta) :=
 wN (qBs hu) (fun H b st ps vs Q S r P=>by
  unfold yO at P
  split at P
  ·rename_i p'
   split at P
   ·rename_i l el
    split at P
    ·rename_i ks kss en
     obtain ⟨v,rfl,r1⟩:=RVs.one r
     obtain ⟨x,xs,rfl,h2,h3⟩:=Q3 S r1 el
     obtain ⟨T,hr⟩:=qAR h3 en
     have hl:=qEz T
     have hb:zz (ks::kss) < xs.length:=by rw [hl];unfold zz;have:=yA (fun i j=>gtL ((ks::kss).getD i []) ((ks::kss).getD j [])) ((ks::kss).length - 1);simp only [AM] at this ⊢;omega
     exact ⟨x,xs,ks::kss,rfl,h2,T,(fun z=>by cases z),PostE.here P S (hr _ (qDx hl hb))⟩
    ·exact P.elim
   ·exact P.elim
  ·exact P.elim) hg hm Boot.«max» ha (he:=he) (hpl:=hpl)
def qCF:PV->PV->qB->Rs PV:=fun p q st=>match Wo p,Wo q with
 |some ks,some ms => .ok (.bl (leL ks ms)) st
 |_,_ => .no
theorem qGp:OpG X E (qIz X.K) qCF:=by
 intro H b st p q u v Q S rp rq P
 unfold qCF at P
 split at P
 ·rename_i ks ms e1 e2
  obtain ⟨x,rfl,h1,_,_⟩:=jG rp e1
  obtain ⟨y,rfl,h2,_,_⟩:=jG rq e2
  exact ⟨x,y,ks,ms,rfl,rfl,h1,h2,PostE.here P S (by unfold RV;rfl)⟩
 ·exact P.elim
end
end EV
end
section
namespace EX
open PySem PySem.Spec PyProof.Rows L2
section
variable {X:Cx}
theorem qCL:wz X (.type "str") (fun xs H Q => ∃ i,xs=[.int i]∧i.natAbs.log2 < 1920∧Q (.str (Str.ofString (toString i))) H):=by
 intro pins s σ H xs us Q I r h
 obtain ⟨i,rfl,hi,q⟩:=h
 obtain ⟨u,rfl,rx⟩:=ZA r
 obtain ⟨t,rfl⟩:=(show ∃ t,_=Value.int i t from rx)
 exact P.str_of_int hi ⟨.str _,H,I.tok _,⟨_,rfl⟩,q⟩
end
end EX
namespace EV
open PySem PySem.Spec PyProof.Rows L2 EX
section
variable {X:Cx} {E:XK} {e:Expr} {es:List Expr} {pos:Pos}
def qJv:List PV->qB->Rs PV:=fun ps st=>match ps with
 |[.ref i]=>match st[i]? with
  |some (.d kvs) => .ok (.int kvs.length) st
  |_ => .no
 |_ => .no
def qAH:List PV->qB->Rs PV:=fun ps st=>match ps with
 |[.int i]=>if i.natAbs.log2 < 1920 then .ok (.str (Str.ofString (toString i))) st else .no
 |_ => .no
theorem qBf {ta:FA} {p:Pos} (ha:VA X E (e::es) ta) (hm:X.mg "str" = none) (hg:Gl X "str" := by rfl) (he:starEach (e::es) X.env=(false,eval e X.env)::starEach es X.env:=by rfl) (hpl:(backTo pos (starEach es X.env)).any (·.1)=false:=by rfl):VE X E (.Call (.Name "str" p) (e::es) [] pos) (qE qAH ta) :=
 Za qCL (fun H b st ps vs Q S r P=>by
  unfold qAH at P
  split at P
  ·rename_i i
   obtain ⟨v,rfl,r1⟩:=RVs.one r
   unfold RV at r1
   subst r1
   split at P
   ·rename_i hi
    exact ⟨i,rfl,hi,PostE.here P S (by unfold RV;rfl)⟩
   ·exact P.elim
  ·exact P.elim) hg hm Boot.«str» ha (he:=he) (hpl:=hpl)
end
end EV
end
section
namespace EX
open PySem PySem.Spec PyProof.Rows L2 PySem.W
section
variable {prog:Program} {w:World} {d:Addr} {es:Array DictEntry} {ep:Nat}
theorem RawAt.at {h h':Heap} (m:RawAt h d es ep) (e:∀ o,h.get? d=some o->h'.get? d=some o):RawAt h' d es ep:=by
 obtain ⟨o,h1,h2⟩:=m.ex
 exact ⟨o,e o h1,h2⟩
theorem qCM {A:Around} (hh:A.handled=none) (I:Addr) (hne:d≠I):Walks prog w A I [I,d] [I] es.size (fun i v => ∃ e,es[i]? = some e∧v=e.key) (fun i h=>h.IsKeyIter I d i es.size ep∧RawAt h d es ep) where
 sub:=fun b hb=>by simp at hb;simp [hb]
 frame:=fun _ _ _ st hk=>⟨st.1.at fun o e=>hk I (by simp) o e,st.2.at fun o e=>hk d (by simp) o e⟩
 item:=fun i s Q E hi st hQ=>by
  obtain ⟨e,hx⟩:∃ p,es[i]? = some p:=⟨es[i],by simp [hi]⟩
  refine qCi st.1 st.2 hx fun h' hit' hs' => ?_
  exact hQ e.key h' s.toks ⟨e,hx,rfl⟩ ⟨hit',st.2.at fun o ho=>hs'.extBut d o hne ho⟩ fun b o hb e=>hs'.extBut b o (fun h=>hb (by simp [h])) e
 done:=fun s Q E st hQ=>qEs (fun v hv=>by rw [hh] at hv;cases hv) (fun v hv=>by rw [hh] at hv;cases hv) st.1 st.2 (AI _) fun h' he'=>hQ h' s.toks fun b o hb e=>he' b o (fun h=>hb (by simp [h])) e
 self:=fun _ _ _ _ st hQ=>wpAny_pyIter_keyiter st.1 hQ
theorem qE2 (lo:(d==sysModules)=false):KdlSrc prog w "dict" d d es.size (fun i v => ∃ e,es[i]? = some e∧v=e.key) (fun h=>RawAt h d es ep) where
 type:=fun _ hm=>hm.typeIs
 there:=fun _ hm=>let ⟨_,h,_⟩:=hm.ex;⟨AJ h,AJ h⟩
 keep:=fun _ _ hm hk=>hm.at fun o e=>hk d (.inl rfl) o e
 notList:=by decide
 notTuple:=by decide
 hint:=fun _ _ _ _ hm hq=>kdl_hint_dict hm.typeIs hq
 iter:=fun _ s hh hm=>⟨_,_,(fun _ _ hq=>qCy lo hm hq),qCM hh _ (let ⟨_,h,_⟩:=hm.ex;AU (AJ h)),⟨⟨_,AT _ rfl,rfl,rfl⟩,hm.at fun o e=>AF _ e⟩⟩
end
section
variable {X:Cx}
theorem qFS {H:Hp} {kvs:List (List Key×V)} {xs:List (List Key×Addr×Value)} (r:L2.KT H kvs xs):Vals (xs.map fun x=>V.ref x.2.1) (xs.map fun x=>Value.ref x.2.1):=by
 clear r
 induction xs with
 |nil=>exact .nil
 |cons x xs ih=>exact .cons rfl ih
end
end EX
namespace EV
open PySem PySem.Spec PyProof.Rows L2 EX
end EV
end
section
namespace EX
open PySem PySem.Spec PyProof.Rows L2 PySem.W
end EX
namespace EV
open PySem PySem.Spec PyProof.Rows L2 EX
end EV
end
section
namespace EV
open PySem PySem.Spec PyProof.Rows L2 EX
section
variable {X:Cx} {E:XK} {e a c d o:Expr} {es:List Expr} {f fa fb fo:FE} {pos:Pos}
def WK:PV->PV->qB->Rs PV:=fun p q st=>match p,q with
 | .str z,.int i=>if z.length≤sizeLine then (match atI z.cps.toList i with
  |some c => .ok (.str ⟨#[c]⟩) st
  |none => .no) else .no
 |_,_ => .no
theorem Ww (ha:VE X E a fa) (hb:VE X E c fb) (hs:Yx c:=by exact fun _ _=>rfl):VE X E (.Subscript a c pos) (qG WK fa fb):=PE.imp (qGF qC2 ha hb hs) (yH fun H b st p q u v Q S rp rq P=>by
 unfold WK at P
 split at P
 ·split at P
  ·rename_i hz
   split at P
   ·rename_i z i _ cc hc
    unfold RV at rp rq
    exact .inr (.inr ⟨z,i,cc,rp,rq,hz,hc,PostE.here P S (by unfold RV;rfl)⟩)
   ·exact P.elim
  ·exact P.elim
 ·exact P.elim)
def qBU:List PV->qB->Rs PV:=fun ps st=>match ps with
 |[.str z]=>if z.length≤sizeLine then .ok (.int z.length) st else .no
 |_ => .no
theorem qAu {ta:FA} {p:Pos} (hm:X.mg "len" = none) (ha:VA X E (e::es) ta) (hg:Gl X "len" := by rfl) (he:starEach (e::es) X.env=(false,eval e X.env)::starEach es X.env:=by rfl) (hpl:(backTo pos (starEach es X.env)).any (·.1)=false:=by rfl):VE X E (.Call (.Name "len" p) (e::es) [] pos) (qE qBU ta) :=
 wN jD (fun H b st ps vs Q S r P=>by
  unfold qBU at P
  split at P
  ·split at P
   ·rename_i z hz
    obtain ⟨v,rfl,r1⟩:=RVs.one r
    unfold RV at r1
    subst r1
    exact ⟨z,rfl,hz,PostE.here P S QR⟩
   ·exact P.elim
  ·exact P.elim) hg hm Boot.«len» ha (he:=he) (hpl:=hpl)
def qAS (i j:Str):Bool := !(Builtin.Str.occurrences j i 0 j.length 1).isEmpty
def qAD (neg:Bool):PV->PV->qB->Rs PV:=fun p q st=>match p,q with
 | .str i,.str j => .ok (.bl (if neg then !qAS i j else qAS i j)) st
 |_,_ => .no
theorem qHY:OpG X E (fun x y H Q => ∃ i j,x = .str i∧y = .str j∧Q (.bl (!(Builtin.Str.occurrences j i 0 j.length 1).isEmpty)) H) (qAD false):=by
 intro H b st p q u v Q S rp rq P
 unfold qAD at P
 split at P
 ·rename_i i j
  unfold RV at rp rq
  exact ⟨i,j,rp,rq,PostE.here P S Wl⟩
 ·exact P.elim
theorem qAn (ha:VE X E a fa) (hb:VE X E c fb) (hm:behindInMarks .In c=false:=by with_unfolding_all rfl):VE X E (.Compare a [.In] [c] pos) (qG (qAD false) fa fb):=Y6 qB3 qHY ha hb hm
def stL:List PV->Option (List Str)
 |[]=>some []
 | .str x::l=>(stL l).map (x :: ·)
 |_::_=>none
theorem qDr {K:W.Frag} {H:Hp} {b:Bz}:∀ {l:List PV} {xs:List V} {ts:List Str} {us:List Value},stL l=some ts->RVs K H b l xs->Vals xs us -> ∃ tk:List (Str×Tok),us=strValues tk∧tk.map (·.1)=ts
 |[],xs,ts,us,h,r,v=>by
  cases h
  unfold RVs at r
  subst r
  cases v
  exact ⟨[],rfl,rfl⟩
 |p::l,xs,ts,us,h,r,v=>by
  cases p with
  |str x =>
   have h:(stL l).map (x :: ·)=some ts:=h
   cases hl:stL l with
   |none=>rw [hl] at h;cases h
   |some ts' =>
    rw [hl] at h
    cases h
    unfold RVs at r
    obtain ⟨y,ys,rfl,r1,r2⟩:=r
    unfold RV at r1
    subst r1
    cases v with
    |cons q1 q2 =>
     obtain ⟨t,rfl⟩:=q1
     obtain ⟨tk,rfl,e2⟩:=qDr hl r2 q2
     exact ⟨(x,t)::tk,rfl,by rw [AK,e2]⟩
  |_=>cases h
theorem qDb:MtM X "str.join" (fun x vs H Q => ∃ sep a xs l b ts,x = .str sep∧vs=[.ref a]∧SqL X.K H a xs∧RVs X.K H b l xs∧stL l=some ts∧JoinOk sep ts=true∧Q (.str (Txt.join sep ts)) H):=by
 intro pins s σ H x vs v us Q I rx rv h
 obtain ⟨sep,a,xs,l,b,ts,rfl,rfl,hs,hr,ht,hok,q⟩:=h
 obtain ⟨t,rfl⟩:=rx
 obtain ⟨u,rfl,ru⟩:=rv.one
 cases ru
 obtain ⟨its,r',pl,hz⟩:=I.list hs
 obtain ⟨tk,rfl,e⟩:=qDr ht hr r'
 exact SC.join pl.isList e hok fun t' k=>⟨.str _,H,I.tok _,⟨_,rfl⟩,q⟩
def wM (fo f:FE):FE:=fun r st=>(fo r st).bind fun o s1=>match o with
 | .str sep=>(f r s1).bind fun p s2=>match asL s2 p with
  |some l=>match stL l with
   |some ts=>if JoinOk sep ts=true then .ok (.str (Txt.join sep ts)) s2 else .no
   |none => .no
  |none => .no
 |_ => .no
theorem Wj {apos cpos:Pos} (ho:VE X E o fo) (h:VE X E e f) (hbase:attributeBase o "join" X.env (eval o X.env)=eval o X.env:=by rfl)
  (hfew:((backTo cpos (starEach [e] X.env)).all (fun x => !x.1)&&(backToKw cpos (keywordEach [] X.env)).all (fun x=>x.1.isSome)&&decide ([e].length + ([]:List Keyword).length + (if ([]:List Keyword).isEmpty then 0 else 1) < 30))=true:=by rfl)
  (hline:(apos.endLine==cpos.line)=true:=by rfl) (h1:starEach [e] X.env=(false,eval e X.env)::starEach [] X.env:=by rfl) (hplain:(backTo cpos (starEach [] X.env)).any (·.1)=false:=by rfl) :
  VE X E (.Call (.Attribute o "join" apos) [e] [] cpos) (wM fo f) :=
 PE.imp (qBb PySem.F.plainAttrs_str PySem.F.slot_str_join PySem.F.type_str_join qDb ho (ZN h yM h1) hbase hfew hline h1 hplain) fun s H Q ⟨b,r,st,S,R,P⟩=>⟨b,r,st,S,R,PostE.bind P fun o s1 u H1 b1 e1 S1 r1 P1=>by
  split at P1
  ·rename_i sep
   unfold RV at r1
   subst r1
   refine ⟨rfl,b1,r,s1,S1,R.ext e1,PostE.bind P1 fun p s2 v H2 b2 e2 S2 r2 P2 => ?_⟩
   split at P2
   ·rename_i l el
    split at P2
    ·rename_i ts ht
     split at P2
     ·rename_i hok
      obtain ⟨x,xs,rfl,h2,h3⟩:=Q3 S2 r2 el
      exact ⟨sep,x,xs,l,b2,ts,rfl,rfl,h2,h3,ht,hok,PostE.here P2 S2 (by unfold RV;rfl)⟩
     ·exact P2.elim
    ·exact P2.elim
   ·exact P2.elim
  ·exact P1.elim⟩
def jc (x y:Str):Option Nat:=(Builtin.Str.occurrences x y 0 x.length 1).head?
theorem qEj:MtM X "str.index" (fun x vs H Q => ∃ z y j,x = .str z∧vs=[.str y]∧jc z y=some j∧Q (.int (j:Nat)) H):=by
 intro pins s σ H x vs v us Q I rx rv h
 obtain ⟨z,y,j,rfl,rfl,hj,q⟩:=h
 obtain ⟨t,rfl⟩:=rx
 obtain ⟨u,rfl,ru⟩:=rv.one
 obtain ⟨t2,rfl⟩:=ru
 unfold jc at hj
 cases ho:Builtin.Str.occurrences z y 0 z.length 1 with
 |nil=>rw [ho] at hj;cases hj
 |cons i rest =>
  rw [ho] at hj
  cases hj
  exact call_gives F.slot_str_index (CQ _ _ _) F.entry_str_index (F.args_str_index_2 _ _) (gives_str_index z y t t2 _ rest ho) ⟨.int _,H,I.tok _,⟨_,rfl⟩,q⟩
def yz (fo f:FE):FE:=fun r st=>(fo r st).bind fun o s1=>match o with
 | .str z=>(f r s1).bind fun p s2=>match p with
  | .str y=>match jc z y with
   |some j => .ok (.int (j:Nat)) s2
   |none => .no
  |_ => .no
 |_ => .no
theorem jC {apos cpos:Pos} (ho:VE X E o fo) (h:VE X E e f) (hbase:attributeBase o "index" X.env (eval o X.env)=eval o X.env:=by rfl)
  (hfew:((backTo cpos (starEach [e] X.env)).all (fun x => !x.1)&&(backToKw cpos (keywordEach [] X.env)).all (fun x=>x.1.isSome)&&decide ([e].length + ([]:List Keyword).length + (if ([]:List Keyword).isEmpty then 0 else 1) < 30))=true:=by rfl)
  (hline:(apos.endLine==cpos.line)=true:=by rfl) (h1:starEach [e] X.env=(false,eval e X.env)::starEach [] X.env:=by rfl) (hplain:(backTo cpos (starEach [] X.env)).any (·.1)=false:=by rfl) :
  VE X E (.Call (.Attribute o "index" apos) [e] [] cpos) (yz fo f) :=
 PE.imp (qBb PySem.F.plainAttrs_str PySem.F.slot_str_index PySem.F.type_str_index qEj ho (ZN h yM h1) hbase hfew hline h1 hplain) fun s H Q ⟨b,r,st,S,R,P⟩=>⟨b,r,st,S,R,PostE.bind P fun o s1 u H1 b1 e1 S1 r1 P1=>by
  split at P1
  ·rename_i z
   unfold RV at r1
   subst r1
   refine ⟨rfl,b1,r,s1,S1,R.ext e1,PostE.bind P1 fun p s2 v H2 b2 e2 S2 r2 P2 => ?_⟩
   split at P2
   ·rename_i y
    split at P2
    ·rename_i j hj
     unfold RV at r2
     subst r2
     exact ⟨z,y,j,rfl,rfl,hj,PostE.here P2 S2 QR⟩
    ·exact P2.elim
   ·exact P2.elim
  ·exact P1.elim⟩
theorem Yn:∀ tk:List (Str×Tok),Vals ((tk.map (·.1)).map V.str) (strValues tk)
 |[] => .nil
 |p::tk => .cons ⟨p.2,rfl⟩ (Yn tk)
theorem JK {K:W.Frag} {H:Hp} {b:Bz}:∀ ts:List Str,RVs K H b (ts.map PV.str) (ts.map V.str)
 |[]=>RVs.nil
 |t::ts=>RVs.cons (by unfold RV;rfl) (JK ts)
theorem qCv:MtM X "str.split" (fun x vs H Q => ∃ z y,x = .str z∧vs=[.str y]∧(y.length==0)=false∧z.length≤10000∧(Txt.split z y).length≤sizeLine ∧ ∀ p,H p=none->Q (.ref p) (upd H p (.lst ((Txt.split z y).map V.str)))):=by
 intro pins s σ H x vs v us Q I rx rv h
 obtain ⟨z,y,rfl,rfl,hy,hz,hn,q⟩:=h
 obtain ⟨t,rfl⟩:=rx
 obtain ⟨u,rfl,ru⟩:=rv.one
 obtain ⟨t2,rfl⟩:=ru
 have hz':z.length≤sizeLine:=Aa hz (by decide)
 have fin:∀ (tk:List (Str×Tok)) (k:Nat),tk.map (·.1)=Txt.split z y->EP X pins σ Q (.ref s.heap.objs.size) { s with toks:=k,heap:=s.heap.push { cls := .type "list",data := .seq (strValues tk).toArray } }:=fun tk k e=>by
  refine ⟨.ref s.heap.objs.size,_,I.laid (t':=k) (o := .lst ((Txt.split z y).map V.str)) (fun b ob q=>AF _ q) (AI _) ?_,rfl,q _ (I.hok.fresh (AI _))⟩
  rw [← e]
  exact ⟨by rw [AB,e];exact hn,strValues tk,0,Yn tk,AT _ rfl⟩
 cases h1:(decide (z.length < y.length) || decide (Builtin.Str.strKind z < Builtin.Str.strKind y)) with
 |true=>exact call_meets F.slot_str_split (CQ _ _ _) F.entry_str_split (F.args_str_split_2 _ _) (meets_str_split_cannot_occur z y t t2 h1) (fin [(z,t)] s.toks (AC h1).symm)
 |false =>
  cases hf:(Builtin.Str.occurrences z y 0 z.length (z.length + 1)).isEmpty with
  |true=>exact call_meets F.slot_str_split (CQ _ _ _) F.entry_str_split (F.args_str_split_2 _ _) (meets_str_split_not_found z y t t2 h1 hy hf) (fin [(z,t)] s.toks ((AH (by rw [h1];decide)).trans (AC hf)).symm)
  |false =>
   have es:Txt.split z y=Builtin.Str.partsBetween z (Builtin.Str.occurrences z y 0 z.length (z.length + 1)) y.length:=(AH (by rw [h1];decide)).trans (AH (by rw [hf];decide))
   refine call_meets F.slot_str_split (CQ _ _ _) F.entry_str_split (F.args_str_split_2 _ _) (meets_str_split_sep z y t t2 h1 hy hf hz' (by rw [← es];exact hn)) ?_
   show wants _ _ _ { s with toks:=_,heap:=s.heap.push { cls := .type "list",data := .seq (strsFrom s.toks (Builtin.Str.partsBetween z (Builtin.Str.occurrences z y 0 z.length (z.length + 1)) y.length)).toArray } }
   rw [strsFrom_eq]
   exact fin (numbered s.toks _) _ ((numbered_texts _ _).trans es.symm)
def zp (fo f:FE):FL:=fun r st=>(fo r st).bind fun o s1=>match o with
 | .str z=>(f r s1).bind fun p s2=>match p with
  | .str y=>if (y.length==0)=false∧z.length≤10000∧(Txt.split z y).length≤sizeLine then .ok ((Txt.split z y).map PV.str) s2 else .no
  |_ => .no
 |_ => .no
theorem jz {apos cpos:Pos} (ho:VE X E o fo) (h:VE X E e f) (hbase:attributeBase o "split" X.env (eval o X.env)=eval o X.env:=by rfl)
  (hfew:((backTo cpos (starEach [e] X.env)).all (fun x => !x.1)&&(backToKw cpos (keywordEach [] X.env)).all (fun x=>x.1.isSome)&&decide ([e].length + ([]:List Keyword).length + (if ([]:List Keyword).isEmpty then 0 else 1) < 30))=true:=by rfl)
  (hline:(apos.endLine==cpos.line)=true:=by rfl) (h1:starEach [e] X.env=(false,eval e X.env)::starEach [] X.env:=by rfl) (hplain:(backTo cpos (starEach [] X.env)).any (·.1)=false:=by rfl) :
  VN X E (.Call (.Attribute o "split" apos) [e] [] cpos) (zp fo f) :=
 PE.imp (qBb PySem.F.plainAttrs_str PySem.F.slot_str_split PySem.F.type_str_split qCv ho (ZN h yM h1) hbase hfew hline h1 hplain) fun s H Q ⟨b,r,st,S,R,P⟩=>⟨b,r,st,S,R,PostE.bindN P fun o s1 u H1 b1 e1 S1 r1 P1=>by
  split at P1
  ·rename_i z
   unfold RV at r1
   subst r1
   refine ⟨rfl,b1,r,s1,S1,R.ext e1,PostE.bindN P1 fun p s2 v H2 b2 e2 S2 r2 P2 => ?_⟩
   split at P2
   ·rename_i y
    split at P2
    ·rename_i hc
     unfold RV at r2
     subst r2
     exact ⟨z,y,rfl,rfl,hc.1,hc.2.1,hc.2.2,fun p hp=>PostN.lay P2 S2 (JK _) hp⟩
    ·exact P2.elim
   ·exact P2.elim
  ·exact P1.elim⟩
theorem qFF {e:Expr} {te:TE} {pos:Pos} (h:PE X e te):PE X (.FormattedValue e (-1) none pos) (fun σ H Q=>te σ H fun v H1 => ∃ y,v = .str y∧y.length≤sizeLine∧Q (.str y) H1) :=
 fun pins s σ H Q I q=>FormattedValue_plain (thn (h pins s σ H _ I q) fun u s1 ⟨v,H1,I1,r1,y,e,z,q⟩=>by
  subst e
  obtain ⟨t',rfl⟩:=r1
  exact wpAny_formatField_str ⟨.str _,H1,I1,⟨_,rfl⟩,q⟩ ⟨.str _,H1,I1.tok _,⟨_,rfl⟩,q⟩ z)
def JV (f:FE):FE:=fun r st=>(f r st).bind fun p s=>match p with
 | .str y=>if y.length≤sizeLine then .ok (.str y) s else .no
 |_ => .no
theorem qEb (h:VE X E e f):VE X E (.FormattedValue e (-1) none pos) (JV f):=PE.imp (qFF h) fun s H Q ⟨b,r,st,S,R,P⟩=>⟨b,r,st,S,R,PostE.bind P fun p s1 u H1 b1 e1 S1 r1 P1=>by
 split at P1
 ·rename_i y
  split at P1
  ·rename_i hz
   unfold RV at r1
   subst r1
   exact ⟨y,rfl,hz,PostE.here P1 S1 (by unfold RV;rfl)⟩
  ·exact P1.elim
 ·exact P1.elim⟩
def YI (x:Str) (lo hi:Option Int):Str:=if (Builtin.Str.strSliceIndices lo hi 1 x.length).length=x.length then x else ⟨((Builtin.Str.strSliceIndices lo hi 1 x.length).filterMap (x.cps[·]?)).toArray⟩
def qJq:V->Option Int->Option Int->Hp->VK->Prop:=fun x lo hi H Q => ∃ z,x = .str z∧(YI z lo hi).length≤sizeLine∧Q (.str (YI z lo hi)) H
theorem qHH:SlR X qJq:=by
 intro pins s σ H x v vl vu lo hi sl Q I rx hs pl pu h
 obtain ⟨z,rfl,hz,q⟩:=h
 obtain ⟨t,rfl⟩:=rx
 refine ⟨"str",_,F.slot_str_getitem.lookup,CQ _ _ _,?_⟩
 obtain ⟨l,rfl,rfl⟩:∃ l:Option (Int×Tok),vl=partValue l∧lo=l.map (·.1):=by
  cases pl with
  |none=>exact ⟨none,rfl,rfl⟩
  |int i t=>exact ⟨some (i,t),rfl,rfl⟩
 obtain ⟨m,rfl,rfl⟩:∃ l:Option (Int×Tok),vu=partValue l∧hi=l.map (·.1):=by
  cases pu with
  |none=>exact ⟨none,rfl,rfl⟩
  |int i t=>exact ⟨some (i,t),rfl,rfl⟩
 refine wpAny_getItem_str_slice (l:=l) (u:=m) (st:=none) hs rfl ?_
 unfold sliceMade slicePicked
 by_cases hw:(Builtin.Str.strSliceIndices (l.map (·.1)) (m.map (·.1)) 1 z.length).length=z.length
 ·have e:YI z (l.map (·.1)) (m.map (·.1))=z:=AC hw
  rw [e] at q
  rw [AC (by simpa using hw)]
  exact ⟨.str z,H,I,⟨_,rfl⟩,q⟩
 ·have e:YI z (l.map (·.1)) (m.map (·.1))=⟨((Builtin.Str.strSliceIndices (l.map (·.1)) (m.map (·.1)) 1 z.length).filterMap (z.cps[·]?)).toArray⟩:=AH hw
  rw [e] at q hz
  rw [AH (by simpa using hw)]
  exact ⟨hz,⟨.str _,H,I.tok _,⟨_,rfl⟩,q⟩⟩
def qIn (f:FE) (lo hi:FO):FE:=fun r st=>(f r st).bind fun p s1=>(lo r s1).bind fun a s2=>(hi r s2).bind fun c s3=>match p with
 | .str z=>if (YI z a c).length≤sizeLine then .ok (.str (YI z a c)) s3 else .no
 |_ => .no
theorem qGk {lo hi:Option Expr} {flo fhi:FO} {p2:Pos} (h:VE X E e f) (hl:VO X E lo flo) (hh:VO X E hi fhi):VE X E (.Subscript e (.Slice lo hi none p2) pos) (qIn f flo fhi) :=
 PE.imp (YA qHH h hl hh) fun s H Q ⟨b,r,st,S,R,P⟩=>⟨b,r,st,S,R,PostE.bind P fun p s1 u H1 b1 e1 S1 r1 P1=>⟨b1,r,s1,S1,R.ext e1,PostO.bind P1 fun k s2 H2 b2 e2 S2 P2=>⟨b2,r,s2,S2,(R.ext e1).ext e2,PostO.bind P2 fun m s3 H3 b3 e3 S3 P3=>by
  split at P3
  ·rename_i z
   split at P3
   ·rename_i hz
    unfold RV at r1
    subst r1
    exact ⟨z,rfl,hz,PostE.here P3 S3 (by unfold RV;rfl)⟩
   ·exact P3.elim
  ·exact P3.elim⟩⟩⟩
end
end EV
end
section
namespace EX
open PySem PySem.Spec PyProof.Rows L2
def qIO (x:Str):It :=
 ⟨fun i _=>i < x.cps.size,fun i H v H' => ∃ T c,H T=none∧v = .ref T∧H'=upd H T (.tup [.int (i:Nat),.str ⟨#[c]⟩])∧x.cps[i]? = some c,fun i _=>x.cps.size≤i⟩
def qF5 (z i1:Addr) (x:Str) (t:Tok) (i:Nat) (h:Heap):Prop:=(∃ old,IsEnum h z i1 ((i:Nat):Int) old)∧h.IsStrIter i1 "str_ascii_iterator" x t i
theorem Y8 {P:Program} {w:World} {K:W.Frag} {A:Around} {elts:List Expr} {n:Nat} {pos:Pos} (hA:A.handled=none) (z i1:Addr) (x:Str) (t:Tok) (h1:z≠i1) :
  Turn P w K A (.Tuple elts n pos) (qIO x) [z,i1] z (qF5 z i1 x t) where
 mem:=by simp
 obj:=fun i h st c hc=>by
  obtain ⟨⟨old,a1⟩,o4,a4,_,d4⟩:=st
  simp only [AL,Ae,Bt] at hc
  rcases hc with rfl |rfl
  ·exact ⟨_,a1,fun v q=>by cases (show Data.fields _=Data.cell v from q)⟩
  ·exact ⟨_,a4,fun v q=>by rw [d4] at q;cases q⟩
 keep:=fun i h h' st k=>by
  obtain ⟨⟨old,a1⟩,o4,a4,r⟩:=st
  exact ⟨⟨old,k z (by simp) _ a1⟩,o4,k i1 (by simp) _ a4,r⟩
 item:=by
  intro X hP hw hK hA' i pins s σ H E I hf st hg
  subst hP hw hK
  obtain ⟨⟨old,a1⟩,a4⟩:=st
  have a40:=a4
  obtain ⟨o4,b4,_⟩:=a40
  refine wpAny_pyNext_enum_itemD (Draws.strAscii (by rw [hA'];exact hA) i1 x t) a1 a4 hg h1 (by simp [h1]) fun x' h' tk px z1 z4 z5 zs z7=>⟨_,rfl,?_⟩
  obtain ⟨c,u,hc,rfl⟩:=px
  refine wpAny_letOwnedTupleGo_enum (s:={ s with heap:=h',toks:=tk + 1 }) z1 fun hh y1 y2 => ?_
  have nz:s.heap.objs.size≠z:=B5 (AJ a1)
  have oth:∀ c,c≠z->hh.get? c=h'.get? c:=fun c hc=>y2.2 c hc
  have tz:qF5 z i1 x t (i + 1) hh:=by
   obtain ⟨o5,b5,r5⟩:=z4
   exact ⟨⟨_,by exact_mod_cast y1⟩,o5,(oth i1 (Ne.symm h1)).trans b5,r5⟩
  have hT:IsPair hh s.heap.objs.size (.int i tk) (.str ⟨#[c]⟩ u):=(oth _ nz).trans z5
  have I2:=qBZ (t':=tk + 1) (h':=hh) (x := .int i) (y := .str ⟨#[c]⟩) I hf ⟨tk,rfl⟩ ⟨u,rfl⟩ (fun c o hc e=>(oth c fun q=>hc (by simp [q])).trans (z7 c o (fun q=>hc (by simp [q])) (fun q=>hc (by simp [q])) e)) (fun c hc=>by
   obtain ⟨⟨ol,b1⟩,o5,b5,_⟩:=tz
   simp only [AL,Ae,Bt] at hc
   rcases hc with rfl |rfl
   ·exact ⟨_,b1⟩
   ·exact ⟨_,b5⟩) hT
  refine ⟨.ref s.heap.objs.size,_,I2,rfl,⟨_,c,I.hok.fresh (AI _),rfl,rfl,hc⟩,tz,fun c hc => ?_⟩
  have:=(hf c hc).1
  have ne:c≠s.heap.objs.size:=by
   simp only [AL,Ae,Bt] at hc
   rcases hc with rfl |rfl
   ·exact AU (AJ a1)
   ·exact AU (AJ b4)
  rw [qP ne];exact this
 done:=by
  intro X hP hw hK hA' i pins s σ H E I hf st hg
  subst hP hw hK
  obtain ⟨⟨old,a1⟩,a4⟩:=st
  have hA2:X.A.in1.handled=none:=by rw [hA'];exact hA
  have hn:x.cps[i]? = none:=Array.getElem?_eq_none hg
  have D:Draws X.prog X.w X.A.in1 i1 [i1] i (fun _ _=>True) (fun k h=>k=i∧h.IsStrIter i1 "str_ascii_iterator" x t i) :=
   ⟨fun k h S=>let ⟨o,e,_⟩:=S.2;⟨o,e⟩,fun k h h' S q=>⟨S.1,let ⟨o,e,r⟩:=S.2;⟨o,q i1 (by simp) o e,r⟩⟩,fun k s Q E hk S hQ=>absurd S.1 (AU hk),
    fun s Q E S hE=>wpAny_nextOf_ascii_end hA2 S.2 hn hE⟩
  obtain ⟨f0,f1,f2,f3,f4,f5⟩:=hf i1 (by simp)
  exact wpAny_pyNext_enum_endD D a1 ⟨rfl,a4⟩ fun h' k=>⟨rfl,I.turned (t':=s.toks) (fun b o hb e=>k b o hb e) f0 f1 f3 f4 f5⟩
 self:=fun _ _ _ _ _ st h=>let ⟨⟨_,a1⟩,_⟩:=st;wpAny_pyIter_enum a1 h
section
variable {X:Cx} {a:Expr} {ta:TA} {p pos:Pos} {elts:List Expr} {n:Nat} {tpos:Pos}
def qGZ (ta:TA):L2.TI:=fun σ H R=>ta σ H fun vs H1 => ∃ x,vs=[.str x]∧x.cps.all (· < 128)=true∧R (qIO x) H1
theorem qAQ (hc:X.calm=true) (hg:Gl X "enumerate") (hm:X.mg "enumerate" = none) (ha:PA X [a] ta) (he:starEach [a] X.env=(false,eval a X.env)::starEach [] X.env:=by rfl) (hpl:(backTo pos (starEach [] X.env)).any (·.1)=false:=by rfl) :
  PI X (.Tuple elts n tpos) (.Call (.Name "enumerate" p) [a] [] pos) (qGZ ta):=by
 intro pins s σ H R I h
 refine BS (Wx I hg hm PyProof.Rows.boot_enumerate ?_)
 refine BJ (thn (ha pos pins s σ H _ I h) fun us s1 ⟨vs,H1,I1,r1,q1⟩ => ?_) he hpl
 obtain ⟨x,rfl,hx,q⟩:=q1
 obtain ⟨u,rfl,ru⟩:=r1.one
 obtain ⟨t,rfl⟩:=ru
 refine call_enumerate_str fun h' c1 c4 c5 c7 => ?_
 have et:strIterType x = "str_ascii_iterator" := AC hx
 rw [et] at c4
 refine wpAny_pyIter_enum c1 ?_
 have I2:L2.Inv X pins σ H1 { s1 with heap:=h' }:=I1.kept (t':=s1.toks) c7
 refine ⟨_,_,_,_,H1,rfl,I2,Y8 (I1.ok.hd hc) _ _ x t (Nat.succ_ne_self _),⟨⟨_,c1⟩,c4⟩,fun c hc' => ?_,q⟩
 have hle:s1.heap.objs.size≤c:=by
  simp only [AL,Ae,Bt] at hc'
  rcases hc' with rfl |rfl
  ·exact CA _ _
  ·exact AI _
 exact I1.fpOk hle (I1.hok.fresh hle)
end
end EX
namespace EV
open PySem PySem.Spec PyProof.Rows L2 EX
section
variable {X:Cx} {E:XK} {e a c d:Expr} {es:List Expr} {f fa fb fc:FE} {pos:Pos}
def qEw (x:Str):List PV:=x.cps.toList.map fun c => .str ⟨#[c]⟩
def Z9 (ps:List PV) (st:qB):Rs ItP:=match ps with
 |[.str x]=>if x.cps.all (· < 128)=true then .ok ⟨zP 0 (qEw x),fun _=>True⟩ st else .no
 |_ => .no
def Ze (t:FA):FI:=fun r st=>(t r st).bind Z9
theorem qAK {elts:List Expr} {n:Nat} {tpos p:Pos} {t:FA} (hc:X.calm=true) (hm:X.mg "enumerate" = none) (ha:VA X E [a] t) (hg:Gl X "enumerate" := by rfl) (he:starEach [a] X.env=(false,eval a X.env)::starEach [] X.env:=by rfl) (hpl:(backTo pos (starEach [] X.env)).any (·.1)=false:=by rfl) :
  VI X E (.Tuple elts n tpos) (.Call (.Name "enumerate" p) [a] [] pos) (Ze t):=fun pins s σ H R I q=>qAQ hc hg hm ha he hpl pins s σ H R I (by
 obtain ⟨b,r,st,S,RE,P⟩:=q
 refine ⟨b,r,st,S,RE,PostA.bindI P fun l s1 us H1 b1 e1 S1 r1 P1 => ?_⟩
 unfold Z9 at P1
 split at P1
 ·rename_i x
  split at P1
  ·rename_i hx
   obtain ⟨u,rfl,h1⟩:=RVs.one r1
   unfold RV at h1
   subst h1
   refine ⟨x,rfl,hx,P1 _ H1 b1 (Ext.refl _ _) S1 ?_⟩
   intro H2 b2 st2 e2 _ S2 g2
   refine ⟨fun i p hp => ?_,fun i hi => ?_⟩
   ·obtain ⟨q,hq,rfl⟩:=ya hp
    unfold qEw at hq
    rw [Ac] at hq
    cases hcc:x.cps.toList[i]? with
    |none=>rw [hcc] at hq;cases hq
    |some c0 =>
     rw [hcc] at hq
     have hq:PV.str ⟨#[c0]⟩=q:=AW hq
     subst hq
     have hlt:i < x.cps.size:=by
      have:=(AV.mp hcc).1
      simpa using this
     refine ⟨hlt,fun y H3 hy => ?_⟩
     obtain ⟨T,c1,hT,h3,h4,h5⟩:=hy
     subst h3;subst h4
     have ec:c1=c0:=by
      have h6:x.cps[i]? = some c0:=by rw [← B7];exact hcc
      rw [h5] at h6;exact AW h6
     subst ec
     have en:Ext H2 b2 (upd H2 T (.tup [.int (i:Nat),.str ⟨#[c1]⟩])) b2:=Ext.new hT
     refine ⟨fun c o q=>by rw [qP (qJ q hT)];exact q,S2.new hT,?_⟩
     unfold RV
     exact ⟨T,_,rfl,.inl ⟨QL,S2.new_notin hT⟩,RVs.cons (by rw [Nat.zero_add];exact QR) (RVs.cons (by unfold RV;rfl) RVs.nil)⟩
   ·show x.cps.size≤i
    have hi:(zP 0 (qEw x)).length≤i:=hi
    rw [yu] at hi
    unfold qEw at hi
    rw [AB] at hi
    simpa using hi
  ·exact P1.elim
 ·exact P1.elim)
end
end EV
end
section
namespace EV
open PySem PySem.Spec PyProof.Rows L2 EX
section
variable {X:Cx} {E:XK} {e a c d:Expr} {es rest:List Expr} {f fa fb:FE} {pos:Pos}
def jq (f g:FE):FE:=fun r st=>(f r st).bind fun p s=>match p with
 | .str y=>if y.length≤sizeLine then (if ((y.length:Int) != 0)=true then .ok (.str y) s else g r s) else .no
 |_ => .no
theorem qDf (h:VE X E a fa) (h2:VE X E (.BoolOp .Or (c::rest) pos) fb):VE X E (.BoolOp .Or (a::c::rest) pos) (jq fa fb):=PE.imp (qHt h h2) fun s H Q ⟨b,r,st,S,R,P⟩ =>
 ⟨b,r,st,S,R,PostE.bind P fun p s1 u H1 b1 e1 S1 r1 P1=>by
  split at P1
  ·rename_i y
   split at P1
   ·rename_i hz
    have r0:=r1
    unfold RV at r1
    subst r1
    split at P1
    ·rename_i hy;exact ⟨true,⟨hz,hy.symm⟩,Jv (PostE.here P1 S1 r0)⟩
    ·rename_i hy;exact ⟨false,⟨hz,by simpa using hy⟩,qAA ⟨b1,r,s1,S1,R.ext e1,P1⟩⟩
   ·exact P1.elim
  ·exact P1.elim⟩
end
end EV
end
section
namespace ET
open PySem PySem.Spec PyProof.Rows L2 PySem.W
open EX
section
variable {prog:Program} {w:World} {A:Around} {E:Value->Shared->Prop} {s:Shared} {T:String} {r d:Addr} {n:Nat} {P:Nat->Value->Prop} {OK:Heap->Prop}
theorem YM (K:KdlSrc prog w T r d n P OK) (hh:A.handled=none) (hok:OK s.heap) (hn:n≤sizeLine) {R:Result->Shared->Prop}
  (hR:∀ h' tk acc' c',(∀ b o,s.heap.get? b=some o->h'.get? b=some o)->h'.get? s.heap.objs.size=some { cls := .type "list",dict:=none,data := .seq acc' c',slots := #[] }->ItemsOf P acc' n->R (.ok (.ret (.ref s.heap.objs.size))) { s with heap:=h',toks:=tk }):codeAny (model prog w) A (.builtin "proto.collect" ⟨[.ref r],[]⟩) R s:=by
 have hlt:=K.there _ hok
 refine BV F.entry_proto_collect ?_
 rw [Bo F.plain_proto_collect]
 unfold Builtin.«proto.collect»
 dsimp only
 refine AA (By ?_)
 refine AE ⟨CT F.plain_list_iadd _,BV F.entry_list_iadd ?_⟩
 rw [Bo F.plain_list_iadd]
 unfold Builtin.«list.__iadd__»
 refine AA (B2 (a:=(.ref s.heap.objs.size,[.ref r])) rfl ?_)
 exact kdl_extend (s:={ s with heap:=s.heap.push { cls := .type "list",data := .seq ([]:List Value).toArray } }) K hh (K.keep _ _ hok fun b _ o e=>AF _ e) s.heap.objs.size (B5 hlt.1) (B5 hlt.2) (.ref s.heap.objs.size) 0 (AT _ rfl) (fun h' tk acc' c' hk hS' hacc=>hR h' tk acc' c' (fun b o ho=>hk b o (AU (AJ ho)) (AF _ ho)) hS' hacc) hn
theorem qDA (K:KdlSrc prog w T r d n P OK) (hh:A.handled=none) (hok:OK s.heap) (hn:n≤sizeLine) {Q:List Value->Shared->Prop}
  (hQ:∀ h' tk acc',(∀ b o,s.heap.get? b=some o->h'.get? b=some o)->s.heap.objs.size≤h'.objs.size->ItemsOf P acc' n->Q acc'.toList { s with heap:=h',toks:=tk }):wpAny (model prog w) A (collect (.ref r)) Q E s:=by
 unfold collect
 refine AA (wpAny_runValue (YM K hh hok hn fun h' tk acc' c' hk hS' hacc => ?_))
 dsimp only
 refine AA (wpAny_load' hS' ?_)
 refine AE ?_
 exact hQ h' tk acc' hk (Nat.le_of_lt (AJ hS')) hacc
theorem J8 {kss:List (List Int)} {Q:Value->Shared->Prop} (K:KdlSrc prog w T r d n P OK) (hh:A.handled=none) (hu:A.units + 8 < cLine) (hok:OK s.heap) (hn:n < 64) (hT:∀ acc:Array Value,ItemsOf P acc n->TsV prog w s.heap acc.toList kss)
  (h:∀ (h':Heap) (tk:Nat) (D:Addr) (acc:Array Value) (out:List Value) (e:Nat),ItemsOf P acc n->s.heap.objs.size≤D->h'.get? D=some (seqObj "list" out.toArray e)->TsV prog w h' out (srt kss)->out.length=n->(∀ v∈out,v∈acc.toList)->(∀ b o,s.heap.get? b=some o->h'.get? b=some o)->Q (.ref D) { s with heap:=h',toks:=tk }) :
  wpAny (model prog w) A (call (.builtin "sorted") [.ref r]) Q E s:=by
 refine Calls.call_function_entry kind_sorted plain_sorted entry_sorted (args_sorted1 _) ?_
 unfold Builtin.sorted
 refine AA (B2 (a:=()) rfl ?_)
 refine AA (qDA (A:=A.in1) K hh hok (by rw [BU];omega) fun h1 tk acc hk1 hs1 hacc => ?_)
 have V1:TsV prog w h1 acc.toList kss:=(hT acc hacc).keep fun b o _ ho=>hk1 b o ho
 have hlen:acc.toList.length=n:=by rw [Ar];exact hacc.1
 refine AA (By ?_ (Aa (Nat.le_of_eq hlen) (by rw [BU];omega)))
 have hD:(h1.push { cls := .type "list",data := .seq acc.toList.toArray }).get? h1.objs.size=some (seqObj "list" acc.toList.toArray 0):=AT _ rfl
 refine AA (As (Ay slot_list_sort ⟨_,hD,rfl⟩ entry_list_sort ?_ (args_list_sort _)))
 refine qHP (s:={ s with heap:=h1.push { cls := .type "list",data := .seq acc.toList.toArray },toks:=tk }) (by show A.units + 2 < cLine;omega) hD (V1.keep fun b o _ ho=>AF _ ho) (by omega) fun out hin hol V2=>⟨_,rfl,?_⟩
 refine AE ⟨_,rfl,?_⟩
 obtain ⟨e,he⟩:=sortedHeap_at (vs:=acc.toList) (out:=out.toArray) hD
 have hkeep:∀ b o,b≠h1.objs.size->(h1.push { cls := .type "list",data := .seq acc.toList.toArray }).get? b=some o->b < h1.objs.size->(sortedHeap (h1.push { cls := .type "list",data := .seq acc.toList.toArray }) h1.objs.size acc.toList out.toArray).get? b=some o:=fun b o hb ho hlt=>by
  rw [sortedHeap_old hb (by rw [A9];exact BB hlt)]
  exact ho
 refine h _ tk _ acc out e hacc hs1 he ?_ (by omega) hin fun b o' hb => ?_
 ·refine V2.keep fun b o ⟨ks,k⟩ ho=>hkeep b o (fun z=>qAe hD (show Value.type "list" ≠ Value.type "tuple" by decide) ks (by rw [← z];exact k)) ho ?_
  have hlt:=AJ ho
  have hnb:b≠h1.objs.size:=fun z=>qAe hD (show Value.type "list" ≠ Value.type "tuple" by decide) ks (by rw [← z];exact k)
  rw [A9] at hlt
  have hlt:b < h1.objs.size + 1:=hlt
  exact Nat.lt_of_le_of_ne (Nat.le_of_lt_succ hlt) hnb
 ·have hb1:=hk1 b o' hb
  exact hkeep b o' (AU (AJ hb1)) (AF _ hb1) (AJ hb1)
end
section
variable {X:Cx} {e:Expr} {te:TE} {p pos:Pos}
def qHG (K:W.Frag) (te:TE):TE:=fun σ H Q=>te σ H fun x H1 => ∃ a vs kss,x = .ref a∧H1 a=some (.dT vs)∧vs.map (·.1)=kss.map (·.map Sum.inl)∧(∀ ks∈kss,ks≠[])∧kss.length < 64 ∧ ∀ p (L:List (V×List Int)),H1 p=none->(∀ q∈L,∃ c,q.1 = .ref c∧H1 c=some (.tup (q.2.map V.int)))->L.map (·.2)=srt kss->Q (.ref p) (upd H1 p (.lst (L.map (·.1))))
theorem qBJ:∀ k:List Int,(k.map Sum.inl:List Key).map kV=k.map V.int
 |[]=>rfl
 |a::k=>by rw [AK,AK,AK,qBJ k];rfl
theorem j8 {K:W.Frag} {H:Hp}:∀ {vs:List (List Key×V)} {xs:List (List Key×Addr×Value)} {kss:List (List Int)},L2.KT H vs xs->vs.map (·.1)=kss.map (·.map Sum.inl)->(∀ ks∈kss,ks≠[])->TsL K H (xs.map fun x=>V.ref x.2.1) kss ∧ ∀ q∈(xs.map fun x=>V.ref x.2.1).zip kss,∃ c,q.1 = .ref c∧H c=some (.tup (q.2.map V.int))
 |[],[],[],_,_,_=>⟨.nil,fun q hq=>by cases hq⟩
 |[],[],_::_,_,h,_=>by cases h
 |[],_::_,_,r,_,_=>by cases r
 |_::_,[],_,r,_,_=>by cases r
 |v::vs,x::xs,[],_,h,_=>by cases h
 |v::vs,x::xs,k::kss,r,h,hne=>by
  cases r with
  |cons r1 r2 =>
   rw [AK,AK] at h
   obtain ⟨h1,h2⟩:=BZ h
   obtain ⟨i1,i2⟩:=j8 (K:=K) r2 h2 fun ks hk=>hne ks (AG _ hk)
   have hx:H x.2.1=some (.tup (k.map V.int)):=by
    have:=r1.2.1
    rw [h1,qBJ] at this
    exact this
   rw [AK]
   refine ⟨.cons (.inl (.inl hx)) (hne _ AD) i1,fun q hq => ?_⟩
   rw [Aj] at hq
   rcases AL.mp hq with z |z
   ·rw [z];exact ⟨_,rfl,hx⟩
   ·exact i2 q z
theorem qDE (hc:X.calm=true) (hu:X.A.units + 64 < cLine) (hg:Gl X "sorted") (hm:X.mg "sorted" = none) (he:PE X e te) (h1:starEach [e] X.env=(false,eval e X.env)::starEach [] X.env:=by rfl) :
  PE X (.Call (.Name "sorted" p) [e] [] pos) (qHG X.K te):=by
 intro pins s σ H Q I h
 refine BS (Wx I hg hm PyProof.Rows.boot_sorted ?_ (by decide) (by decide))
 refine PyProof.Rows.callWith_builtin1 ?_ h1 rfl
 rw [h1]
 show wpAny _ _ (spliced ((false,eval e X.env)::[])) _ _ s
 refine Calls.spliced_cons (thn (he pins s σ H _ I h) fun u s1 ⟨x,H1,I1,r1,q1⟩=>Calls.spliced_nil ?_)
 obtain ⟨a,vs,kss,rfl,e0,ek,hne,h64,q⟩:=q1
 cases r1
 have hh:X.A.handled=none:=I.ok.hd hc
 have ok:ObjOk X.prog X.w H1 s1.heap a (.dT vs):=I1.hok a _ e0
 obtain ⟨hz,y,xs,rr,o,es,ep,e1,ex,ed,el,nd⟩:=id ok
 have hl:es.size=vs.length:=by rw [← Ar,el,AB];exact rr.length.symm
 have hl2:vs.length=kss.length:=by have:=B3 List.length ek;rwa [AB,AB] at this
 obtain ⟨T,hT⟩:=j8 (K:=X.K) rr ek hne
 have rv:=qFS rr
 have hacc':∀ acc:Array Value,ItemsOf (fun i v => ∃ e,es[i]? = some e∧v=e.key) acc es.size->acc.toList=xs.map fun x=>Value.ref x.2.1:=fun acc' hacc=>by
  have hkey:∀ (i:Nat) (x:List Key×Addr×Value),xs[i]? = some x->acc'[i]? = some (Value.ref x.2.1):=fun i x hx=>by
   have hi:i < acc'.size:=by rw [hacc.1,← Ar,el,AB];exact (AV.mp hx).1
   obtain ⟨en,h1,h2⟩:=hacc.2 i _ (Aw hi)
   rw [← B7,el,Ac,hx] at h1
   cases h1
   rw [Aw hi,h2];rfl
  refine List.ext_getElem? fun i => ?_
  rw [B7,Ac]
  cases hx:xs[i]? with
  |some x=>rw [hkey i x hx];rfl
  |none =>
   have:xs.length≤i:=List.getElem?_eq_none_iff.mp hx
   exact Array.getElem?_eq_none (by rw [hacc.1,← Ar,el,AB];exact this)
 refine J8 (s:=s1) (qE2 (es:=es) (ep:=ep) y) hh (by omega) ⟨o,e1,ex,ed⟩ (by omega) (fun acc ha=>by rw [hacc' acc ha];exact tsv_of I1 T rv) fun h' tk D acc out e' ha hD hg3 V hol hin hk => ?_
 rw [hacc' acc ha] at hin
 obtain ⟨L,lk,rv2,hin2⟩:=qEL I1 T rv hk V hin
 have hlen:(L.map (·.1)).length≤sizeLine:=by rw [rv2.length,hol,BU];omega
 exact ⟨.ref D,_,I1.laid (t':=tk) (h':=h') (o := .lst (L.map (·.1))) hk hD ⟨hlen,out,e',rv2,by simpa using hg3⟩,rfl,q _ L (I1.hok.fresh hD) (fun q hq=>hT q (hin2 q hq)) lk⟩
end
end ET
namespace EV
open PySem PySem.Spec PyProof.Rows L2 EX ET
theorem qEH:∀ {k:List L2.Key} {ks:List Int},QC yG (k.map kp)=some ks->k=ks.map Sum.inl
 |[],_,h=>by cases h;rfl
 | .inr _::_,_,h=>by cases h
 | .inl i::k,ks,h=>by
  rw [AK] at h
  unfold QC at h
  rw [show yG (kp (Sum.inl i))=some i from rfl] at h
  dsimp only at h
  cases e:QC yG (k.map kp) with
  |none=>rw [e] at h;cases h
  |some l=>rw [e] at h;cases h;rw [qEH e];rfl
theorem qFt:∀ {k:List L2.Key} {ks:List Int},Wo (yJ k)=some ks->k=ks.map Sum.inl∧ks≠[]
 |[],_,h=>by cases h
 |x::k,ks,h=>by
  have h1:x::k=ks.map Sum.inl:=qEH (k:=x::k) h
  exact ⟨h1,fun z=>by rw [z] at h1;cases h1⟩
theorem JU:∀ {l:List (List L2.Key×PV)} {kss:List (List Int)},QC Wo (l.map fun kv=>yJ kv.1)=some kss->l.map (·.1)=kss.map (·.map Sum.inl) ∧ ∀ ks∈kss,ks≠[]
 |[],kss,h=>by cases h;exact ⟨rfl,fun ks hk=>by cases hk⟩
 |k::l,kss,h=>by
  rw [AK] at h
  unfold QC at h
  cases e1:Wo (yJ k.1) with
  |none=>rw [e1] at h;cases h
  |some ks =>
   rw [e1] at h
   dsimp only at h
   cases e2:QC Wo (l.map fun kv=>yJ kv.1) with
   |none=>rw [e2] at h;cases h
   |some kss' =>
    rw [e2] at h
    cases h
    obtain ⟨h1,h2⟩:=qFt e1
    obtain ⟨h3,h4⟩:=JU e2
    exact ⟨by rw [AK,h1,h3];rfl,fun z hz=>(AL.mp hz).elim (fun q=>by rw [q];exact h2) (h4 z)⟩
def yT:PV->qB->Rs PV:=fun o s=>match o with
 | .ref i=>match s[i]? with
  |some (.d kvs)=>match QC Wo (kvs.map fun kv=>yJ kv.1) with
   |some kss=>if kss.length < 64 then .ok (.lst ((srt kss).map zC)) s else .no
   |none => .no
  |_ => .no
 |_ => .no
def ZP (f:FE):FE:=fun r st=>(f r st).bind yT
theorem yq {K:W.Frag} {H:Hp} {b:Bz} {st:qB} (S:SR K H b st):∀ {L:List (V×List Int)},(∀ q∈L,∃ c,q.1 = .ref c∧H c=some (.tup (q.2.map V.int)))->RVs K H b ((L.map (·.2)).map zC) (L.map (·.1))
 |[],_=>RVs.nil
 |q::L,h=>by
  obtain ⟨c,h1,h2⟩:=h q AD
  rw [AK,AK,AK]
  refine RVs.cons ?_ (yq S fun z hz=>h z (AG _ hz))
  rw [h1]
  unfold zC RV
  exact ⟨c,_,rfl,.inl ⟨h2,S.tup_out h2⟩,Wq q.2⟩
theorem qER {X:Cx} {E:XK} {e:Expr} {f:FE} {p pos:Pos} (hc:X.calm=true) (hu:X.A.units + 64 < cLine) (hm:X.mg "sorted" = none) (h:VE X E e f) (hg:Gl X "sorted" := by rfl) (h1:starEach [e] X.env=(false,eval e X.env)::starEach [] X.env:=by rfl) :
  VE X E (.Call (.Name "sorted" p) [e] [] pos) (ZP f) :=
 PE.imp (qDE hc hu hg hm h h1) fun s H Q ⟨b,r,st,S,R,P⟩=>⟨b,r,st,S,R,PostE.bind P fun q s1 u H1 b1 e1 S1 r1 P1=>by
  unfold yT at P1
  split at P1
  ·rename_i i
   split at P1
   ·rename_i kvs hd
    split at P1
    ·rename_i kss ek
     split at P1
     ·rename_i hn
      obtain ⟨x,vs,rfl,B⟩:=Bef.of S1 r1 hd
      obtain ⟨h2,h3⟩:=JU ek
      rw [B.ks] at h2
      exact ⟨x,vs,kss,rfl,B.h,h2,h3,hn,fun p L hp hin hL=>PostN.lay (PostN.of (r := .ok ((srt kss).map zC) s1) P1) S1 (by rw [← hL];exact yq S1 hin) hp⟩
     ·exact P1.elim
    ·exact P1.elim
   ·exact P1.elim
  ·exact P1.elim⟩
end EV
end
noncomputable section
namespace K91
open PySem PySem.Spec PyProof.Rows L2 EX EV
structure Ad where
 (Z9:Addr)
 (is_whole is_whole_within is_rising is_cell is_floor row_text floor_text floor_read words_text bars_text is_place_word is_bar_word place_of bar_of bars_read law_cell law_mix law_box law_take law_cover law_laid law_floor law_text law_bars_text law:Addr)
def kitTab:List ((String×String)×Bool):=[(("NoneType","int"),false),(("NoneType","bool"),false),(("NoneType","tuple"),false),(("NoneType","str"),false),(("int","int"),true),(("int","bool"),false),(("int","tuple"),false),(("int","str"),false),(("bool","int"),true),(("bool","bool"),true),(("bool","tuple"),false),(("bool","str"),false),(("str","int"),false),(("str","bool"),false),(("str","tuple"),false),(("str","str"),true),(("tuple","int"),false),(("tuple","bool"),false),(("tuple","tuple"),true),(("tuple","str"),false),(("list","int"),false),(("list","bool"),false),(("list","tuple"),false),(("list","str"),false),(("dict","int"),false),(("dict","bool"),false),(("dict","tuple"),false),(("dict","str"),false)]
def qIe (s T:String):Option Bool:=kitTab.lookup (s,T)
def qAN (a:Ad):Prop:=True
instance (a:Ad):Decidable (qAN a):=by unfold qAN;infer_instance
def kit (a:Ad):Value->Value->Option Bool
 | .type s,.type T=>qIe s T
 |_,_=>none
def top (i:Nat):Stmt:=PySem.Challenge.pw_barfloors_k91_floors_and_bars_written.main.body.getD i (.Pass ⟨0,0,0,0⟩)
abbrev wS:Stmt:=top 4
abbrev QD:Stmt:=top 5
abbrev wD:Stmt:=top 6
abbrev WC:Stmt:=top 10
abbrev wU:Stmt:=top 11
abbrev wT:Stmt:=top 19
abbrev Qc:Stmt:=top 20
abbrev Qe:Stmt:=top 21
abbrev Qz:Stmt:=top 22
abbrev Qu:Stmt:=top 23
abbrev QS:Stmt:=top 24
abbrev Qk:Stmt:=top 25
abbrev wZ:Stmt:=top 26
abbrev Wm:Stmt:=top 27
abbrev wF:Stmt:=top 28
abbrev wR:Stmt:=top 30
abbrev WD:Stmt:=top 31
abbrev WH:Stmt:=top 32
abbrev wA:Stmt:=top 33
abbrev Qv:Stmt:=top 34
abbrev Q9:Stmt:=top 35
abbrev Qw:Stmt:=top 36
abbrev Q8:Stmt:=top 37
abbrev QG:Stmt:=top 38
abbrev W7:Stmt:=top 39
def yN (a:Ad):FS:=(qo (ZU (qE (WJ (kit a)) (qA (qC 0) (qA (vC (.ty "int")) qD))) (qIN (qE (WJ (kit a)) (qA (qC 0) (qA (vC (.ty "bool")) qD))))))
def zk (a:Ad):List PV->qB->Rs PV:=QB 1 1 (yN a)
def wL (a:Ad):FS:=(qo (ZU (qE (zk a) (qA (qC 0) qD)) (qC5 gLe gLe (qC 1) (qC 0) (qC 2))))
def Ql (a:Ad):List PV->qB->Rs PV:=QB 3 3 (wL a)
def Zj (a:Ad):FS:=(qo (qE yv (qA (vFz (qp [0] 1 (Yc (qA (vC (.int 1)) (qA (qE zR (qA (qC 0) qD)) qD))) (qi 1) [] [] (qG j6 (qG gIx (qC 0) (qG zS (qC 1) (vC (.int 1)))) (qG gIx (qC 0) (qC 1))))) qD)))
def wm (a:Ad):List PV->qB->Rs PV:=QB 1 1 (Zj a)
def Yf (a:Ad):FS:=(qS (Q4 (Wi (wQ (QE (qE (WJ (kit a)) (qA (qC 0) (qA (vC (.ty "tuple")) qD))))) (vTB (qG gNe (qE zR (qA (qC 0) qD)) (vC (.int 2))))) (qo (vC (.bl false))) QY) (qo (qE yv (qA (vFz (qp [] 1 (qx (qC 0)) (qi 0) [] [] (qE (Ql a) (qA (qC 0) (qA (vC (.int 0)) (qA (vC (.int 7)) qD)))))) qD))))
def Wp (a:Ad):List PV->qB->Rs PV:=QB 1 1 (Yf a)
def yD (a:Ad):FS:=(qS (Q4 (Wi (wQ (QE (qE (WJ (kit a)) (qA (qC 0) (qA (vC (.ty "tuple")) qD))))) (vTB (qG gGt (qE zR (qA (qC 0) qD)) (vC (.int 40))))) (qo (vC (.bl false))) QY) (qo (ZU (qE yv (qA (vFz (qp [] 1 (qx (qC 0)) (qi 0) [] [] (qE (Wp a) (qA (qC 0) qD)))) qD)) (qE (wm a) (qA (qC 0) qD)))))
def Wv (a:Ad):List PV->qB->Rs PV:=QB 1 1 (yD a)
def za (a:Ad):FS:=(qS (Q4 (wQ (QE (qC 0))) (qo (vC (.str "."))) QY) (qo (wM (vC (.str "")) (vFz (qp [0] 1 (Q1 (qA (qG qt (qG gIx (qC 0) (zi (vC (.int 1)))) (vC (.int 1))) qD)) (qi 1) [] [] (vIf (vTB (qG (gIn false) (qC 1) (qC 0))) (vC (.str "#")) (vC (.str "."))))))))
def W4 (a:Ad):List PV->qB->Rs PV:=QB 1 1 (za a)
def Ws (a:Ad):FS:=(qS (Q4 (wQ (QE (qC 0))) (qo (vC (.str "-"))) QY) (qS (qc 1 (qG gIx (qG gIx (qC 0) (zi (vC (.int 1)))) (vC (.int 0)))) (qo (wM (vC (.str "/")) (vFz (qp [0] 1 (Q1 (qA (qG qt (qC 1) (vC (.int 1))) qD)) (qi 1) [] [] (qE (W4 a) (qA (vFz (qp [1] 2 (qx (qC 0)) (wu 2 (qd (qi 1) (qd (qi 2) w8))) [(vTB (qG gEq (qC 1) (qC 0)))] [] (qC 2))) qD))))))))
def wJ (a:Ad):List PV->qB->Rs PV:=QB 1 2 (Ws a)
def W6 (a:Ad):FS:=(qS (Q4 (wQ (QE (qE (WJ (kit a)) (qA (qC 0) (qA (vC (.ty "str")) qD))))) qCX QY) (qS (qc 1 (vFz (zp (qC 0) (vC (.str "/"))))) (qS (qc 2 (qE wH (qA (vFz (qp [] 4 (JI (qA (qC 1) qD)) (wu 2 (qd (qi 0) (qd (qi 1) w8))) [] [⟨(Ze (qA (qC 1) qD)),(wu 2 (qd (qi 2) (qd (qi 3) w8))),[(vTB (qG gEq (qC 3) (vC (.str "#"))))]⟩] (Qr (qA (qC 0) (qA (qC 2) qD))))) qD))) (qS (Q4 (Wi (wQ (QE (qE (Wv a) (qA (qC 2) qD)))) (vTB (qG gNe (qE (wJ a) (qA (qC 2) qD)) (qC 0)))) qCX QY) (qo (qC 2))))))
def w4 (a:Ad):List PV->qB->Rs PV:=QB 1 3 (W6 a)
def ZI (a:Ad):FS:=(qo (vIf (QE (qC 0)) (wM (vC (.str " ")) (qC 0)) (vC (.str "none"))))
def Wz (a:Ad):List PV->qB->Rs PV:=QB 1 1 (ZI a)
def Zv (a:Ad):FS:=(qo (qE (Wz a) (qA (vFz (qp [] 3 (qx (qC 0)) (wu 3 (qd (qi 0) (qd (qi 1) (qd (qi 2) w8)))) [] [] (vJ [(qAp (qC 0)),(qAp (qC 1)),(JV (qG WK (vC (.str "ad")) (qC 2)))] Str.empty))) qD)))
def WW (a:Ad):List PV->qB->Rs PV:=QB 1 1 (Zv a)
def W9 (a:Ad):FS:=(qo (ZU (qG gEq (qE qBU (qA (qC 0) qD)) (vC (.int 2))) (ZU (qG (qAD false) (qG WK (qC 0) (vC (.int 0))) (vC (.str "01234567"))) (qG (qAD false) (qG WK (qC 0) (vC (.int 1))) (vC (.str "01234567"))))))
def ww (a:Ad):List PV->qB->Rs PV:=QB 1 1 (W9 a)
def zW (a:Ad):FS:=(qo (ZU (qG gEq (qE qBU (qA (qC 0) qD)) (vC (.int 3))) (ZU (qE (ww a) (qA (qIn (qC 0) wY (Q2 (vC (.int 2)))) qD)) (qG (qAD false) (qG WK (qC 0) (vC (.int 2))) (vC (.str "ad"))))))
def wg (a:Ad):List PV->qB->Rs PV:=QB 1 1 (zW a)
def yR (a:Ad):FS:=(qo (Qr (qA (yz (vC (.str "01234567")) (qG WK (qC 0) (vC (.int 0)))) (qA (yz (vC (.str "01234567")) (qG WK (qC 0) (vC (.int 1)))) qD))))
def zh (a:Ad):List PV->qB->Rs PV:=QB 1 1 (yR a)
def jt (a:Ad):FS:=(qo (qG qD1 (qE (zh a) (qA (qC 0) qD)) (Qr (qA (yz (vC (.str "ad")) (qG WK (qC 0) (vC (.int 2)))) qD))))
def zD (a:Ad):List PV->qB->Rs PV:=QB 1 1 (jt a)
def zL (a:Ad):FS:=(qS (Q4 (wQ (QE (qE (WJ (kit a)) (qA (qC 0) (qA (vC (.ty "str")) qD))))) qCX QY) (qS (Q4 (vTB (qG gEq (qC 0) (vC (.str "none")))) (qo (Qr qD)) QY) (qS (qc 1 (vFz (zp (qC 0) (vC (.str " "))))) (qS (Q4 (wQ (QE (qE yv (qA (vFz (qp [] 1 (qx (qC 1)) (qi 0) [] [] (qE (wg a) (qA (qC 0) qD)))) qD)))) qCX QY) (qS (qc 2 (qE wH (qA (vFz (qp [] 1 (qx (qC 1)) (qi 0) [] [] (qE (zD a) (qA (qC 0) qD)))) qD))) (qS (Q4 (wQ (QE (qE (wm a) (qA (qC 2) qD)))) qCX QY) (qo (qC 2))))))))
def WX (a:Ad):List PV->qB->Rs PV:=QB 1 3 (zL a)
def yW (a:Ad):FS:=(qS (Q4 (vTB (qG gLt (qC 1) (qE zR (qA (qC 0) qD)))) (qo (qG gIx (qC 0) (qC 1))) QY) (qo (qG qt (qG zn (vC (.int 6151)) (qC 1)) (vC (.int 29)))))
def Wt (a:Ad):List PV->qB->Rs PV:=QB 2 2 (yW a)
def YW (a:Ad):FS:=(qS (qc 2 (qG qt (qG zn (qG qt (qC 0) (vC (.int 1))) (vC (.int 40692))) (qG zn (vC (.int 104729)) (qC 1)))) (qS (qc 2 (qG qt (qG J9 (qG qBV (qC 2) (qC 2)) (vC (.int 2147483399))) (qC 1))) (qo (qG J9 (qG zn (qC 2) (qG qt (qC 2) (vC (.int 31)))) (vC (.int 2147483563))))))
def zM (a:Ad):List PV->qB->Rs PV:=QB 2 3 (YW a)
def Ya (a:Ad):FS:=(qS (qc 2 (qE (Wt a) (qA (qC 0) (qA (qC 1) qD)))) (qS (Q4 (vTB (qG gEq (qG J9 (qC 2) (vC (.int 2))) (vC (.int 0)))) (Zb (wt (qA (qG ji (qC 2) (vC (.int 2))) qD))) QY) (qS (qc 3 (vC (.int 0))) (qS (WQ (Q1 (qA (vC (.int 24)) qD)) (QM 4) (qc 3 (qG qt (qG zn (qC 3) (vC (.int 2147483647))) (qE (zM a) (qA (qC 2) (qA (qC 4) qD)))))) (Zb (wt (qA (qC 3) qD)))))))
def zO (a:Ad):List PV->qB->Rs PV:=QB 2 5 (Ya a)
def ym (a:Ad):FS:=(qS (Zk (qE ZF (qA (qG gIx (qC 0) (vC (.int 0))) (qA (qC 1) qD))) (wu 2 (qd (QM 2) (qd (QM 3) w8)))) (qS (qBG (qC 0) (vC (.int 0)) (qC 2)) (qo (qC 3))))
def qO (a:Ad):List PV->qB->Rs PV:=QB 2 4 (ym a)
def Zu (a:Ad):FS:=(qS (Zk (qC 0) (wu 3 (qd (QM 2) (qd (QM 3) (qd (QM 4) w8))))) (qo (vFz (qp [2,4,3] 1 (Q1 (qA (qC 1) qD)) (qi 3) [] [] (Qr (qA (qG qt (qC 0) (qG zn (qC 3) (qC 1))) (qA (qG zS (qG qt (qC 2) (qC 3)) (qG zn (qC 3) (qC 1))) qD)))))))
def WU (a:Ad):List PV->qB->Rs PV:=QB 2 5 (Zu a)
def zd (a:Ad):FS:=(qS (qc 3 (vFz (wt qD))) (qS (zX 4 (wt qD)) (qS (Jl 5 6 (qA (qG qt (qC 1) (qE (qO a) (qA (qC 0) (qA (qG zS (vC (.int 9)) (qC 1)) qD)))) (qA (qG qt (qC 1) (qE (qO a) (qA (qC 0) (qA (qG zS (vC (.int 9)) (qC 1)) qD)))) qD))) (qS (WQ (Q1 (qA (qG qt (vC (.int 1)) (qE (qO a) (qA (qC 0) (qA (qC 2) qD)))) qD)) (QM 7) (qS (qc 8 (Qr (qA (qE (qO a) (qA (qC 0) (qA (qC 5) qD))) (qA (qE (qO a) (qA (qC 0) (qA (qC 6) qD))) (qA (qE (qO a) (qA (qC 0) (qA (vC (.int 2)) qD))) qD))))) (qS (Q4 (Wn (vTB (qG gNe (qC 4) (vFz (wt qD)))) (vTB (qG gEq (qE (qO a) (qA (qC 0) (qA (vC (.int 2)) qD))) (vC (.int 0))))) (qS (qc 9 (qG gIx (qC 4) (zi (vC (.int 1))))) (qc 8 (Qr (qA (qE yY (qA (vC (.int 7)) (qA (qG zS (qG qt (qG gIx (qC 9) (vC (.int 0))) (vC (.int 1))) (qG gIx (qC 9) (vC (.int 2)))) qD))) (qA (qE yY (qA (vC (.int 7)) (qA (qG qt (qG gIx (qC 9) (vC (.int 1))) (qG gIx (qC 9) (vC (.int 2)))) qD))) (qA (qG gIx (qC 9) (vC (.int 2))) qD)))))) QY) (qS (qc 10 (qE (WU a) (qA (qC 8) (qA (qC 1) qD)))) (Q4 (Wn (vTB (qG qCF (qE yO (qA (qC 10) qD)) (Qr (qA (vC (.int 7)) (qA (vC (.int 7)) qD))))) (Wn (vTB (qG gLt (qE zG (qA (vFz (qp [] 1 (qx (qC 10)) (qi 0) [] [] (qG gIx (qC 0) (vC (.int 1))))) qD)) (vC (.int 8)))) (vTB (qG gEq (vFz (qp [3] 1 (qx (qC 10)) (qi 1) [(vTB (qG (gIn false) (qC 1) (qC 0)))] [] (qC 1))) (vFz (wt qD)))))) (qS (wO (qC 4) (qC 8)) (qc 3 (vFz (yL (qC 3) (qC 10))))) QY))))) (qo (Qr (qA (qE wH (qA (zj (qC 3)) qD)) (qA (qE wH (qA (zj (qC 4)) qD)) qD))))))))
def wa (a:Ad):List PV->qB->Rs PV:=QB 3 11 (zd a)
def zJ (a:Ad):FS:=(qS (qc 3 (qE (qO a) (qA (qC 0) (qA (vC (.int 5)) qD)))) (qS (Jl 4 5 (qA (qG qt (vC (.int 1)) (qE (qO a) (qA (qC 0) (qA (vC (.int 6)) qD)))) (qA (qG qt (vC (.int 1)) (qE (qO a) (qA (qC 0) (qA (vC (.int 6)) qD)))) qD))) (qS (Zk (Qr (qA (qE (qO a) (qA (qC 0) (qA (qG zS (vC (.int 9)) (qC 4)) qD))) (qA (qE (qO a) (qA (qC 0) (qA (qG zS (vC (.int 9)) (qC 5)) qD))) qD))) (wu 2 (qd (QM 6) (qd (QM 7) w8)))) (qS (qc 8 (vFz (wt qD))) (qS (WQ (Q1 (qA (qC 4) qD)) (QM 9) (qc 8 (vFz (yL (qC 8) (vFz (qp [6,9,7,3,0] 1 (Q1 (qA (qC 5) qD)) (qi 5) [(Wi (vTB (qG gEq (qC 3) (vC (.int 0)))) (vTB (qG gGt (qE (qO a) (qA (qC 4) (qA (vC (.int 6)) qD))) (vC (.int 0)))))] [] (Qr (qA (qG qt (qC 0) (qC 1)) (qA (qG qt (qC 2) (qC 5)) qD))))))))) (qS (Q4 (vTB (qG gGt (qC 3) (vC (.int 2)))) (qo (qG gIx (qE (wa a) (qA (qC 0) (qA (qC 1) (qA (qE qAI (qA (vC (.int 1)) (qA (qG ji (qC 2) (qC 1)) qD))) qD)))) (vC (.int 0)))) QY) (qo (qE wH (qA (qDB (zj (qC 8)) wY (Q2 (qC 2))) qD)))))))))
def wG (a:Ad):List PV->qB->Rs PV:=QB 3 10 (zJ a)
def Wy (a:Ad):FS:=(qS (Q4 (vTB (qG gEq (qC 0) (Qr qD))) (qo (vC (.str "-"))) QY) (qS (zX 1 (wt qD)) (qS (WQ (Q1 (qA (qG qt (qG gIx (qG gIx (qC 0) (zi (vC (.int 1)))) (vC (.int 0))) (vC (.int 1))) qD)) (QM 2) (qS (qc 3 (vFz (qp [2] 2 (qx (qC 0)) (wu 2 (qd (qi 1) (qd (qi 2) w8))) [(vTB (qG gEq (qC 1) (qC 0)))] [] (qC 2)))) (qS (qc 4 (qG qt (qE zG (qA (vFz (yL (qC 3) (vFz (wt (qA (zi (vC (.int 1))) qD))))) qD)) (vC (.int 1)))) (qS (qc 5 (vFz (qp [3] 1 (Q1 (qA (qC 4) qD)) (qi 1) [] [] (qG WK (vC (.str ".#")) (qE qCU (qA (qG (gIn false) (qC 1) (qC 0)) qD)))))) (wO (qC 1) (jq (wM (vC (.str "")) (qC 5)) (vC (.str ".")))))))) (qo (wM (vC (.str "/")) (qC 1))))))
def W0 (a:Ad):List PV->qB->Rs PV:=QB 1 6 (Wy a)
def W8 (a:Ad):FS:=(qS (qc 1 (vFz (qp [] 3 (qx (qC 0)) (wu 3 (qd (qi 0) (qd (qi 1) (qd (qi 2) w8)))) [] [] (qG Jw (qG Jw (qE qAH (qA (qC 0) qD)) (qE qAH (qA (qC 1) qD))) (qG WK (vC (.str "ad")) (qC 2)))))) (qo (jq (wM (vC (.str " ")) (qC 1)) (vC (.str "none")))))
def Q6 (a:Ad):List PV->qB->Rs PV:=QB 1 2 (W8 a)
def qF6 (a:Ad):FS:=(qS (WQ (Q1 (qA (qE qAI (qA (vC (.int 1)) (qA (qE yY (qA (qE zR (qA (qC 0) qD)) (qA (vC (.int 6)) qD))) qD))) qD)) (QM 1) (qS (qc 2 (qE (zO a) (qA (qC 0) (qA (qC 1) qD)))) (qS (qc 3 (qG qt (vC (.int 2)) (qE (qO a) (qA (qC 2) (qA (vC (.int 4)) qD))))) (qS (Zk (qE (wa a) (qA (qC 2) (qA (qC 3) (qA (qG ji (vC (.int 40)) (qC 3)) qD)))) (wu 2 (qd (QM 4) (qd (QM 5) w8)))) (qS (qc 6 qEC) (qS (WQ (Q1 (qA (qE (qO a) (qA (qC 2) (qA (vC (.int 9)) qD))) qD)) (QM 7) (yh (qC 6) (Qr (qA (qE (qO a) (qA (qC 2) (qA (vC (.int 8)) qD))) (qA (qE (qO a) (qA (qC 2) (qA (vC (.int 8)) qD))) (qA (qE (qO a) (qA (qC 2) (qA (vC (.int 2)) qD))) qD)))) (vC (.bl true)))) (qS (WQ (qx (vFz (wt (qA (qC 4) (qA (qE (wG a) (qA (qC 2) (qA (qC 3) (qA (vC (.int 40)) qD)))) (qA (Zy (qC 4) (Q2 (vC (.int 1))) wY) (qA (Zy (qC 4) wY (Q2 (zi (vC (.int 1))))) (qA (Zy (qC 4) (Q2 (vC (.int 3))) wY) (qA (Qr qD) qD))))))))) (QM 8) (qS (qc 9 (qE (wJ a) (qA (qC 8) qD))) (Q4 (Wi (wQ (QE (qE (WJ (kit a)) (qA (qC 9) (qA (vC (.ty "str")) qD))))) (Wi (vTB (qG gNe (qC 9) (qE (W0 a) (qA (qC 8) qD)))) (vTB (qG gNe (qE (w4 a) (qA (qC 9) qD)) (qC 8))))) (qo (vC (.bl false))) QY))) (WQ (qx (vFz (wt (qA (qC 5) (qA (qE wH (qA (ZP (qC 6)) qD)) (qA (Qr qD) qD)))))) (QM 10) (qS (qc 9 (qE (WW a) (qA (qC 10) qD))) (Q4 (Wi (wQ (QE (qE (WJ (kit a)) (qA (qC 9) (qA (vC (.ty "str")) qD))))) (Wi (vTB (qG gNe (qC 9) (qE (Q6 a) (qA (qC 10) qD)))) (vTB (qG gNe (qE (WX a) (qA (qC 9) qD)) (qC 10))))) (qo (vC (.bl false))) QY)))))))))) (qo (vC (.bl true))))
def jy (a:Ad):List PV->qB->Rs PV:=QB 1 11 (qF6 a)
structure Env (K:W.Frag) (mg:Str->Option Value) (a:Ad):Prop where
 kit:KitOk K (kit a)
 nk:qFk K
 n_all:mg "all" = none
 n_bool:mg "bool" = none
 n_divmod:mg "divmod" = none
 n_enumerate:mg "enumerate" = none
 n_int:mg "int" = none
 n_isinstance:mg "isinstance" = none
 n_len:mg "len" = none
 n_max:mg "max" = none
 n_min:mg "min" = none
 n_range:mg "range" = none
 n_sorted:mg "sorted" = none
 n_str:mg "str" = none
 n_tuple:mg "tuple" = none
 c_MOST_CELLS:∃ t,mg "MOST_CELLS" = some (.int 40 t)
 c_LAST_LINE:∃ t,mg "LAST_LINE" = some (.int 7 t)
 c_CELL:∃ t,mg "CELL" = some (.str "#" t)
 c_GAP:∃ t,mg "GAP" = some (.str "." t)
 c_NO_CELLS:∃ t,mg "NO_CELLS" = some (.str "-" t)
 c_NONE:∃ t,mg "NONE" = some (.str "none" t)
 c_FIGURES:∃ t,mg "FIGURES" = some (.str "01234567" t)
 c_WAY_SIGNS:∃ t,mg "WAY_SIGNS" = some (.str "ad" t)
 k_Z9:mg "NoText" = some (.ref a.Z9)
 m_is_whole:mg "is_whole" = some (.ref a.is_whole)
 f_is_whole:∃ fd,Fun K "is_whole" "is_whole" wS a.is_whole fd
 m_is_whole_within:mg "is_whole_within" = some (.ref a.is_whole_within)
 f_is_whole_within:∃ fd,Fun K "is_whole_within" "is_whole_within" QD a.is_whole_within fd
 m_is_rising:mg "is_rising" = some (.ref a.is_rising)
 f_is_rising:∃ fd,Fun K "is_rising" "is_rising" wD a.is_rising fd
 m_is_cell:mg "is_cell" = some (.ref a.is_cell)
 f_is_cell:∃ fd,Fun K "is_cell" "is_cell" WC a.is_cell fd
 m_is_floor:mg "is_floor" = some (.ref a.is_floor)
 f_is_floor:∃ fd,Fun K "is_floor" "is_floor" wU a.is_floor fd
 m_row_text:mg "row_text" = some (.ref a.row_text)
 f_row_text:∃ fd,Fun K "row_text" "row_text" wT a.row_text fd
 m_floor_text:mg "floor_text" = some (.ref a.floor_text)
 f_floor_text:∃ fd,Fun K "floor_text" "floor_text" Qc a.floor_text fd
 m_floor_read:mg "floor_read" = some (.ref a.floor_read)
 f_floor_read:∃ fd,Fun K "floor_read" "floor_read" Qe a.floor_read fd
 m_words_text:mg "words_text" = some (.ref a.words_text)
 f_words_text:∃ fd,Fun K "words_text" "words_text" Qz a.words_text fd
 m_bars_text:mg "bars_text" = some (.ref a.bars_text)
 f_bars_text:∃ fd,Fun K "bars_text" "bars_text" Qu a.bars_text fd
 m_is_place_word:mg "is_place_word" = some (.ref a.is_place_word)
 f_is_place_word:∃ fd,Fun K "is_place_word" "is_place_word" QS a.is_place_word fd
 m_is_bar_word:mg "is_bar_word" = some (.ref a.is_bar_word)
 f_is_bar_word:∃ fd,Fun K "is_bar_word" "is_bar_word" Qk a.is_bar_word fd
 m_place_of:mg "place_of" = some (.ref a.place_of)
 f_place_of:∃ fd,Fun K "place_of" "place_of" wZ a.place_of fd
 m_bar_of:mg "bar_of" = some (.ref a.bar_of)
 f_bar_of:∃ fd,Fun K "bar_of" "bar_of" Wm a.bar_of fd
 m_bars_read:mg "bars_read" = some (.ref a.bars_read)
 f_bars_read:∃ fd,Fun K "bars_read" "bars_read" wF a.bars_read fd
 m_law_cell:mg "_law_cell" = some (.ref a.law_cell)
 f_law_cell:∃ fd,Fun K "_law_cell" "_law_cell" wR a.law_cell fd
 m_law_mix:mg "_law_mix" = some (.ref a.law_mix)
 f_law_mix:∃ fd,Fun K "_law_mix" "_law_mix" WD a.law_mix fd
 m_law_box:mg "_law_box" = some (.ref a.law_box)
 f_law_box:∃ fd,Fun K "_law_box" "_law_box" WH a.law_box fd
 m_law_take:mg "_law_take" = some (.ref a.law_take)
 f_law_take:∃ fd,Fun K "_law_take" "_law_take" wA a.law_take fd
 m_law_cover:mg "_law_cover" = some (.ref a.law_cover)
 f_law_cover:∃ fd,Fun K "_law_cover" "_law_cover" Qv a.law_cover fd
 m_law_laid:mg "_law_laid" = some (.ref a.law_laid)
 f_law_laid:∃ fd,Fun K "_law_laid" "_law_laid" Q9 a.law_laid fd
 m_law_floor:mg "_law_floor" = some (.ref a.law_floor)
 f_law_floor:∃ fd,Fun K "_law_floor" "_law_floor" Qw a.law_floor fd
 m_law_text:mg "_law_text" = some (.ref a.law_text)
 f_law_text:∃ fd,Fun K "_law_text" "_law_text" Q8 a.law_text fd
 m_law_bars_text:mg "_law_bars_text" = some (.ref a.law_bars_text)
 f_law_bars_text:∃ fd,Fun K "_law_bars_text" "_law_bars_text" QG a.law_bars_text fd
 m_law:mg "law" = some (.ref a.law)
 f_law:∃ fd,Fun K "law" "law" W7 a.law fd
section
variable {P:Program} {w:World} {K:W.Frag} {mg:Str->Option Value} {base:Heap} {a:Ad}
theorem Ji:FnScope ["thing"] ["thing"] (qH wS):=⟨rfl,rfl,rfl,by decide +kernel,rfl,by decide +kernel,by decide +kernel⟩
theorem Jx (V:Env K mg a):DefG P w K mg base 2 "is_whole" a.is_whole 1 (zk a):=by
 obtain ⟨fd,F⟩:=V.f_is_whole
 refine Qn (B:=yN a) F Ji (F.binds (ps:=["thing"]) fun _ _ _ _ _ _ us hl=>match us,hl with |[_],_=>rfl) V.m_is_whole (fun l st h=>qZ h) (fun cdv A outer s H E hr hcm => ?_) (fun l s0 hl hn=>qW hl)
 have hu:=hr.units
 exact (@qR _ _ _ _ (@qk _ _ _ _ _ (@zl _ _ _ _ _ _ _ _ (@zI _ _ _ _ _ _ _ _ V.kit V.n_isinstance (@qX _ _ _ _ _ _ _ (@qI _ _ 0 _ _ (by rfl) (by rfl) (by rfl)) (@qX _ _ _ _ _ _ _ (@Zi _ _ _ _ _ rfl V.n_int Boot.«int» (by decide) (by decide)) qF)) (by rfl) (by rfl) (by rfl)) (@zw _ _ _ _ _ _ (@qG0 _ _ _ _ _ (@zI _ _ _ _ _ _ _ _ V.kit V.n_isinstance (@qX _ _ _ _ _ _ _ (@qI _ _ 0 _ _ (by rfl) (by rfl) (by rfl)) (@qX _ _ _ _ _ _ _ (@Zi _ _ _ _ _ rfl V.n_bool Boot.«bool» (by decide) (by decide)) qF)) (by rfl) (by rfl) (by rfl)))))))
theorem zr:FnScope ["thing","least","most"] ["thing","least","most"] (qH QD):=⟨rfl,rfl,rfl,by decide +kernel,rfl,by decide +kernel,by decide +kernel⟩
theorem ZC (V:Env K mg a):DefG P w K mg base 3 "is_whole_within" a.is_whole_within 3 (Ql a):=by
 obtain ⟨fd,F⟩:=V.f_is_whole_within
 refine Qn (B:=wL a) F zr (F.binds (ps:=["thing","least","most"]) fun _ _ _ _ _ _ us hl=>match us,hl with |[_,_,_],_=>rfl) V.m_is_whole_within (fun l st h=>qZ h) (fun cdv A outer s H E hr hcm => ?_) (fun l s0 hl hn=>qW hl)
 have hu:=hr.units
 exact (@qR _ _ _ _ (@qk _ _ _ _ _ (@zl _ _ _ _ _ _ _ _ (@qT _ _ _ _ _ _ _ _ _ ((Jx V).call (hr.mono (by omega)) qm) (@qX _ _ _ _ _ _ _ (@qI _ _ 0 _ _ (by rfl) (by rfl) (by rfl)) qF) (by rfl) (by rfl)) (@zw _ _ _ _ _ _ (@qD7 _ _ _ _ _ _ _ _ _ _ _ _ _ _ _ qF8 qF8 qGO qGO (@qI _ _ 1 _ _ (by rfl) (by rfl) (by rfl)) (@qI _ _ 0 _ _ (by rfl) (by rfl) (by rfl)) (@qI _ _ 2 _ _ (by rfl) (by rfl) (by rfl)) (by with_unfolding_all rfl))))))
theorem Yt:FnScope ["things"] ["things"] (qH wD):=⟨rfl,rfl,rfl,by decide +kernel,rfl,by decide +kernel,by decide +kernel⟩
theorem Zh (V:Env K mg a):DefG P w K mg base 2 "is_rising" a.is_rising 1 (wm a):=by
 obtain ⟨fd,F⟩:=V.f_is_rising
 refine Qn (B:=Zj a) F Yt (F.binds (ps:=["things"]) fun _ _ _ _ _ _ us hl=>match us,hl with |[_],_=>rfl) V.m_is_rising (fun l st h=>qZ h) (fun cdv A outer s H E hr hcm => ?_) (fun l s0 hl hn=>qW hl)
 have hu:=hr.units
 exact (@qR _ _ _ _ (@qk _ _ _ _ _ (@jO _ _ _ _ _ _ _ (@jP _ _ _ _ _ _ _ _ _ (@QX _ _ _ _ (@QZ _ _ _ _ _ _ _ (["things"]) (["at"]) ([0]) _ _ _ _ _ (by exact Qp rfl (by decide +kernel) rfl rfl ⟨⟨rfl,rfl⟩,trivial⟩) (@qBu _ _ _ _ _ _ _ _ rfl V.n_range (@WT _ _ _ _ _ _ _ _ qL (@wk _ _ _ _ _ _ _ _ _ (@ZL _ _ _ _ _ _ _ (@qX _ _ _ _ _ _ _ (@qI _ _ 0 _ _ (by rfl) (by rfl) (by rfl)) qF) V.n_len (by rfl) (by rfl) (by rfl)) qF)) (by rfl) (by rfl)) (fun s' H' fp pn=>⟨(@qGS _ _ _ _ _ _ _ hu (@wl _ _ _ _ _ _ _ (@qI _ _ 0 _ _ (by rfl) (by rfl) (by rfl)) (@zZ _ _ _ _ _ _ _ (@qI _ _ 1 _ _ (by rfl) (by rfl) (by rfl)) qL) (by exact fun _ _=>rfl)) (@wl _ _ _ _ _ _ _ (@qI _ _ 0 _ _ (by rfl) (by rfl) (by rfl)) (@qI _ _ 1 _ _ (by rfl) (by rfl) (by rfl)) (by exact fun _ _=>rfl))),⟨(@qw _ _ 1 _ (show (["things","at"]:List Str).Nodup by decide +kernel) (by rfl) (by first |exact Or.inl rfl |exact Or.inr rfl) (by first |exact .inl rfl |exact .inr rfl |assumption)),(qV 1),TsOk.nil,rfl⟩,GsOk.nil⟩) (by intro _;rfl))) qF) V.n_all (by rfl) (by rfl) (by rfl))))
theorem Jq:FnScope ["thing"] ["thing"] (qH WC):=⟨rfl,rfl,rfl,by decide +kernel,rfl,by decide +kernel,by decide +kernel⟩
theorem qBx (V:Env K mg a):DefG P w K mg base 4 "is_cell" a.is_cell 1 (Wp a):=by
 obtain ⟨fd,F⟩:=V.f_is_cell
 obtain ⟨_,c_LAST_LINE⟩:=V.c_LAST_LINE
 refine Qn (B:=Yf a) F Jq (F.binds (ps:=["thing"]) fun _ _ _ _ _ _ us hl=>match us,hl with |[_],_=>rfl) V.m_is_cell (fun l st h=>qZ h) (fun cdv A outer s H E hr hcm => ?_) (fun l s0 hl hn=>qW hl)
 have hu:=hr.units
 exact (@qK _ _ _ _ _ _ (@wP _ _ _ _ _ _ _ _ _ (@Jb _ _ _ _ (@Zt _ _ _ _ _ _ _ _ (@WM _ _ _ _ _ (@wx _ _ _ _ (@zI _ _ _ _ _ _ _ _ V.kit V.n_isinstance (@qX _ _ _ _ _ _ _ (@qI _ _ 0 _ _ (by rfl) (by rfl) (by rfl)) (@qX _ _ _ _ _ _ _ (@Zi _ _ _ _ _ rfl V.n_tuple Boot.«tuple» (by decide) (by decide)) qF)) (by rfl) (by rfl) (by rfl)) (by intro _;rfl))) (@ZW _ _ _ _ _ (@QJ _ _ _ _ _ _ _ _ _ _ (zx hu) yI (@ZL _ _ _ _ _ _ _ (@qX _ _ _ _ _ _ _ (@qI _ _ 0 _ _ (by rfl) (by rfl) (by rfl)) qF) V.n_len (by rfl) (by rfl) (by rfl)) qL (by first |exact qz _ |with_unfolding_all rfl))))) (@qR _ _ _ _ (@qk _ _ _ _ _ YT)) QP) (@qR _ _ _ _ (@qk _ _ _ _ _ (@jO _ _ _ _ _ _ _ (@jP _ _ _ _ _ _ _ _ _ (@QX _ _ _ _ (@QZ _ _ _ _ _ _ _ ([]) (["number"]) ([]) _ _ _ _ _ (by exact Qp rfl (by decide +kernel) rfl rfl trivial) (@wn _ _ _ _ _ (@qI _ _ 0 _ _ (by rfl) (by rfl) (by rfl))) (fun s' H' fp pn=>⟨(@qT _ _ _ _ _ _ _ _ _ ((ZC V).call (hr.mono (by omega)) (ql _)) (@qX _ _ _ _ _ _ _ (@qI _ _ 0 _ _ (by rfl) (by rfl) (by rfl)) (@WT _ _ _ _ _ _ _ _ qL (@qX _ _ _ _ _ _ _ (@qAs _ _ _ _ _ _ rfl c_LAST_LINE (by decide)) qF))) (by rfl) (by rfl)),⟨(@qw _ _ 0 _ (show (["number"]:List Str).Nodup by decide +kernel) (by rfl) (by first |exact Or.inl rfl |exact Or.inr rfl) (by first |exact .inl rfl |exact .inr rfl |assumption)),(qV 0),TsOk.nil,rfl⟩,GsOk.nil⟩) (by intro _;rfl))) qF) V.n_all (by rfl) (by rfl) (by rfl)))))
theorem j9:FnScope ["thing"] ["thing"] (qH wU):=⟨rfl,rfl,rfl,by decide +kernel,rfl,by decide +kernel,by decide +kernel⟩
theorem Jo (V:Env K mg a):DefG P w K mg base 5 "is_floor" a.is_floor 1 (Wv a):=by
 obtain ⟨fd,F⟩:=V.f_is_floor
 obtain ⟨_,c_MOST_CELLS⟩:=V.c_MOST_CELLS
 refine Qn (B:=yD a) F j9 (F.binds (ps:=["thing"]) fun _ _ _ _ _ _ us hl=>match us,hl with |[_],_=>rfl) V.m_is_floor (fun l st h=>qZ h) (fun cdv A outer s H E hr hcm => ?_) (fun l s0 hl hn=>qW hl)
 have hu:=hr.units
 exact (@qK _ _ _ _ _ _ (@wP _ _ _ _ _ _ _ _ _ (@Jb _ _ _ _ (@Zt _ _ _ _ _ _ _ _ (@WM _ _ _ _ _ (@wx _ _ _ _ (@zI _ _ _ _ _ _ _ _ V.kit V.n_isinstance (@qX _ _ _ _ _ _ _ (@qI _ _ 0 _ _ (by rfl) (by rfl) (by rfl)) (@qX _ _ _ _ _ _ _ (@Zi _ _ _ _ _ rfl V.n_tuple Boot.«tuple» (by decide) (by decide)) qF)) (by rfl) (by rfl) (by rfl)) (by intro _;rfl))) (@ZW _ _ _ _ _ (@QJ _ _ _ _ _ _ _ _ _ _ qDR qDj (@ZL _ _ _ _ _ _ _ (@qX _ _ _ _ _ _ _ (@qI _ _ 0 _ _ (by rfl) (by rfl) (by rfl)) qF) V.n_len (by rfl) (by rfl) (by rfl)) (@qAs _ _ _ _ _ _ rfl c_MOST_CELLS (by decide)) (by first |exact qz _ |with_unfolding_all rfl))))) (@qR _ _ _ _ (@qk _ _ _ _ _ YT)) QP) (@qR _ _ _ _ (@qk _ _ _ _ _ (@zl _ _ _ _ _ _ _ _ (@jO _ _ _ _ _ _ _ (@jP _ _ _ _ _ _ _ _ _ (@QX _ _ _ _ (@QZ _ _ _ _ _ _ _ ([]) (["cell"]) ([]) _ _ _ _ _ (by exact Qp rfl (by decide +kernel) rfl rfl trivial) (@wn _ _ _ _ _ (@qI _ _ 0 _ _ (by rfl) (by rfl) (by rfl))) (fun s' H' fp pn=>⟨(@qT _ _ _ _ _ _ _ _ _ ((qBx V).call (hr.mono (by omega)) (ql _)) (@qX _ _ _ _ _ _ _ (@qI _ _ 0 _ _ (by rfl) (by rfl) (by rfl)) qF) (by rfl) (by rfl)),⟨(@qw _ _ 0 _ (show (["cell"]:List Str).Nodup by decide +kernel) (by rfl) (by first |exact Or.inl rfl |exact Or.inr rfl) (by first |exact .inl rfl |exact .inr rfl |assumption)),(qV 0),TsOk.nil,rfl⟩,GsOk.nil⟩) (by intro _;rfl))) qF) V.n_all (by rfl) (by rfl) (by rfl)) (@zw _ _ _ _ _ _ (@qT _ _ _ _ _ _ _ _ _ ((Zh V).call (hr.mono (by omega)) qm) (@qX _ _ _ _ _ _ _ (@qI _ _ 0 _ _ (by rfl) (by rfl) (by rfl)) qF) (by rfl) (by rfl)))))))
theorem JY:FnScope ["columns"] ["columns"] (qH wT):=⟨rfl,rfl,rfl,by decide +kernel,rfl,by decide +kernel,by decide +kernel⟩
theorem qAY (V:Env K mg a):DefG P w K mg base 2 "row_text" a.row_text 1 (W4 a):=by
 obtain ⟨fd,F⟩:=V.f_row_text
 obtain ⟨_,c_CELL⟩:=V.c_CELL
 obtain ⟨_,c_GAP⟩:=V.c_GAP
 refine Qn (B:=za a) F JY (F.binds (ps:=["columns"]) fun _ _ _ _ _ _ us hl=>match us,hl with |[_],_=>rfl) V.m_row_text (fun l st h=>qZ h) (fun cdv A outer s H E hr hcm => ?_) (fun l s0 hl hn=>qW hl)
 have hu:=hr.units
 exact (@qK _ _ _ _ _ _ (@wP _ _ _ _ _ _ _ _ _ (@WM _ _ _ _ _ (@wx _ _ _ _ (@qI _ _ 0 _ _ (by rfl) (by rfl) (by rfl)) (by intro _;rfl))) (@qR _ _ _ _ (@qk _ _ _ _ _ (@Qm _ _ _ _ _ _ rfl c_GAP (by decide)))) QP) (@qR _ _ _ _ (@qk _ _ _ _ _ (@Wj _ _ _ _ _ _ _ _ wW (@QX _ _ _ _ (@QZ _ _ _ _ _ _ _ (["columns"]) (["column"]) ([0]) _ _ _ _ _ (by exact Qp rfl (by decide +kernel) rfl rfl ⟨⟨rfl,rfl⟩,trivial⟩) (@QV _ _ _ _ _ _ _ rfl V.n_range (@WS _ _ _ _ _ _ _ _ _ (@qv _ _ _ _ _ _ _ (@wl _ _ _ _ _ _ _ (@qI _ _ 0 _ _ (by rfl) (by rfl) (by rfl)) (@ZR _ _ _ _ _ qL) (by exact fun _ _=>rfl)) qL) qF) (by rfl)) (fun s' H' fp pn=>⟨(@qF4 _ _ _ _ _ _ _ _ _ (@QJ _ _ _ _ _ _ _ _ _ _ (qAf hu) qCr (@qI _ _ 1 _ _ (by rfl) (by rfl) (by rfl)) (@qI _ _ 0 _ _ (by rfl) (by rfl) (by rfl)) (by first |exact qz _ |with_unfolding_all rfl)) (@Qm _ _ _ _ _ _ rfl c_CELL (by decide)) (@Qm _ _ _ _ _ _ rfl c_GAP (by decide))),⟨(@qw _ _ 1 _ (show (["columns","column"]:List Str).Nodup by decide +kernel) (by rfl) (by first |exact Or.inl rfl |exact Or.inr rfl) (by first |exact .inl rfl |exact .inr rfl |assumption)),(qV 1),TsOk.nil,rfl⟩,GsOk.nil⟩) (by intro _;rfl))) (by rfl) (by rfl) (by rfl) (by rfl) (by rfl)))))
theorem sc_floor_text:FnScope ["floor","last_row"] ["floor"] (qH Qc):=⟨rfl,rfl,rfl,by decide +kernel,rfl,by decide +kernel,by decide +kernel⟩
theorem ZK (V:Env K mg a):DefG P w K mg base 3 "floor_text" a.floor_text 1 (wJ a):=by
 obtain ⟨fd,F⟩:=V.f_floor_text
 obtain ⟨_,c_NO_CELLS⟩:=V.c_NO_CELLS
 refine Qn (B:=Ws a) F sc_floor_text (F.binds (ps:=["floor"]) fun _ _ _ _ _ _ us hl=>match us,hl with |[_],_=>rfl) V.m_floor_text (fun l st h=>qZ h) (fun cdv A outer s H E hr hcm => ?_) (fun l s0 hl hn=>qW hl)
 have hu:=hr.units
 have hc:(Wg (CXF P w) P w K mg base ["floor","last_row"] "floor_text" (qH Qc) a.floor_text cdv A outer s H E).calm=true:=by show A.handled.isNone=true;rw [hcm (by omega)];rfl
 exact (@qK _ _ _ _ _ _ (@wP _ _ _ _ _ _ _ _ _ (@WM _ _ _ _ _ (@wx _ _ _ _ (@qI _ _ 0 _ _ (by rfl) (by rfl) (by rfl)) (by intro _;rfl))) (@qR _ _ _ _ (@qk _ _ _ _ _ (@Qm _ _ _ _ _ _ rfl c_NO_CELLS (by decide)))) QP) (@qK _ _ _ _ _ _ (@qy _ _ _ _ _ 1 _ _ sc_floor_text.nd (@wl _ _ _ _ _ _ _ (@wl _ _ _ _ _ _ _ (@qI _ _ 0 _ _ (by rfl) (by rfl) (by rfl)) (@ZR _ _ _ _ _ qL) (by exact fun _ _=>rfl)) qL (by exact fun _ _=>rfl)) (by rfl) (by first |exact Or.inl rfl |exact Or.inr rfl) (by rfl) (by first |exact .inl rfl |exact .inr rfl |assumption)) (@qR _ _ _ _ (@qk _ _ _ _ _ (@Wj _ _ _ _ _ _ _ _ wW (@QX _ _ _ _ (@QZ _ _ _ _ _ _ _ (["floor"]) (["line"]) ([0]) _ _ _ _ _ (by exact Qp rfl (by decide +kernel) rfl rfl ⟨⟨rfl,rfl⟩,trivial⟩) (@QV _ _ _ _ _ _ _ rfl V.n_range (@WS _ _ _ _ _ _ _ _ _ (@qv _ _ _ _ _ _ _ (@qI _ _ 1 _ _ (by rfl) (by rfl) (by rfl)) qL) qF) (by rfl)) (fun s' H' fp pn=>⟨(@qT _ _ _ _ _ _ _ _ _ ((qAY V).call (hr.mono (by omega)) (ql _)) (@jP _ _ _ _ _ _ _ _ _ (@QX _ _ _ _ (@QZ _ _ _ _ _ _ _ (["line"]) (["row","column"]) ([1]) _ _ _ _ _ (by exact Qp rfl (by decide +kernel) rfl rfl ⟨⟨rfl,rfl⟩,trivial⟩) (@wn _ _ _ _ _ (@qI _ _ 0 _ _ (by rfl) (by rfl) (by rfl))) (fun s' H' fp pn=>⟨(@qI _ _ 2 _ _ (by rfl) (by rfl) (by rfl)),⟨(@WZ _ _ _ _ _ _ hc (@qj _ _ _ _ _ (@qw _ _ 1 _ (show (["line","row","column"]:List Str).Nodup by decide +kernel) (by rfl) (by first |exact Or.inl rfl |exact Or.inr rfl) (by first |exact .inl rfl |exact .inr rfl |assumption)) (@qj _ _ _ _ _ (@qw _ _ 2 _ (show (["line","row","column"]:List Str).Nodup by decide +kernel) (by rfl) (by first |exact Or.inl rfl |exact Or.inr rfl) (by first |exact .inl rfl |exact .inr rfl |assumption)) wf (by rfl)) (by rfl)) (by rfl) (by rfl)),(WB (qu (qV 1) (qu (qV 2) WF))),(TsOk.cons (@QJ _ _ _ _ _ _ _ _ _ _ (WY hu) zU (@qI _ _ 1 _ _ (by rfl) (by rfl) (by rfl)) (@qI _ _ 0 _ _ (by rfl) (by rfl) (by rfl)) (by first |exact qz _ |with_unfolding_all rfl)) TsOk.nil),rfl⟩,GsOk.nil⟩) (by intro _;rfl))) qF) (by rfl) (by rfl)),⟨(@qw _ _ 1 _ (show (["floor","line"]:List Str).Nodup by decide +kernel) (by rfl) (by first |exact Or.inl rfl |exact Or.inr rfl) (by first |exact .inl rfl |exact .inr rfl |assumption)),(qV 1),TsOk.nil,rfl⟩,GsOk.nil⟩) (by intro _;rfl))) (by rfl) (by rfl) (by rfl) (by rfl) (by rfl))))))
theorem sc_floor_read:FnScope ["text","lines","floor"] ["text"] (qH Qe):=⟨rfl,rfl,rfl,by decide +kernel,rfl,by decide +kernel,by decide +kernel⟩
theorem Y4 (V:Env K mg a):DefG P w K mg base 6 "floor_read" a.floor_read 1 (w4 a):=by
 obtain ⟨fd,F⟩:=V.f_floor_read
 obtain ⟨_,c_CELL⟩:=V.c_CELL
 refine Qn (B:=W6 a) F sc_floor_read (F.binds (ps:=["text"]) fun _ _ _ _ _ _ us hl=>match us,hl with |[_],_=>rfl) V.m_floor_read (fun l st h=>qZ h) (fun cdv A outer s H E hr hcm => ?_) (fun l s0 hl hn=>qW hl)
 have hu:=hr.units
 have hc:(Wg (CXF P w) P w K mg base ["text","lines","floor"] "floor_read" (qH Qe) a.floor_read cdv A outer s H E).calm=true:=by show A.handled.isNone=true;rw [hcm (by omega)];rfl
 exact (@qK _ _ _ _ _ _ (@wP _ _ _ _ _ _ _ _ _ (@WM _ _ _ _ _ (@wx _ _ _ _ (@zI _ _ _ _ _ _ _ _ V.kit V.n_isinstance (@qX _ _ _ _ _ _ _ (@qI _ _ 0 _ _ (by rfl) (by rfl) (by rfl)) (@qX _ _ _ _ _ _ _ (@Zi _ _ _ _ _ rfl V.n_str Boot.«str» (by decide) (by decide)) qF)) (by rfl) (by rfl) (by rfl)) (by intro _;rfl))) (@qR _ _ _ _ JL) QP) (@qK _ _ _ _ _ _ (@qy _ _ _ _ _ 1 _ _ sc_floor_read.nd (@QX _ _ _ _ (@jz _ _ _ _ _ _ _ _ (@qI _ _ 0 _ _ (by rfl) (by rfl) (by rfl)) wW (by rfl) (by rfl) (by rfl) (by rfl) (by rfl))) (by rfl) (by first |exact Or.inl rfl |exact Or.inr rfl) (by rfl) (by first |exact .inl rfl |exact .inr rfl |assumption)) (@qK _ _ _ _ _ _ (@qy _ _ _ _ _ 2 _ _ sc_floor_read.nd (@WG _ _ _ _ _ _ _ (@jP _ _ _ _ _ _ _ _ _ (@QX _ _ _ _ (@QZ _ _ _ _ _ _ _ ([]) (["row","line","column","sign"]) ([]) _ _ _ _ _ (by exact Qp rfl (by decide +kernel) rfl rfl trivial) (@qFW _ _ _ _ _ _ _ _ _ hc V.n_enumerate (@qX _ _ _ _ _ _ _ (@qI _ _ 1 _ _ (by rfl) (by rfl) (by rfl)) qF) (by rfl) (by rfl) (by rfl)) (fun s' H' fp pn=>⟨(@wB _ _ _ _ _ _ (@qX _ _ _ _ _ _ _ (@qI _ _ 0 _ _ (by rfl) (by rfl) (by rfl)) (@qX _ _ _ _ _ _ _ (@qI _ _ 2 _ _ (by rfl) (by rfl) (by rfl)) qF))),⟨(@WZ _ _ _ _ _ _ hc (@qj _ _ _ _ _ (@qw _ _ 0 _ (show (["row","line","column","sign"]:List Str).Nodup by decide +kernel) (by rfl) (by first |exact Or.inl rfl |exact Or.inr rfl) (by first |exact .inl rfl |exact .inr rfl |assumption)) (@qj _ _ _ _ _ (@qw _ _ 1 _ (show (["row","line","column","sign"]:List Str).Nodup by decide +kernel) (by rfl) (by first |exact Or.inl rfl |exact Or.inr rfl) (by first |exact .inl rfl |exact .inr rfl |assumption)) wf (by rfl)) (by rfl)) (by rfl) (by rfl)),(WB (qu (qV 0) (qu (qV 1) WF))),TsOk.nil,rfl⟩,(GsOk.cons ⟨⟨(@WZ _ _ _ _ _ _ hc (@qj _ _ _ _ _ (@qw _ _ 2 _ (show (["row","line","column","sign"]:List Str).Nodup by decide +kernel) (by rfl) (by first |exact Or.inl rfl |exact Or.inr rfl) (by first |exact .inl rfl |exact .inr rfl |assumption)) (@qj _ _ _ _ _ (@qw _ _ 3 _ (show (["row","line","column","sign"]:List Str).Nodup by decide +kernel) (by rfl) (by first |exact Or.inl rfl |exact Or.inr rfl) (by first |exact .inl rfl |exact .inr rfl |assumption)) wf (by rfl)) (by rfl)) (by rfl) (by rfl)),(WB (qu (qV 2) (qu (qV 3) WF))),(TsOk.cons (@QJ _ _ _ _ _ _ _ _ _ _ (WY hu) zU (@qI _ _ 3 _ _ (by rfl) (by rfl) (by rfl)) (@Qm _ _ _ _ _ _ rfl c_CELL (by decide)) (by first |exact qz _ |with_unfolding_all rfl)) TsOk.nil),rfl⟩,(@qAK _ _ _ _ _ _ _ _ _ hc V.n_enumerate (@qX _ _ _ _ _ _ _ (@qI _ _ 1 _ _ (by rfl) (by rfl) (by rfl)) qF) (by rfl) (by rfl) (by rfl)),by intro _;rfl⟩ GsOk.nil)⟩) (by intro _;rfl))) qF) V.n_tuple (by rfl) (by rfl) (by rfl)) (by rfl) (by first |exact Or.inl rfl |exact Or.inr rfl) (by rfl) (by first |exact .inl rfl |exact .inr rfl |assumption)) (@qK _ _ _ _ _ _ (@wP _ _ _ _ _ _ _ _ _ (@Jb _ _ _ _ (@Zt _ _ _ _ _ _ _ _ (@WM _ _ _ _ _ (@wx _ _ _ _ (@qT _ _ _ _ _ _ _ _ _ ((Jo V).call (hr.mono (by omega)) qm) (@qX _ _ _ _ _ _ _ (@qI _ _ 2 _ _ (by rfl) (by rfl) (by rfl)) qF) (by rfl) (by rfl)) (by intro _;rfl))) (@ZW _ _ _ _ _ (@QJ _ _ _ _ _ _ _ _ _ _ (zx hu) yI (@qT _ _ _ _ _ _ _ _ _ ((ZK V).call (hr.mono (by omega)) qm) (@qX _ _ _ _ _ _ _ (@qI _ _ 2 _ _ (by rfl) (by rfl) (by rfl)) qF) (by rfl) (by rfl)) (@qI _ _ 0 _ _ (by rfl) (by rfl) (by rfl)) (by first |exact qz _ |with_unfolding_all rfl))))) (@qR _ _ _ _ JL) QP) (@qR _ _ _ _ (@qk _ _ _ _ _ (@qI _ _ 2 _ _ (by rfl) (by rfl) (by rfl))))))))
theorem YD:FnScope ["words"] ["words"] (qH Qz):=⟨rfl,rfl,rfl,by decide +kernel,rfl,by decide +kernel,by decide +kernel⟩
theorem jA (V:Env K mg a):DefG P w K mg base 2 "words_text" a.words_text 1 (Wz a):=by
 obtain ⟨fd,F⟩:=V.f_words_text
 obtain ⟨_,c_NONE⟩:=V.c_NONE
 refine Qn (B:=ZI a) F YD (F.binds (ps:=["words"]) fun _ _ _ _ _ _ us hl=>match us,hl with |[_],_=>rfl) V.m_words_text (fun l st h=>qZ h) (fun cdv A outer s H E hr hcm => ?_) (fun l s0 hl hn=>qW hl)
 have hu:=hr.units
 exact (@qR _ _ _ _ (@qk _ _ _ _ _ (@qF4 _ _ _ _ _ _ _ _ _ (@wx _ _ _ _ (@qI _ _ 0 _ _ (by rfl) (by rfl) (by rfl)) (by intro _;rfl)) (@Wj _ _ _ _ _ _ _ _ wW (@qI _ _ 0 _ _ (by rfl) (by rfl) (by rfl)) (by rfl) (by rfl) (by rfl) (by rfl) (by rfl)) (@Qm _ _ _ _ _ _ rfl c_NONE (by decide)))))
theorem jE:FnScope ["bars"] ["bars"] (qH Qu):=⟨rfl,rfl,rfl,by decide +kernel,rfl,by decide +kernel,by decide +kernel⟩
theorem JW (V:Env K mg a):DefG P w K mg base 3 "bars_text" a.bars_text 1 (WW a):=by
 obtain ⟨fd,F⟩:=V.f_bars_text
 obtain ⟨_,c_WAY_SIGNS⟩:=V.c_WAY_SIGNS
 refine Qn (B:=Zv a) F jE (F.binds (ps:=["bars"]) fun _ _ _ _ _ _ us hl=>match us,hl with |[_],_=>rfl) V.m_bars_text (fun l st h=>qZ h) (fun cdv A outer s H E hr hcm => ?_) (fun l s0 hl hn=>qW hl)
 have hu:=hr.units
 have hc:(Wg (CXF P w) P w K mg base ["bars"] "bars_text" (qH Qu) a.bars_text cdv A outer s H E).calm=true:=by show A.handled.isNone=true;rw [hcm (by omega)];rfl
 exact (@qR _ _ _ _ (@qk _ _ _ _ _ (@qT _ _ _ _ _ _ _ _ _ ((jA V).call (hr.mono (by omega)) qm) (@jP _ _ _ _ _ _ _ _ _ (@QX _ _ _ _ (@QZ _ _ _ _ _ _ _ ([]) (["row","column","way"]) ([]) _ _ _ _ _ (by exact Qp rfl (by decide +kernel) rfl rfl trivial) (@wn _ _ _ _ _ (@qI _ _ 0 _ _ (by rfl) (by rfl) (by rfl))) (fun s' H' fp pn=>⟨(@qE0 _ _ _ _ _ _ _ (@Ys _ _ _ _ _ _ (@qEV _ _ _ _ _ (@qI _ _ 0 _ _ (by rfl) (by rfl) (by rfl))) (@Ys _ _ _ _ _ _ (@qEV _ _ _ _ _ (@qI _ _ 1 _ _ (by rfl) (by rfl) (by rfl))) (@Ys _ _ _ _ _ _ (@qEb _ _ _ _ _ (@Ww _ _ _ _ _ _ _ (@Qm _ _ _ _ _ _ rfl c_WAY_SIGNS (by decide)) (@qI _ _ 2 _ _ (by rfl) (by rfl) (by rfl)) (by exact fun _ _=>rfl))) qGd)))),⟨(@WZ _ _ _ _ _ _ hc (@qj _ _ _ _ _ (@qw _ _ 0 _ (show (["row","column","way"]:List Str).Nodup by decide +kernel) (by rfl) (by first |exact Or.inl rfl |exact Or.inr rfl) (by first |exact .inl rfl |exact .inr rfl |assumption)) (@qj _ _ _ _ _ (@qw _ _ 1 _ (show (["row","column","way"]:List Str).Nodup by decide +kernel) (by rfl) (by first |exact Or.inl rfl |exact Or.inr rfl) (by first |exact .inl rfl |exact .inr rfl |assumption)) (@qj _ _ _ _ _ (@qw _ _ 2 _ (show (["row","column","way"]:List Str).Nodup by decide +kernel) (by rfl) (by first |exact Or.inl rfl |exact Or.inr rfl) (by first |exact .inl rfl |exact .inr rfl |assumption)) wf (by rfl)) (by rfl)) (by rfl)) (by rfl) (by rfl)),(WB (qu (qV 0) (qu (qV 1) (qu (qV 2) WF)))),TsOk.nil,rfl⟩,GsOk.nil⟩) (by intro _;rfl))) qF) (by rfl) (by rfl))))
theorem ZV:FnScope ["word"] ["word"] (qH QS):=⟨rfl,rfl,rfl,by decide +kernel,rfl,by decide +kernel,by decide +kernel⟩
theorem Z0 (V:Env K mg a):DefG P w K mg base 2 "is_place_word" a.is_place_word 1 (ww a):=by
 obtain ⟨fd,F⟩:=V.f_is_place_word
 obtain ⟨_,c_FIGURES⟩:=V.c_FIGURES
 refine Qn (B:=W9 a) F ZV (F.binds (ps:=["word"]) fun _ _ _ _ _ _ us hl=>match us,hl with |[_],_=>rfl) V.m_is_place_word (fun l st h=>qZ h) (fun cdv A outer s H E hr hcm => ?_) (fun l s0 hl hn=>qW hl)
 have hu:=hr.units
 exact (@qR _ _ _ _ (@qk _ _ _ _ _ (@zl _ _ _ _ _ _ _ _ (@qF9 _ _ _ _ _ _ _ hu (@qAu _ _ _ _ _ _ _ V.n_len (@qX _ _ _ _ _ _ _ (@qI _ _ 0 _ _ (by rfl) (by rfl) (by rfl)) qF) (by rfl) (by rfl) (by rfl)) qL) (@zl _ _ _ _ _ _ _ _ (@qAn _ _ _ _ _ _ _ (@Ww _ _ _ _ _ _ _ (@qI _ _ 0 _ _ (by rfl) (by rfl) (by rfl)) qL (by exact fun _ _=>rfl)) (@Qm _ _ _ _ _ _ rfl c_FIGURES (by decide)) (by with_unfolding_all rfl)) (@zw _ _ _ _ _ _ (@qAn _ _ _ _ _ _ _ (@Ww _ _ _ _ _ _ _ (@qI _ _ 0 _ _ (by rfl) (by rfl) (by rfl)) qL (by exact fun _ _=>rfl)) (@Qm _ _ _ _ _ _ rfl c_FIGURES (by decide)) (by with_unfolding_all rfl)))))))
theorem yx:FnScope ["word"] ["word"] (qH Qk):=⟨rfl,rfl,rfl,by decide +kernel,rfl,by decide +kernel,by decide +kernel⟩
theorem YF (V:Env K mg a):DefG P w K mg base 3 "is_bar_word" a.is_bar_word 1 (wg a):=by
 obtain ⟨fd,F⟩:=V.f_is_bar_word
 obtain ⟨_,c_WAY_SIGNS⟩:=V.c_WAY_SIGNS
 refine Qn (B:=zW a) F yx (F.binds (ps:=["word"]) fun _ _ _ _ _ _ us hl=>match us,hl with |[_],_=>rfl) V.m_is_bar_word (fun l st h=>qZ h) (fun cdv A outer s H E hr hcm => ?_) (fun l s0 hl hn=>qW hl)
 have hu:=hr.units
 exact (@qR _ _ _ _ (@qk _ _ _ _ _ (@zl _ _ _ _ _ _ _ _ (@qF9 _ _ _ _ _ _ _ hu (@qAu _ _ _ _ _ _ _ V.n_len (@qX _ _ _ _ _ _ _ (@qI _ _ 0 _ _ (by rfl) (by rfl) (by rfl)) qF) (by rfl) (by rfl) (by rfl)) qL) (@zl _ _ _ _ _ _ _ _ (@qT _ _ _ _ _ _ _ _ _ ((Z0 V).call (hr.mono (by omega)) qm) (@qAP _ _ _ _ _ _ _ _ (@qGk _ _ _ _ _ _ _ _ _ _ (@qI _ _ 0 _ _ (by rfl) (by rfl) (by rfl)) ZM (@ZH _ _ _ _ qL)) qF) (by rfl) (by rfl)) (@zw _ _ _ _ _ _ (@qAn _ _ _ _ _ _ _ (@Ww _ _ _ _ _ _ _ (@qI _ _ 0 _ _ (by rfl) (by rfl) (by rfl)) qL (by exact fun _ _=>rfl)) (@Qm _ _ _ _ _ _ rfl c_WAY_SIGNS (by decide)) (by with_unfolding_all rfl)))))))
theorem Jd:FnScope ["word"] ["word"] (qH wZ):=⟨rfl,rfl,rfl,by decide +kernel,rfl,by decide +kernel,by decide +kernel⟩
theorem Jz (V:Env K mg a):DefG P w K mg base 2 "place_of" a.place_of 1 (zh a):=by
 obtain ⟨fd,F⟩:=V.f_place_of
 obtain ⟨_,c_FIGURES⟩:=V.c_FIGURES
 refine Qn (B:=yR a) F Jd (F.binds (ps:=["word"]) fun _ _ _ _ _ _ us hl=>match us,hl with |[_],_=>rfl) V.m_place_of (fun l st h=>qZ h) (fun cdv A outer s H E hr hcm => ?_) (fun l s0 hl hn=>qW hl)
 have hu:=hr.units
 exact (@qR _ _ _ _ (@qk _ _ _ _ _ (@wB _ _ _ _ _ _ (@wk _ _ _ _ _ _ _ _ _ (@jC _ _ _ _ _ _ _ _ (@Qm _ _ _ _ _ _ rfl c_FIGURES (by decide)) (@Ww _ _ _ _ _ _ _ (@qI _ _ 0 _ _ (by rfl) (by rfl) (by rfl)) qL (by exact fun _ _=>rfl)) (by rfl) (by rfl) (by rfl) (by rfl) (by rfl)) (@wk _ _ _ _ _ _ _ _ _ (@jC _ _ _ _ _ _ _ _ (@Qm _ _ _ _ _ _ rfl c_FIGURES (by decide)) (@Ww _ _ _ _ _ _ _ (@qI _ _ 0 _ _ (by rfl) (by rfl) (by rfl)) qL (by exact fun _ _=>rfl)) (by rfl) (by rfl) (by rfl) (by rfl) (by rfl)) qF)))))
theorem qCP:FnScope ["word"] ["word"] (qH Wm):=⟨rfl,rfl,rfl,by decide +kernel,rfl,by decide +kernel,by decide +kernel⟩
theorem qC6 (V:Env K mg a):DefG P w K mg base 3 "bar_of" a.bar_of 1 (zD a):=by
 obtain ⟨fd,F⟩:=V.f_bar_of
 obtain ⟨_,c_WAY_SIGNS⟩:=V.c_WAY_SIGNS
 refine Qn (B:=jt a) F qCP (F.binds (ps:=["word"]) fun _ _ _ _ _ _ us hl=>match us,hl with |[_],_=>rfl) V.m_bar_of (fun l st h=>qZ h) (fun cdv A outer s H E hr hcm => ?_) (fun l s0 hl hn=>qW hl)
 have hu:=hr.units
 exact (@qR _ _ _ _ (@qk _ _ _ _ _ (@qEt _ _ _ _ _ _ _ (@qT _ _ _ _ _ _ _ _ _ ((Jz V).call (hr.mono (by omega)) qm) (@qX _ _ _ _ _ _ _ (@qI _ _ 0 _ _ (by rfl) (by rfl) (by rfl)) qF) (by rfl) (by rfl)) (@wB _ _ _ _ _ _ (@wk _ _ _ _ _ _ _ _ _ (@jC _ _ _ _ _ _ _ _ (@Qm _ _ _ _ _ _ rfl c_WAY_SIGNS (by decide)) (@Ww _ _ _ _ _ _ _ (@qI _ _ 0 _ _ (by rfl) (by rfl) (by rfl)) qL (by exact fun _ _=>rfl)) (by rfl) (by rfl) (by rfl) (by rfl) (by rfl)) qF)))))
theorem sc_bars_read:FnScope ["text","words","bars"] ["text"] (qH wF):=⟨rfl,rfl,rfl,by decide +kernel,rfl,by decide +kernel,by decide +kernel⟩
theorem j7 (V:Env K mg a):DefG P w K mg base 4 "bars_read" a.bars_read 1 (WX a):=by
 obtain ⟨fd,F⟩:=V.f_bars_read
 obtain ⟨_,c_NONE⟩:=V.c_NONE
 refine Qn (B:=zL a) F sc_bars_read (F.binds (ps:=["text"]) fun _ _ _ _ _ _ us hl=>match us,hl with |[_],_=>rfl) V.m_bars_read (fun l st h=>qZ h) (fun cdv A outer s H E hr hcm => ?_) (fun l s0 hl hn=>qW hl)
 have hu:=hr.units
 exact (@qK _ _ _ _ _ _ (@wP _ _ _ _ _ _ _ _ _ (@WM _ _ _ _ _ (@wx _ _ _ _ (@zI _ _ _ _ _ _ _ _ V.kit V.n_isinstance (@qX _ _ _ _ _ _ _ (@qI _ _ 0 _ _ (by rfl) (by rfl) (by rfl)) (@qX _ _ _ _ _ _ _ (@Zi _ _ _ _ _ rfl V.n_str Boot.«str» (by decide) (by decide)) qF)) (by rfl) (by rfl) (by rfl)) (by intro _;rfl))) (@qR _ _ _ _ JL) QP) (@qK _ _ _ _ _ _ (@wP _ _ _ _ _ _ _ _ _ (@QJ _ _ _ _ _ _ _ _ _ _ (WY hu) zU (@qI _ _ 0 _ _ (by rfl) (by rfl) (by rfl)) (@Qm _ _ _ _ _ _ rfl c_NONE (by decide)) (by first |exact qz _ |with_unfolding_all rfl)) (@qR _ _ _ _ (@qk _ _ _ _ _ (@wB _ _ _ _ _ _ qF))) QP) (@qK _ _ _ _ _ _ (@qy _ _ _ _ _ 1 _ _ sc_bars_read.nd (@QX _ _ _ _ (@jz _ _ _ _ _ _ _ _ (@qI _ _ 0 _ _ (by rfl) (by rfl) (by rfl)) wW (by rfl) (by rfl) (by rfl) (by rfl) (by rfl))) (by rfl) (by first |exact Or.inl rfl |exact Or.inr rfl) (by rfl) (by first |exact .inl rfl |exact .inr rfl |assumption)) (@qK _ _ _ _ _ _ (@wP _ _ _ _ _ _ _ _ _ (@WM _ _ _ _ _ (@wx _ _ _ _ (@jO _ _ _ _ _ _ _ (@jP _ _ _ _ _ _ _ _ _ (@QX _ _ _ _ (@QZ _ _ _ _ _ _ _ ([]) (["word"]) ([]) _ _ _ _ _ (by exact Qp rfl (by decide +kernel) rfl rfl trivial) (@wn _ _ _ _ _ (@qI _ _ 1 _ _ (by rfl) (by rfl) (by rfl))) (fun s' H' fp pn=>⟨(@qT _ _ _ _ _ _ _ _ _ ((YF V).call (hr.mono (by omega)) (ql _)) (@qX _ _ _ _ _ _ _ (@qI _ _ 0 _ _ (by rfl) (by rfl) (by rfl)) qF) (by rfl) (by rfl)),⟨(@qw _ _ 0 _ (show (["word"]:List Str).Nodup by decide +kernel) (by rfl) (by first |exact Or.inl rfl |exact Or.inr rfl) (by first |exact .inl rfl |exact .inr rfl |assumption)),(qV 0),TsOk.nil,rfl⟩,GsOk.nil⟩) (by intro _;rfl))) qF) V.n_all (by rfl) (by rfl) (by rfl)) (by intro _;rfl))) (@qR _ _ _ _ JL) QP) (@qK _ _ _ _ _ _ (@qy _ _ _ _ _ 2 _ _ sc_bars_read.nd (@WG _ _ _ _ _ _ _ (@jP _ _ _ _ _ _ _ _ _ (@QX _ _ _ _ (@QZ _ _ _ _ _ _ _ ([]) (["word"]) ([]) _ _ _ _ _ (by exact Qp rfl (by decide +kernel) rfl rfl trivial) (@wn _ _ _ _ _ (@qI _ _ 1 _ _ (by rfl) (by rfl) (by rfl))) (fun s' H' fp pn=>⟨(@qT _ _ _ _ _ _ _ _ _ ((qC6 V).call (hr.mono (by omega)) (ql _)) (@qX _ _ _ _ _ _ _ (@qI _ _ 0 _ _ (by rfl) (by rfl) (by rfl)) qF) (by rfl) (by rfl)),⟨(@qw _ _ 0 _ (show (["word"]:List Str).Nodup by decide +kernel) (by rfl) (by first |exact Or.inl rfl |exact Or.inr rfl) (by first |exact .inl rfl |exact .inr rfl |assumption)),(qV 0),TsOk.nil,rfl⟩,GsOk.nil⟩) (by intro _;rfl))) qF) V.n_tuple (by rfl) (by rfl) (by rfl)) (by rfl) (by first |exact Or.inl rfl |exact Or.inr rfl) (by rfl) (by first |exact .inl rfl |exact .inr rfl |assumption)) (@qK _ _ _ _ _ _ (@wP _ _ _ _ _ _ _ _ _ (@WM _ _ _ _ _ (@wx _ _ _ _ (@qT _ _ _ _ _ _ _ _ _ ((Zh V).call (hr.mono (by omega)) qm) (@qX _ _ _ _ _ _ _ (@qI _ _ 2 _ _ (by rfl) (by rfl) (by rfl)) qF) (by rfl) (by rfl)) (by intro _;rfl))) (@qR _ _ _ _ JL) QP) (@qR _ _ _ _ (@qk _ _ _ _ _ (@qI _ _ 2 _ _ (by rfl) (by rfl) (by rfl))))))))))
theorem JM:FnScope ["_law_script","_law_k"] ["_law_script","_law_k"] (qH wR):=⟨rfl,rfl,rfl,by decide +kernel,rfl,by decide +kernel,by decide +kernel⟩
theorem qAG (V:Env K mg a):DefG P w K mg base 2 "_law_cell" a.law_cell 2 (Wt a):=by
 obtain ⟨fd,F⟩:=V.f_law_cell
 refine Qn (B:=yW a) F JM (F.binds (ps:=["_law_script","_law_k"]) fun _ _ _ _ _ _ us hl=>match us,hl with |[_,_],_=>rfl) V.m_law_cell (fun l st h=>qZ h) (fun cdv A outer s H E hr hcm => ?_) (fun l s0 hl hn=>qW hl)
 have hu:=hr.units
 exact (@qK _ _ _ _ _ _ (@wP _ _ _ _ _ _ _ _ _ (@QJ _ _ _ _ _ _ _ _ _ _ qGB qGG (@qI _ _ 1 _ _ (by rfl) (by rfl) (by rfl)) (@ZL _ _ _ _ _ _ _ (@qX _ _ _ _ _ _ _ (@qI _ _ 0 _ _ (by rfl) (by rfl) (by rfl)) qF) V.n_len (by rfl) (by rfl) (by rfl)) (by first |exact qz _ |with_unfolding_all rfl)) (@qR _ _ _ _ (@qk _ _ _ _ _ (@wl _ _ _ _ _ _ _ (@qI _ _ 0 _ _ (by rfl) (by rfl) (by rfl)) (@qI _ _ 1 _ _ (by rfl) (by rfl) (by rfl)) (by exact fun _ _=>rfl)))) QP) (@qR _ _ _ _ (@qk _ _ _ _ _ (@qv _ _ _ _ _ _ _ (@zf _ _ _ _ _ _ _ qL (@qI _ _ 1 _ _ (by rfl) (by rfl) (by rfl))) qL))))
theorem sc_law_mix:FnScope ["_law_cell_here","_law_k","_law_number"] ["_law_cell_here","_law_k"] (qH WD):=⟨rfl,rfl,rfl,by decide +kernel,rfl,by decide +kernel,by decide +kernel⟩
theorem qCT (V:Env K mg a):DefG P w K mg base 2 "_law_mix" a.law_mix 2 (zM a):=by
 obtain ⟨fd,F⟩:=V.f_law_mix
 refine Qn (B:=YW a) F sc_law_mix (F.binds (ps:=["_law_cell_here","_law_k"]) fun _ _ _ _ _ _ us hl=>match us,hl with |[_,_],_=>rfl) V.m_law_mix (fun l st h=>qZ h) (fun cdv A outer s H E hr hcm => ?_) (fun l s0 hl hn=>qW hl)
 have hu:=hr.units
 exact (@qK _ _ _ _ _ _ (@qy _ _ _ _ _ 2 _ _ sc_law_mix.nd (@qv _ _ _ _ _ _ _ (@zf _ _ _ _ _ _ _ (@qv _ _ _ _ _ _ _ (@qI _ _ 0 _ _ (by rfl) (by rfl) (by rfl)) qL) qL) (@zf _ _ _ _ _ _ _ qL (@qI _ _ 1 _ _ (by rfl) (by rfl) (by rfl)))) (by rfl) (by first |exact Or.inl rfl |exact Or.inr rfl) (by rfl) (by first |exact .inl rfl |exact .inr rfl |assumption)) (@qK _ _ _ _ _ _ (@qy _ _ _ _ _ 2 _ _ sc_law_mix.nd (@qv _ _ _ _ _ _ _ (@qAd _ _ _ _ _ _ _ (@qE5 _ _ _ _ _ _ _ (@qI _ _ 2 _ _ (by rfl) (by rfl) (by rfl)) (@qI _ _ 2 _ _ (by rfl) (by rfl) (by rfl))) qL) (@qI _ _ 1 _ _ (by rfl) (by rfl) (by rfl))) (by rfl) (by first |exact Or.inl rfl |exact Or.inr rfl) (by rfl) (by first |exact .inl rfl |exact .inr rfl |assumption)) (@qR _ _ _ _ (@qk _ _ _ _ _ (@qAd _ _ _ _ _ _ _ (@zf _ _ _ _ _ _ _ (@qI _ _ 2 _ _ (by rfl) (by rfl) (by rfl)) (@qv _ _ _ _ _ _ _ (@qI _ _ 2 _ _ (by rfl) (by rfl) (by rfl)) qL)) qL)))))
theorem sc_law_box:FnScope ["_law_script","_law_k","_law_here","_law_number","_law_j"] ["_law_script","_law_k"] (qH WH):=⟨rfl,rfl,rfl,by decide +kernel,rfl,by decide +kernel,by decide +kernel⟩
theorem qBv (V:Env K mg a):DefG P w K mg base 3 "_law_box" a.law_box 2 (zO a):=by
 obtain ⟨fd,F⟩:=V.f_law_box
 refine Qn (B:=Ya a) F sc_law_box (F.binds (ps:=["_law_script","_law_k"]) fun _ _ _ _ _ _ us hl=>match us,hl with |[_,_],_=>rfl) V.m_law_box (fun l st h=>qZ h) (fun cdv A outer s H E hr hcm => ?_) (fun l s0 hl hn=>qW hl)
 have hu:=hr.units
 exact (@qK _ _ _ _ _ _ (@qy _ _ _ _ _ 2 _ _ sc_law_box.nd (@qT _ _ _ _ _ _ _ _ _ ((qAG V).call (hr.mono (by omega)) qm) (@qX _ _ _ _ _ _ _ (@qI _ _ 0 _ _ (by rfl) (by rfl) (by rfl)) (@qX _ _ _ _ _ _ _ (@qI _ _ 1 _ _ (by rfl) (by rfl) (by rfl)) qF)) (by rfl) (by rfl)) (by rfl) (by first |exact Or.inl rfl |exact Or.inr rfl) (by rfl) (by first |exact .inl rfl |exact .inr rfl |assumption)) (@qK _ _ _ _ _ _ (@wP _ _ _ _ _ _ _ _ _ (@QJ _ _ _ _ _ _ _ _ _ _ (WY hu) zU (@qAd _ _ _ _ _ _ _ (@qI _ _ 2 _ _ (by rfl) (by rfl) (by rfl)) qL) qL (by first |exact qz _ |with_unfolding_all rfl)) (@qR _ _ _ _ (@qAz _ _ _ _ _ (@WR _ _ _ _ _ (@WS _ _ _ _ _ _ _ _ _ (@qAO _ _ _ _ _ _ _ (@qI _ _ 2 _ _ (by rfl) (by rfl) (by rfl)) qL) qF)))) QP) (@qK _ _ _ _ _ _ (@qy _ _ _ _ _ 3 _ _ sc_law_box.nd qL (by rfl) (by first |exact Or.inl rfl |exact Or.inr rfl) (by rfl) (by first |exact .inl rfl |exact .inr rfl |assumption)) (@qK _ _ _ _ _ _ (@zF _ _ _ _ _ _ _ _ _ (@QV _ _ _ _ _ _ _ rfl V.n_range (@WT _ _ _ _ _ _ _ _ qL qF) (by rfl)) (@QO _ _ 4 _ sc_law_box.nd (by rfl) (by first |exact Or.inl rfl |exact Or.inr rfl) (by first |exact .inl rfl |exact .inr rfl |assumption)) (@qR _ _ _ _ (@qy _ _ _ _ _ 3 _ _ sc_law_box.nd (@qv _ _ _ _ _ _ _ (@zf _ _ _ _ _ _ _ (@qI _ _ 3 _ _ (by rfl) (by rfl) (by rfl)) qL) (@qT _ _ _ _ _ _ _ _ _ ((qCT V).call (hr.mono (by omega)) (ql _)) (@qX _ _ _ _ _ _ _ (@qI _ _ 2 _ _ (by rfl) (by rfl) (by rfl)) (@qX _ _ _ _ _ _ _ (@qI _ _ 4 _ _ (by rfl) (by rfl) (by rfl)) qF)) (by rfl) (by rfl))) (by rfl) (by first |exact Or.inl rfl |exact Or.inr rfl) (by rfl) (by first |exact .inl rfl |exact .inr rfl |assumption))) (by intro _;rfl)) (@qR _ _ _ _ (@qAz _ _ _ _ _ (@WR _ _ _ _ _ (@qX _ _ _ _ _ _ _ (@qI _ _ 3 _ _ (by rfl) (by rfl) (by rfl)) qF))))))))
theorem sc_law_take:FnScope ["_law_box_here","_law_many","_law_left","_law_digit"] ["_law_box_here","_law_many"] (qH wA):=⟨rfl,rfl,rfl,by decide +kernel,rfl,by decide +kernel,by decide +kernel⟩
theorem qg (V:Env K mg a):DefG P w K mg base 2 "_law_take" a.law_take 2 (qO a):=by
 obtain ⟨fd,F⟩:=V.f_law_take
 refine Qn (B:=ym a) F sc_law_take (F.binds (ps:=["_law_box_here","_law_many"]) fun _ _ _ _ _ _ us hl=>match us,hl with |[_,_],_=>rfl) V.m_law_take (fun l st h=>qZ h) (fun cdv A outer s H E hr hcm => ?_) (fun l s0 hl hn=>qW hl)
 have hu:=hr.units
 have hc:(Wg (CXF P w) P w K mg base ["_law_box_here","_law_many","_law_left","_law_digit"] "_law_take" (qH wA) a.law_take cdv A outer s H E).calm=true:=by show A.handled.isNone=true;rw [hcm (by omega)];rfl
 exact (@qK _ _ _ _ _ _ (@jT _ _ _ _ _ _ _ (@qBn _ _ _ _ _ _ _ (@qAP _ _ _ _ _ _ _ _ (@wl _ _ _ _ _ _ _ (@qI _ _ 0 _ _ (by rfl) (by rfl) (by rfl)) qL (by exact fun _ _=>rfl)) (@qX _ _ _ _ _ _ _ (@qI _ _ 1 _ _ (by rfl) (by rfl) (by rfl)) qF)) V.n_divmod (by rfl) (by rfl) (by rfl)) (@WZ _ _ _ _ _ _ hc (@qj _ _ _ _ _ (@QO _ _ 2 _ sc_law_take.nd (by rfl) (by first |exact Or.inl rfl |exact Or.inr rfl) (by first |exact .inl rfl |exact .inr rfl |assumption)) (@qj _ _ _ _ _ (@QO _ _ 3 _ sc_law_take.nd (by rfl) (by first |exact Or.inl rfl |exact Or.inr rfl) (by first |exact .inl rfl |exact .inr rfl |assumption)) wf (by rfl)) (by rfl)) (by rfl) (by rfl)) (by rfl) (by rfl) (by rfl)) (@qK _ _ _ _ _ _ (@qG9 _ _ _ _ _ _ _ _ _ _ (@qI _ _ 0 _ _ (by rfl) (by rfl) (by rfl)) qL (@qI _ _ 2 _ _ (by rfl) (by rfl) (by rfl)) (by rfl) (by rfl) (by rfl) (by intro _;rfl)) (@qR _ _ _ _ (@qk _ _ _ _ _ (@qI _ _ 3 _ _ (by rfl) (by rfl) (by rfl))))))
theorem sc_law_cover:FnScope ["_law_bar","_law_length","_law_row","_law_column","_law_way"] ["_law_bar","_law_length"] (qH Qv):=⟨rfl,rfl,rfl,by decide +kernel,rfl,by decide +kernel,by decide +kernel⟩
theorem JX (V:Env K mg a):DefG P w K mg base 2 "_law_cover" a.law_cover 2 (WU a):=by
 obtain ⟨fd,F⟩:=V.f_law_cover
 refine Qn (B:=Zu a) F sc_law_cover (F.binds (ps:=["_law_bar","_law_length"]) fun _ _ _ _ _ _ us hl=>match us,hl with |[_,_],_=>rfl) V.m_law_cover (fun l st h=>qZ h) (fun cdv A outer s H E hr hcm => ?_) (fun l s0 hl hn=>qW hl)
 have hu:=hr.units
 have hc:(Wg (CXF P w) P w K mg base ["_law_bar","_law_length","_law_row","_law_column","_law_way"] "_law_cover" (qH Qv) a.law_cover cdv A outer s H E).calm=true:=by show A.handled.isNone=true;rw [hcm (by omega)];rfl
 exact (@qK _ _ _ _ _ _ (@jT _ _ _ _ _ _ _ (@qI _ _ 0 _ _ (by rfl) (by rfl) (by rfl)) (@WZ _ _ _ _ _ _ hc (@qj _ _ _ _ _ (@QO _ _ 2 _ sc_law_cover.nd (by rfl) (by first |exact Or.inl rfl |exact Or.inr rfl) (by first |exact .inl rfl |exact .inr rfl |assumption)) (@qj _ _ _ _ _ (@QO _ _ 3 _ sc_law_cover.nd (by rfl) (by first |exact Or.inl rfl |exact Or.inr rfl) (by first |exact .inl rfl |exact .inr rfl |assumption)) (@qj _ _ _ _ _ (@QO _ _ 4 _ sc_law_cover.nd (by rfl) (by first |exact Or.inl rfl |exact Or.inr rfl) (by first |exact .inl rfl |exact .inr rfl |assumption)) wf (by rfl)) (by rfl)) (by rfl)) (by rfl) (by rfl)) (by rfl) (by rfl) (by rfl)) (@qR _ _ _ _ (@qk _ _ _ _ _ (@QX _ _ _ _ (@QZ _ _ _ _ _ _ _ (["_law_row","_law_way","_law_column"]) (["_law_k"]) ([2,4,3]) _ _ _ _ _ (by exact Qp rfl (by decide +kernel) rfl rfl ⟨⟨rfl,rfl⟩,⟨⟨rfl,rfl⟩,⟨⟨rfl,rfl⟩,trivial⟩⟩⟩) (@QV _ _ _ _ _ _ _ rfl V.n_range (@qX _ _ _ _ _ _ _ (@qI _ _ 1 _ _ (by rfl) (by rfl) (by rfl)) qF) (by rfl)) (fun s' H' fp pn=>⟨(@wB _ _ _ _ _ _ (@WS _ _ _ _ _ _ _ _ _ (@qv _ _ _ _ _ _ _ (@qI _ _ 0 _ _ (by rfl) (by rfl) (by rfl)) (@zf _ _ _ _ _ _ _ (@qI _ _ 3 _ _ (by rfl) (by rfl) (by rfl)) (@qI _ _ 1 _ _ (by rfl) (by rfl) (by rfl)))) (@WS _ _ _ _ _ _ _ _ _ (@zZ _ _ _ _ _ _ _ (@qv _ _ _ _ _ _ _ (@qI _ _ 2 _ _ (by rfl) (by rfl) (by rfl)) (@qI _ _ 3 _ _ (by rfl) (by rfl) (by rfl))) (@zf _ _ _ _ _ _ _ (@qI _ _ 3 _ _ (by rfl) (by rfl) (by rfl)) (@qI _ _ 1 _ _ (by rfl) (by rfl) (by rfl)))) qF))),⟨(@qw _ _ 3 _ (show (["_law_row","_law_way","_law_column","_law_k"]:List Str).Nodup by decide +kernel) (by rfl) (by first |exact Or.inl rfl |exact Or.inr rfl) (by first |exact .inl rfl |exact .inr rfl |assumption)),(qV 3),TsOk.nil,rfl⟩,GsOk.nil⟩) (by intro _;rfl))))))
theorem sc_law_laid:FnScope ["_law_box_here","_law_length","_law_turns","_law_cells","_law_bars","_law_high","_law_wide","_law_turn","_law_bar","_law_last","_law_some"] ["_law_box_here","_law_length","_law_turns"] (qH Q9):=⟨rfl,rfl,rfl,by decide +kernel,rfl,by decide +kernel,by decide +kernel⟩
theorem yt (V:Env K mg a):DefG P w K mg base 3 "_law_laid" a.law_laid 3 (wa a):=by
 obtain ⟨fd,F⟩:=V.f_law_laid
 refine Qn (B:=zd a) F sc_law_laid (F.binds (ps:=["_law_box_here","_law_length","_law_turns"]) fun _ _ _ _ _ _ us hl=>match us,hl with |[_,_,_],_=>rfl) V.m_law_laid (fun l st h=>qZ h) (fun cdv A outer s H E hr hcm => ?_) (fun l s0 hl hn=>qW hl)
 have hu:=hr.units
 have hc:(Wg (CXF P w) P w K mg base ["_law_box_here","_law_length","_law_turns","_law_cells","_law_bars","_law_high","_law_wide","_law_turn","_law_bar","_law_last","_law_some"] "_law_laid" (qH Q9) a.law_laid cdv A outer s H E).calm=true:=by show A.handled.isNone=true;rw [hcm (by omega)];rfl
 exact (@qK _ _ _ _ _ _ (@qy _ _ _ _ _ 3 _ _ sc_law_laid.nd (@QX _ _ _ _ (@WR _ _ _ _ _ qF)) (by rfl) (by first |exact Or.inl rfl |exact Or.inr rfl) (by rfl) (by first |exact .inl rfl |exact .inr rfl |assumption)) (@qK _ _ _ _ _ _ (@qA9 _ _ _ _ 4 _ _ _ sc_law_laid.nd (@WR _ _ _ _ _ qF) (by rfl) (by first |exact Or.inl rfl |exact Or.inr rfl) (by rfl) (by first |exact .inl rfl |exact .inr rfl |assumption)) (@qK _ _ _ _ _ _ (@qCl _ _ _ _ _ 5 6 _ _ _ _ _ _ _ _ _ hc sc_law_laid.nd (@WS _ _ _ _ _ _ _ _ _ (@qv _ _ _ _ _ _ _ (@qI _ _ 1 _ _ (by rfl) (by rfl) (by rfl)) (@qT _ _ _ _ _ _ _ _ _ ((qg V).call (hr.mono (by omega)) qm) (@qX _ _ _ _ _ _ _ (@qI _ _ 0 _ _ (by rfl) (by rfl) (by rfl)) (@WS _ _ _ _ _ _ _ _ _ (@zZ _ _ _ _ _ _ _ qL (@qI _ _ 1 _ _ (by rfl) (by rfl) (by rfl))) qF)) (by rfl) (by rfl))) (@WS _ _ _ _ _ _ _ _ _ (@qv _ _ _ _ _ _ _ (@qI _ _ 1 _ _ (by rfl) (by rfl) (by rfl)) (@qT _ _ _ _ _ _ _ _ _ ((qg V).call (hr.mono (by omega)) qm) (@qX _ _ _ _ _ _ _ (@qI _ _ 0 _ _ (by rfl) (by rfl) (by rfl)) (@WS _ _ _ _ _ _ _ _ _ (@zZ _ _ _ _ _ _ _ qL (@qI _ _ 1 _ _ (by rfl) (by rfl) (by rfl))) qF)) (by rfl) (by rfl))) qF)) (by rfl) (by rfl) (by rfl) (by decide) (by rfl) (by rfl) (by rfl)) (@qK _ _ _ _ _ _ (@zF _ _ _ _ _ _ _ _ _ (@QV _ _ _ _ _ _ _ rfl V.n_range (@WS _ _ _ _ _ _ _ _ _ (@qv _ _ _ _ _ _ _ qL (@qT _ _ _ _ _ _ _ _ _ ((qg V).call (hr.mono (by omega)) qm) (@qX _ _ _ _ _ _ _ (@qI _ _ 0 _ _ (by rfl) (by rfl) (by rfl)) (@qX _ _ _ _ _ _ _ (@qI _ _ 2 _ _ (by rfl) (by rfl) (by rfl)) qF)) (by rfl) (by rfl))) qF) (by rfl)) (@QO _ _ 7 _ sc_law_laid.nd (by rfl) (by first |exact Or.inl rfl |exact Or.inr rfl) (by first |exact .inl rfl |exact .inr rfl |assumption)) (@qK _ _ _ _ _ _ (@qy _ _ _ _ _ 8 _ _ sc_law_laid.nd (@wB _ _ _ _ _ _ (@wk _ _ _ _ _ _ _ _ _ (@qT _ _ _ _ _ _ _ _ _ ((qg V).call (hr.mono (by omega)) (ql _)) (@qX _ _ _ _ _ _ _ (@qI _ _ 0 _ _ (by rfl) (by rfl) (by rfl)) (@qX _ _ _ _ _ _ _ (@qI _ _ 5 _ _ (by rfl) (by rfl) (by rfl)) qF)) (by rfl) (by rfl)) (@wk _ _ _ _ _ _ _ _ _ (@qT _ _ _ _ _ _ _ _ _ ((qg V).call (hr.mono (by omega)) (ql _)) (@qX _ _ _ _ _ _ _ (@qI _ _ 0 _ _ (by rfl) (by rfl) (by rfl)) (@qX _ _ _ _ _ _ _ (@qI _ _ 6 _ _ (by rfl) (by rfl) (by rfl)) qF)) (by rfl) (by rfl)) (@wk _ _ _ _ _ _ _ _ _ (@qT _ _ _ _ _ _ _ _ _ ((qg V).call (hr.mono (by omega)) (ql _)) (@qX _ _ _ _ _ _ _ (@qI _ _ 0 _ _ (by rfl) (by rfl) (by rfl)) (@WT _ _ _ _ _ _ _ _ qL qF)) (by rfl) (by rfl)) qF)))) (by rfl) (by first |exact Or.inl rfl |exact Or.inr rfl) (by rfl) (by first |exact .inl rfl |exact .inr rfl |assumption)) (@qK _ _ _ _ _ _ (@wP _ _ _ _ _ _ _ _ _ (@Jb _ _ _ _ (@qAZ _ _ _ _ _ _ _ _ (@QJ _ _ _ _ _ _ _ _ _ _ (zx hu) yI (@qI _ _ 4 _ _ (by rfl) (by rfl) (by rfl)) (@QX _ _ _ _ (@WR _ _ _ _ _ qF)) (by first |exact qz _ |with_unfolding_all rfl)) (@qBW _ _ _ _ _ (@QJ _ _ _ _ _ _ _ _ _ _ (WY hu) zU (@qT _ _ _ _ _ _ _ _ _ ((qg V).call (hr.mono (by omega)) (ql _)) (@qX _ _ _ _ _ _ _ (@qI _ _ 0 _ _ (by rfl) (by rfl) (by rfl)) (@WT _ _ _ _ _ _ _ _ qL qF)) (by rfl) (by rfl)) qL (by first |exact qz _ |with_unfolding_all rfl))))) (@qK _ _ _ _ _ _ (@qy _ _ _ _ _ 9 _ _ sc_law_laid.nd (@wl _ _ _ _ _ _ _ (@qI _ _ 4 _ _ (by rfl) (by rfl) (by rfl)) (@ZR _ _ _ _ _ qL) (by exact fun _ _=>rfl)) (by rfl) (by first |exact Or.inl rfl |exact Or.inr rfl) (by rfl) (by first |exact .inl rfl |exact .inr rfl |assumption)) (@qR _ _ _ _ (@qy _ _ _ _ _ 8 _ _ sc_law_laid.nd (@wB _ _ _ _ _ _ (@wk _ _ _ _ _ _ _ _ _ (@jK _ _ _ _ _ _ _ (@WT _ _ _ _ _ _ _ _ qL (@WS _ _ _ _ _ _ _ _ _ (@zZ _ _ _ _ _ _ _ (@qv _ _ _ _ _ _ _ (@wl _ _ _ _ _ _ _ (@qI _ _ 9 _ _ (by rfl) (by rfl) (by rfl)) qL (by exact fun _ _=>rfl)) qL) (@wl _ _ _ _ _ _ _ (@qI _ _ 9 _ _ (by rfl) (by rfl) (by rfl)) qL (by exact fun _ _=>rfl))) qF)) hc V.n_min (by rfl) (by rfl) (by rfl)) (@wk _ _ _ _ _ _ _ _ _ (@jK _ _ _ _ _ _ _ (@WT _ _ _ _ _ _ _ _ qL (@WS _ _ _ _ _ _ _ _ _ (@qv _ _ _ _ _ _ _ (@wl _ _ _ _ _ _ _ (@qI _ _ 9 _ _ (by rfl) (by rfl) (by rfl)) qL (by exact fun _ _=>rfl)) (@wl _ _ _ _ _ _ _ (@qI _ _ 9 _ _ (by rfl) (by rfl) (by rfl)) qL (by exact fun _ _=>rfl))) qF)) hc V.n_min (by rfl) (by rfl) (by rfl)) (@qAP _ _ _ _ _ _ _ _ (@wl _ _ _ _ _ _ _ (@qI _ _ 9 _ _ (by rfl) (by rfl) (by rfl)) qL (by exact fun _ _=>rfl)) qF)))) (by rfl) (by first |exact Or.inl rfl |exact Or.inr rfl) (by rfl) (by first |exact .inl rfl |exact .inr rfl |assumption)))) QP) (@qK _ _ _ _ _ _ (@qy _ _ _ _ _ 10 _ _ sc_law_laid.nd (@qT _ _ _ _ _ _ _ _ _ ((JX V).call (hr.mono (by omega)) (ql _)) (@qX _ _ _ _ _ _ _ (@qI _ _ 8 _ _ (by rfl) (by rfl) (by rfl)) (@qX _ _ _ _ _ _ _ (@qI _ _ 1 _ _ (by rfl) (by rfl) (by rfl)) qF)) (by rfl) (by rfl)) (by rfl) (by first |exact Or.inl rfl |exact Or.inr rfl) (by rfl) (by first |exact .inl rfl |exact .inr rfl |assumption)) (@qR _ _ _ _ (@wP _ _ _ _ _ _ _ _ _ (@Jb _ _ _ _ (@qAZ _ _ _ _ _ _ _ _ (@QJ _ _ _ _ _ _ _ _ _ _ (qG6 hu) qGp (@qFJ _ _ _ _ _ _ _ hu (@qX _ _ _ _ _ _ _ (@qI _ _ 10 _ _ (by rfl) (by rfl) (by rfl)) qF) V.n_max (by rfl) (by rfl) (by rfl)) (@wB _ _ _ _ _ _ (@WT _ _ _ _ _ _ _ _ qL (@WT _ _ _ _ _ _ _ _ qL qF))) (by first |exact qz _ |with_unfolding_all rfl)) (@qAZ _ _ _ _ _ _ _ _ (@QJ _ _ _ _ _ _ _ _ _ _ qGB qGG (@qBR _ _ _ _ _ _ _ (@jP _ _ _ _ _ _ _ _ _ (@QX _ _ _ _ (@QZ _ _ _ _ _ _ _ ([]) (["_law_cell_here"]) ([]) _ _ _ _ _ (by exact Qp rfl (by decide +kernel) rfl rfl trivial) (@wn _ _ _ _ _ (@qI _ _ 10 _ _ (by rfl) (by rfl) (by rfl))) (fun s' H' fp pn=>⟨(@wl _ _ _ _ _ _ _ (@qI _ _ 0 _ _ (by rfl) (by rfl) (by rfl)) qL (by exact fun _ _=>rfl)),⟨(@qw _ _ 0 _ (show (["_law_cell_here"]:List Str).Nodup by decide +kernel) (by rfl) (by first |exact Or.inl rfl |exact Or.inr rfl) (by first |exact .inl rfl |exact .inr rfl |assumption)),(qV 0),TsOk.nil,rfl⟩,GsOk.nil⟩) (by intro _;rfl))) qF) V.n_max (by rfl) (by rfl) (by rfl)) qL (by first |exact qz _ |with_unfolding_all rfl)) (@qBW _ _ _ _ _ (@QJ _ _ _ _ _ _ _ _ _ _ (WY hu) zU (@QX _ _ _ _ (@QZ _ _ _ _ _ _ _ (["_law_cells"]) (["_law_one"]) ([3]) _ _ _ _ _ (by exact Qp rfl (by decide +kernel) rfl rfl ⟨⟨rfl,rfl⟩,trivial⟩) (@wn _ _ _ _ _ (@qI _ _ 10 _ _ (by rfl) (by rfl) (by rfl))) (fun s' H' fp pn=>⟨(@qI _ _ 1 _ _ (by rfl) (by rfl) (by rfl)),⟨(@qw _ _ 1 _ (show (["_law_cells","_law_one"]:List Str).Nodup by decide +kernel) (by rfl) (by first |exact Or.inl rfl |exact Or.inr rfl) (by first |exact .inl rfl |exact .inr rfl |assumption)),(qV 1),(TsOk.cons (@QJ _ _ _ _ _ _ _ _ _ _ (qAf hu) qCr (@qI _ _ 1 _ _ (by rfl) (by rfl) (by rfl)) (@qI _ _ 0 _ _ (by rfl) (by rfl) (by rfl)) (by first |exact qz _ |with_unfolding_all rfl)) TsOk.nil),rfl⟩,GsOk.nil⟩) (by intro _;rfl))) (@QX _ _ _ _ (@WR _ _ _ _ _ qF)) (by first |exact qz _ |with_unfolding_all rfl)))))) (@qK _ _ _ _ _ _ (@Yr _ _ _ _ _ _ _ _ _ (@qI _ _ 4 _ _ (by rfl) (by rfl) (by rfl)) (@qI _ _ 8 _ _ (by rfl) (by rfl) (by rfl)) (by rfl) (by rfl) (by rfl) (by rfl) (by rfl) (by rfl)) (@qR _ _ _ _ (@qy _ _ _ _ _ 3 _ _ sc_law_laid.nd (@QX _ _ _ _ (@qAT _ _ _ _ _ _ _ (@qI _ _ 3 _ _ (by rfl) (by rfl) (by rfl)) (@qI _ _ 10 _ _ (by rfl) (by rfl) (by rfl)))) (by rfl) (by first |exact Or.inl rfl |exact Or.inr rfl) (by rfl) (by first |exact .inl rfl |exact .inr rfl |assumption)))) QP))))) (by intro _;rfl)) (@qR _ _ _ _ (@qk _ _ _ _ _ (@wB _ _ _ _ _ _ (@wk _ _ _ _ _ _ _ _ _ (@WG _ _ _ _ _ _ _ (@wk _ _ _ _ _ _ _ _ _ (@yV _ _ _ _ _ _ hu V.n_sorted (@qI _ _ 3 _ _ (by rfl) (by rfl) (by rfl)) (by rfl) (by rfl)) qF) V.n_tuple (by rfl) (by rfl) (by rfl)) (@wk _ _ _ _ _ _ _ _ _ (@WG _ _ _ _ _ _ _ (@wk _ _ _ _ _ _ _ _ _ (@yV _ _ _ _ _ _ hu V.n_sorted (@qI _ _ 4 _ _ (by rfl) (by rfl) (by rfl)) (by rfl) (by rfl)) qF) V.n_tuple (by rfl) (by rfl) (by rfl)) qF)))))))))
theorem sc_law_floor:FnScope ["_law_box_here","_law_length","_law_most","_law_way","_law_high","_law_wide","_law_up","_law_left","_law_cells","_law_row"] ["_law_box_here","_law_length","_law_most"] (qH Qw):=⟨rfl,rfl,rfl,by decide +kernel,rfl,by decide +kernel,by decide +kernel⟩
theorem jZ (V:Env K mg a):DefG P w K mg base 4 "_law_floor" a.law_floor 3 (wG a):=by
 obtain ⟨fd,F⟩:=V.f_law_floor
 refine Qn (B:=zJ a) F sc_law_floor (F.binds (ps:=["_law_box_here","_law_length","_law_most"]) fun _ _ _ _ _ _ us hl=>match us,hl with |[_,_,_],_=>rfl) V.m_law_floor (fun l st h=>qZ h) (fun cdv A outer s H E hr hcm => ?_) (fun l s0 hl hn=>qW hl)
 have hu:=hr.units
 have hc:(Wg (CXF P w) P w K mg base ["_law_box_here","_law_length","_law_most","_law_way","_law_high","_law_wide","_law_up","_law_left","_law_cells","_law_row"] "_law_floor" (qH Qw) a.law_floor cdv A outer s H E).calm=true:=by show A.handled.isNone=true;rw [hcm (by omega)];rfl
 exact (@qK _ _ _ _ _ _ (@qy _ _ _ _ _ 3 _ _ sc_law_floor.nd (@qT _ _ _ _ _ _ _ _ _ ((qg V).call (hr.mono (by omega)) qm) (@qX _ _ _ _ _ _ _ (@qI _ _ 0 _ _ (by rfl) (by rfl) (by rfl)) (@WT _ _ _ _ _ _ _ _ qL qF)) (by rfl) (by rfl)) (by rfl) (by first |exact Or.inl rfl |exact Or.inr rfl) (by rfl) (by first |exact .inl rfl |exact .inr rfl |assumption)) (@qK _ _ _ _ _ _ (@qCl _ _ _ _ _ 4 5 _ _ _ _ _ _ _ _ _ hc sc_law_floor.nd (@WS _ _ _ _ _ _ _ _ _ (@qv _ _ _ _ _ _ _ qL (@qT _ _ _ _ _ _ _ _ _ ((qg V).call (hr.mono (by omega)) qm) (@qX _ _ _ _ _ _ _ (@qI _ _ 0 _ _ (by rfl) (by rfl) (by rfl)) (@WT _ _ _ _ _ _ _ _ qL qF)) (by rfl) (by rfl))) (@WS _ _ _ _ _ _ _ _ _ (@qv _ _ _ _ _ _ _ qL (@qT _ _ _ _ _ _ _ _ _ ((qg V).call (hr.mono (by omega)) qm) (@qX _ _ _ _ _ _ _ (@qI _ _ 0 _ _ (by rfl) (by rfl) (by rfl)) (@WT _ _ _ _ _ _ _ _ qL qF)) (by rfl) (by rfl))) qF)) (by rfl) (by rfl) (by rfl) (by decide) (by rfl) (by rfl) (by rfl)) (@qK _ _ _ _ _ _ (@jT _ _ _ _ _ _ _ (@wB _ _ _ _ _ _ (@wk _ _ _ _ _ _ _ _ _ (@qT _ _ _ _ _ _ _ _ _ ((qg V).call (hr.mono (by omega)) qm) (@qX _ _ _ _ _ _ _ (@qI _ _ 0 _ _ (by rfl) (by rfl) (by rfl)) (@WS _ _ _ _ _ _ _ _ _ (@zZ _ _ _ _ _ _ _ qL (@qI _ _ 4 _ _ (by rfl) (by rfl) (by rfl))) qF)) (by rfl) (by rfl)) (@wk _ _ _ _ _ _ _ _ _ (@qT _ _ _ _ _ _ _ _ _ ((qg V).call (hr.mono (by omega)) qm) (@qX _ _ _ _ _ _ _ (@qI _ _ 0 _ _ (by rfl) (by rfl) (by rfl)) (@WS _ _ _ _ _ _ _ _ _ (@zZ _ _ _ _ _ _ _ qL (@qI _ _ 5 _ _ (by rfl) (by rfl) (by rfl))) qF)) (by rfl) (by rfl)) qF))) (@WZ _ _ _ _ _ _ hc (@qj _ _ _ _ _ (@QO _ _ 6 _ sc_law_floor.nd (by rfl) (by first |exact Or.inl rfl |exact Or.inr rfl) (by first |exact .inl rfl |exact .inr rfl |assumption)) (@qj _ _ _ _ _ (@QO _ _ 7 _ sc_law_floor.nd (by rfl) (by first |exact Or.inl rfl |exact Or.inr rfl) (by first |exact .inl rfl |exact .inr rfl |assumption)) wf (by rfl)) (by rfl)) (by rfl) (by rfl)) (by rfl) (by rfl) (by rfl)) (@qK _ _ _ _ _ _ (@qy _ _ _ _ _ 8 _ _ sc_law_floor.nd (@QX _ _ _ _ (@WR _ _ _ _ _ qF)) (by rfl) (by first |exact Or.inl rfl |exact Or.inr rfl) (by rfl) (by first |exact .inl rfl |exact .inr rfl |assumption)) (@qK _ _ _ _ _ _ (@zF _ _ _ _ _ _ _ _ _ (@QV _ _ _ _ _ _ _ rfl V.n_range (@qX _ _ _ _ _ _ _ (@qI _ _ 4 _ _ (by rfl) (by rfl) (by rfl)) qF) (by rfl)) (@QO _ _ 9 _ sc_law_floor.nd (by rfl) (by first |exact Or.inl rfl |exact Or.inr rfl) (by first |exact .inl rfl |exact .inr rfl |assumption)) (@qR _ _ _ _ (@qy _ _ _ _ _ 8 _ _ sc_law_floor.nd (@QX _ _ _ _ (@qAT _ _ _ _ _ _ _ (@qI _ _ 8 _ _ (by rfl) (by rfl) (by rfl)) (@QX _ _ _ _ (@QZ _ _ _ _ _ _ _ (["_law_up","_law_row","_law_left","_law_way","_law_box_here"]) (["_law_column"]) ([6,9,7,3,0]) _ _ _ _ _ (by exact Qp rfl (by decide +kernel) rfl rfl ⟨⟨rfl,rfl⟩,⟨⟨rfl,rfl⟩,⟨⟨rfl,rfl⟩,⟨⟨rfl,rfl⟩,⟨⟨rfl,rfl⟩,trivial⟩⟩⟩⟩⟩) (@QV _ _ _ _ _ _ _ rfl V.n_range (@qX _ _ _ _ _ _ _ (@qI _ _ 5 _ _ (by rfl) (by rfl) (by rfl)) qF) (by rfl)) (fun s' H' fp pn=>⟨(@wB _ _ _ _ _ _ (@WS _ _ _ _ _ _ _ _ _ (@qv _ _ _ _ _ _ _ (@qI _ _ 0 _ _ (by rfl) (by rfl) (by rfl)) (@qI _ _ 1 _ _ (by rfl) (by rfl) (by rfl))) (@WS _ _ _ _ _ _ _ _ _ (@qv _ _ _ _ _ _ _ (@qI _ _ 2 _ _ (by rfl) (by rfl) (by rfl)) (@qI _ _ 5 _ _ (by rfl) (by rfl) (by rfl))) qF))),⟨(@qw _ _ 5 _ (show (["_law_up","_law_row","_law_left","_law_way","_law_box_here","_law_column"]:List Str).Nodup by decide +kernel) (by rfl) (by first |exact Or.inl rfl |exact Or.inr rfl) (by first |exact .inl rfl |exact .inr rfl |assumption)),(qV 5),(TsOk.cons (@Jb _ _ _ _ (@Zt _ _ _ _ _ _ _ _ (@QJ _ _ _ _ _ _ _ _ _ _ (WY hu) zU (@qI _ _ 3 _ _ (by rfl) (by rfl) (by rfl)) qL (by first |exact qz _ |with_unfolding_all rfl)) (@ZW _ _ _ _ _ (@QJ _ _ _ _ _ _ _ _ _ _ qDR qDj (@qT _ _ _ _ _ _ _ _ _ ((qg V).call (hr.mono (by omega)) (ql _)) (@qX _ _ _ _ _ _ _ (@qI _ _ 4 _ _ (by rfl) (by rfl) (by rfl)) (@WT _ _ _ _ _ _ _ _ qL qF)) (by rfl) (by rfl)) qL (by first |exact qz _ |with_unfolding_all rfl))))) TsOk.nil),rfl⟩,GsOk.nil⟩) (by intro _;rfl))))) (by rfl) (by first |exact Or.inl rfl |exact Or.inr rfl) (by rfl) (by first |exact .inl rfl |exact .inr rfl |assumption))) (by intro _;rfl)) (@qK _ _ _ _ _ _ (@wP _ _ _ _ _ _ _ _ _ (@QJ _ _ _ _ _ _ _ _ _ _ qDR qDj (@qI _ _ 3 _ _ (by rfl) (by rfl) (by rfl)) qL (by first |exact qz _ |with_unfolding_all rfl)) (@qR _ _ _ _ (@qk _ _ _ _ _ (@wl _ _ _ _ _ _ _ (@qT _ _ _ _ _ _ _ _ _ ((yt V).call (hr.mono (by omega)) qm) (@qX _ _ _ _ _ _ _ (@qI _ _ 0 _ _ (by rfl) (by rfl) (by rfl)) (@qX _ _ _ _ _ _ _ (@qI _ _ 1 _ _ (by rfl) (by rfl) (by rfl)) (@wk _ _ _ _ _ _ _ _ _ (@qA6 _ _ _ _ _ _ _ (@WT _ _ _ _ _ _ _ _ qL (@WS _ _ _ _ _ _ _ _ _ (@qAO _ _ _ _ _ _ _ (@qI _ _ 2 _ _ (by rfl) (by rfl) (by rfl)) (@qI _ _ 1 _ _ (by rfl) (by rfl) (by rfl))) qF)) hc V.n_max (by rfl) (by rfl) (by rfl)) qF))) (by rfl) (by rfl)) qL (by exact fun _ _=>rfl)))) QP) (@qR _ _ _ _ (@qk _ _ _ _ _ (@WG _ _ _ _ _ _ _ (@qAP _ _ _ _ _ _ _ _ (@qHc _ _ _ _ _ _ _ _ _ _ (@yV _ _ _ _ _ _ hu V.n_sorted (@qI _ _ 8 _ _ (by rfl) (by rfl) (by rfl)) (by rfl) (by rfl)) ZM (@ZH _ _ _ _ (@qI _ _ 2 _ _ (by rfl) (by rfl) (by rfl)))) qF) V.n_tuple (by rfl) (by rfl) (by rfl))))))))))
theorem sc_law_text:FnScope ["_law_floor_here","_law_rows","_law_row","_law_columns","_law_wide","_law_signs"] ["_law_floor_here"] (qH Q8):=⟨rfl,rfl,rfl,by decide +kernel,rfl,by decide +kernel,by decide +kernel⟩
theorem qAW (V:Env K mg a):DefG P w K mg base 2 "_law_text" a.law_text 1 (W0 a):=by
 obtain ⟨fd,F⟩:=V.f_law_text
 refine Qn (B:=Wy a) F sc_law_text (F.binds (ps:=["_law_floor_here"]) fun _ _ _ _ _ _ us hl=>match us,hl with |[_],_=>rfl) V.m_law_text (fun l st h=>qZ h) (fun cdv A outer s H E hr hcm => ?_) (fun l s0 hl hn=>qW hl)
 have hu:=hr.units
 have hc:(Wg (CXF P w) P w K mg base ["_law_floor_here","_law_rows","_law_row","_law_columns","_law_wide","_law_signs"] "_law_text" (qH Q8) a.law_text cdv A outer s H E).calm=true:=by show A.handled.isNone=true;rw [hcm (by omega)];rfl
 exact (@qK _ _ _ _ _ _ (@wP _ _ _ _ _ _ _ _ _ (@QJ _ _ _ _ _ _ _ _ _ _ (WY hu) zU (@qI _ _ 0 _ _ (by rfl) (by rfl) (by rfl)) (@wB _ _ _ _ _ _ qF) (by first |exact qz _ |with_unfolding_all rfl)) (@qR _ _ _ _ (@qk _ _ _ _ _ wW)) QP) (@qK _ _ _ _ _ _ (@qA9 _ _ _ _ 1 _ _ _ sc_law_text.nd (@WR _ _ _ _ _ qF) (by rfl) (by first |exact Or.inl rfl |exact Or.inr rfl) (by rfl) (by first |exact .inl rfl |exact .inr rfl |assumption)) (@qK _ _ _ _ _ _ (@zF _ _ _ _ _ _ _ _ _ (@QV _ _ _ _ _ _ _ rfl V.n_range (@WS _ _ _ _ _ _ _ _ _ (@qv _ _ _ _ _ _ _ (@wl _ _ _ _ _ _ _ (@wl _ _ _ _ _ _ _ (@qI _ _ 0 _ _ (by rfl) (by rfl) (by rfl)) (@ZR _ _ _ _ _ qL) (by exact fun _ _=>rfl)) qL (by exact fun _ _=>rfl)) qL) qF) (by rfl)) (@QO _ _ 2 _ sc_law_text.nd (by rfl) (by first |exact Or.inl rfl |exact Or.inr rfl) (by first |exact .inl rfl |exact .inr rfl |assumption)) (@qK _ _ _ _ _ _ (@qy _ _ _ _ _ 3 _ _ sc_law_text.nd (@QX _ _ _ _ (@QZ _ _ _ _ _ _ _ (["_law_row"]) (["_law_here","_law_column"]) ([2]) _ _ _ _ _ (by exact Qp rfl (by decide +kernel) rfl rfl ⟨⟨rfl,rfl⟩,trivial⟩) (@wn _ _ _ _ _ (@qI _ _ 0 _ _ (by rfl) (by rfl) (by rfl))) (fun s' H' fp pn=>⟨(@qI _ _ 2 _ _ (by rfl) (by rfl) (by rfl)),⟨(@WZ _ _ _ _ _ _ hc (@qj _ _ _ _ _ (@qw _ _ 1 _ (show (["_law_row","_law_here","_law_column"]:List Str).Nodup by decide +kernel) (by rfl) (by first |exact Or.inl rfl |exact Or.inr rfl) (by first |exact .inl rfl |exact .inr rfl |assumption)) (@qj _ _ _ _ _ (@qw _ _ 2 _ (show (["_law_row","_law_here","_law_column"]:List Str).Nodup by decide +kernel) (by rfl) (by first |exact Or.inl rfl |exact Or.inr rfl) (by first |exact .inl rfl |exact .inr rfl |assumption)) wf (by rfl)) (by rfl)) (by rfl) (by rfl)),(WB (qu (qV 1) (qu (qV 2) WF))),(TsOk.cons (@QJ _ _ _ _ _ _ _ _ _ _ (WY hu) zU (@qI _ _ 1 _ _ (by rfl) (by rfl) (by rfl)) (@qI _ _ 0 _ _ (by rfl) (by rfl) (by rfl)) (by first |exact qz _ |with_unfolding_all rfl)) TsOk.nil),rfl⟩,GsOk.nil⟩) (by intro _;rfl))) (by rfl) (by first |exact Or.inl rfl |exact Or.inr rfl) (by rfl) (by first |exact .inl rfl |exact .inr rfl |assumption)) (@qK _ _ _ _ _ _ (@qy _ _ _ _ _ 4 _ _ sc_law_text.nd (@qv _ _ _ _ _ _ _ (@qBR _ _ _ _ _ _ _ (@WS _ _ _ _ _ _ _ _ _ (@QX _ _ _ _ (@qAT _ _ _ _ _ _ _ (@qI _ _ 3 _ _ (by rfl) (by rfl) (by rfl)) (@QX _ _ _ _ (@WR _ _ _ _ _ (@qJJ _ _ _ _ _ _ _ _ (@ZR _ _ _ _ _ qL) qF))))) qF) V.n_max (by rfl) (by rfl) (by rfl)) qL) (by rfl) (by first |exact Or.inl rfl |exact Or.inr rfl) (by rfl) (by first |exact .inl rfl |exact .inr rfl |assumption)) (@qK _ _ _ _ _ _ (@qBT _ _ _ _ _ _ _ _ _ _ (["_law_columns"]) (["_law_column"]) ([3]) _ _ _ _ _ 5 sc_law_text.nd (by exact Qp rfl (by decide +kernel) rfl rfl ⟨⟨rfl,rfl⟩,trivial⟩) (@QV _ _ _ _ _ _ _ rfl V.n_range (@qX _ _ _ _ _ _ _ (@qI _ _ 4 _ _ (by rfl) (by rfl) (by rfl)) qF) (by rfl)) (fun s' H' fp pn=>⟨(@Ww _ _ _ _ _ _ _ wW (@qEk _ _ _ _ _ _ _ (@qJe _ _ _ _ _ _ _ _ _ (@qIH _ _ _ _ _ _ _ hu (@qI _ _ 1 _ _ (by rfl) (by rfl) (by rfl)) (@qI _ _ 0 _ _ (by rfl) (by rfl) (by rfl)) (by with_unfolding_all rfl)) qF) V.n_int (by rfl) (by rfl) (by rfl)) (by exact fun _ _=>rfl)),⟨(@qw _ _ 1 _ (show (["_law_columns","_law_column"]:List Str).Nodup by decide +kernel) (by rfl) (by first |exact Or.inl rfl |exact Or.inr rfl) (by first |exact .inl rfl |exact .inr rfl |assumption)),(qV 1),TsOk.nil,rfl⟩,GsOk.nil⟩) (by rfl) (by first |exact Or.inl rfl |exact Or.inr rfl) (by first |exact .inl rfl |exact .inr rfl |assumption) (by rfl) (by intro _;rfl)) (@qR _ _ _ _ (@Yr _ _ _ _ _ _ _ _ _ (@qI _ _ 1 _ _ (by rfl) (by rfl) (by rfl)) (@qDf _ _ _ _ _ _ _ _ (@Wj _ _ _ _ _ _ _ _ wW (@qI _ _ 5 _ _ (by rfl) (by rfl) (by rfl)) (by rfl) (by rfl) (by rfl) (by rfl) (by rfl)) (@zw _ _ _ _ _ _ wW)) (by rfl) (by rfl) (by rfl) (by rfl) (by rfl) (by rfl)))))) (by intro _;rfl)) (@qR _ _ _ _ (@qk _ _ _ _ _ (@Wj _ _ _ _ _ _ _ _ wW (@qI _ _ 1 _ _ (by rfl) (by rfl) (by rfl)) (by rfl) (by rfl) (by rfl) (by rfl) (by rfl)))))))
theorem sc_law_bars_text:FnScope ["_law_bars","_law_words"] ["_law_bars"] (qH QG):=⟨rfl,rfl,rfl,by decide +kernel,rfl,by decide +kernel,by decide +kernel⟩
theorem Z1 (V:Env K mg a):DefG P w K mg base 2 "_law_bars_text" a.law_bars_text 1 (Q6 a):=by
 obtain ⟨fd,F⟩:=V.f_law_bars_text
 refine Qn (B:=W8 a) F sc_law_bars_text (F.binds (ps:=["_law_bars"]) fun _ _ _ _ _ _ us hl=>match us,hl with |[_],_=>rfl) V.m_law_bars_text (fun l st h=>qZ h) (fun cdv A outer s H E hr hcm => ?_) (fun l s0 hl hn=>qW hl)
 have hu:=hr.units
 have hc:(Wg (CXF P w) P w K mg base ["_law_bars","_law_words"] "_law_bars_text" (qH QG) a.law_bars_text cdv A outer s H E).calm=true:=by show A.handled.isNone=true;rw [hcm (by omega)];rfl
 exact (@qK _ _ _ _ _ _ (@qBT _ _ _ _ _ _ _ _ _ _ ([]) (["_law_row","_law_column","_law_way"]) ([]) _ _ _ _ _ 1 sc_law_bars_text.nd (by exact Qp rfl (by decide +kernel) rfl rfl trivial) (@wn _ _ _ _ _ (@qI _ _ 0 _ _ (by rfl) (by rfl) (by rfl))) (fun s' H' fp pn=>⟨(@qBS _ _ _ _ _ _ _ (@qBS _ _ _ _ _ _ _ (@qBf _ _ _ _ _ _ _ (@qX _ _ _ _ _ _ _ (@qI _ _ 0 _ _ (by rfl) (by rfl) (by rfl)) qF) V.n_str (by rfl) (by rfl) (by rfl)) (@qBf _ _ _ _ _ _ _ (@qX _ _ _ _ _ _ _ (@qI _ _ 1 _ _ (by rfl) (by rfl) (by rfl)) qF) V.n_str (by rfl) (by rfl) (by rfl))) (@Ww _ _ _ _ _ _ _ wW (@qI _ _ 2 _ _ (by rfl) (by rfl) (by rfl)) (by exact fun _ _=>rfl))),⟨(@WZ _ _ _ _ _ _ hc (@qj _ _ _ _ _ (@qw _ _ 0 _ (show (["_law_row","_law_column","_law_way"]:List Str).Nodup by decide +kernel) (by rfl) (by first |exact Or.inl rfl |exact Or.inr rfl) (by first |exact .inl rfl |exact .inr rfl |assumption)) (@qj _ _ _ _ _ (@qw _ _ 1 _ (show (["_law_row","_law_column","_law_way"]:List Str).Nodup by decide +kernel) (by rfl) (by first |exact Or.inl rfl |exact Or.inr rfl) (by first |exact .inl rfl |exact .inr rfl |assumption)) (@qj _ _ _ _ _ (@qw _ _ 2 _ (show (["_law_row","_law_column","_law_way"]:List Str).Nodup by decide +kernel) (by rfl) (by first |exact Or.inl rfl |exact Or.inr rfl) (by first |exact .inl rfl |exact .inr rfl |assumption)) wf (by rfl)) (by rfl)) (by rfl)) (by rfl) (by rfl)),(WB (qu (qV 0) (qu (qV 1) (qu (qV 2) WF)))),TsOk.nil,rfl⟩,GsOk.nil⟩) (by rfl) (by first |exact Or.inl rfl |exact Or.inr rfl) (by first |exact .inl rfl |exact .inr rfl |assumption) (by rfl) (by intro _;rfl)) (@qR _ _ _ _ (@qk _ _ _ _ _ (@qDf _ _ _ _ _ _ _ _ (@Wj _ _ _ _ _ _ _ _ wW (@qI _ _ 1 _ _ (by rfl) (by rfl) (by rfl)) (by rfl) (by rfl) (by rfl) (by rfl) (by rfl)) (@zw _ _ _ _ _ _ wW)))))
theorem sc_law:FnScope ["_law_script","_law_k","_law_box_here","_law_length","_law_laid_here","_law_bars","_law_drawn","_law_turn","_law_floor_here","_law_text_here","_law_some"] ["_law_script"] (qH W7):=⟨rfl,rfl,rfl,by decide +kernel,rfl,by decide +kernel,by decide +kernel⟩
theorem qJB {fd:FuncData} (V:Env K mg a) (F:Fun K "law" "law" W7 a.law fd):FnOk P w K mg base (CXF P w) 7 a.law fd ["_law_script"] (spG K 1 (jy a)):=by
 refine okV F sc_law fun cdv A outer s H E hr hcm=>⟨qF6 a,?_,fun l s0 hl hn=>qW hl⟩
 have hu:=hr.units
 have hc:(Wg (CXF P w) P w K mg base ["_law_script","_law_k","_law_box_here","_law_length","_law_laid_here","_law_bars","_law_drawn","_law_turn","_law_floor_here","_law_text_here","_law_some"] "law" (qH W7) a.law cdv A outer s H E).calm=true:=by show A.handled.isNone=true;rw [hcm (by omega)];rfl
 exact (@qK _ _ _ _ _ _ (@zF _ _ _ _ _ _ _ _ _ (@QV _ _ _ _ _ _ _ rfl V.n_range (@wk _ _ _ _ _ _ _ _ _ (@qA6 _ _ _ _ _ _ _ (@WT _ _ _ _ _ _ _ _ qL (@wk _ _ _ _ _ _ _ _ _ (@jK _ _ _ _ _ _ _ (@wk _ _ _ _ _ _ _ _ _ (@ZL _ _ _ _ _ _ _ (@qX _ _ _ _ _ _ _ (@qI _ _ 0 _ _ (by rfl) (by rfl) (by rfl)) qF) V.n_len (by rfl) (by rfl) (by rfl)) (@WT _ _ _ _ _ _ _ _ qL qF)) hc V.n_min (by rfl) (by rfl) (by rfl)) qF)) hc V.n_max (by rfl) (by rfl) (by rfl)) qF) (by rfl)) (@QO _ _ 1 _ sc_law.nd (by rfl) (by first |exact Or.inl rfl |exact Or.inr rfl) (by first |exact .inl rfl |exact .inr rfl |assumption)) (@qK _ _ _ _ _ _ (@qy _ _ _ _ _ 2 _ _ sc_law.nd (@qT _ _ _ _ _ _ _ _ _ ((qBv V).call (hr.mono (by omega)) (ql _)) (@qX _ _ _ _ _ _ _ (@qI _ _ 0 _ _ (by rfl) (by rfl) (by rfl)) (@qX _ _ _ _ _ _ _ (@qI _ _ 1 _ _ (by rfl) (by rfl) (by rfl)) qF)) (by rfl) (by rfl)) (by rfl) (by first |exact Or.inl rfl |exact Or.inr rfl) (by rfl) (by first |exact .inl rfl |exact .inr rfl |assumption)) (@qK _ _ _ _ _ _ (@qy _ _ _ _ _ 3 _ _ sc_law.nd (@qv _ _ _ _ _ _ _ qL (@qT _ _ _ _ _ _ _ _ _ ((qg V).call (hr.mono (by omega)) (ql _)) (@qX _ _ _ _ _ _ _ (@qI _ _ 2 _ _ (by rfl) (by rfl) (by rfl)) (@WT _ _ _ _ _ _ _ _ qL qF)) (by rfl) (by rfl))) (by rfl) (by first |exact Or.inl rfl |exact Or.inr rfl) (by rfl) (by first |exact .inl rfl |exact .inr rfl |assumption)) (@qK _ _ _ _ _ _ (@jT _ _ _ _ _ _ _ (@qT _ _ _ _ _ _ _ _ _ ((yt V).call (hr.mono (by omega)) (ql _)) (@qX _ _ _ _ _ _ _ (@qI _ _ 2 _ _ (by rfl) (by rfl) (by rfl)) (@qX _ _ _ _ _ _ _ (@qI _ _ 3 _ _ (by rfl) (by rfl) (by rfl)) (@WS _ _ _ _ _ _ _ _ _ (@qAO _ _ _ _ _ _ _ qL (@qI _ _ 3 _ _ (by rfl) (by rfl) (by rfl))) qF))) (by rfl) (by rfl)) (@WZ _ _ _ _ _ _ hc (@qj _ _ _ _ _ (@QO _ _ 4 _ sc_law.nd (by rfl) (by first |exact Or.inl rfl |exact Or.inr rfl) (by first |exact .inl rfl |exact .inr rfl |assumption)) (@qj _ _ _ _ _ (@QO _ _ 5 _ sc_law.nd (by rfl) (by first |exact Or.inl rfl |exact Or.inr rfl) (by first |exact .inl rfl |exact .inr rfl |assumption)) wf (by rfl)) (by rfl)) (by rfl) (by rfl)) (by rfl) (by rfl) (by rfl)) (@qK _ _ _ _ _ _ (@qy _ _ _ _ _ 6 _ _ sc_law.nd qEm (by rfl) (by first |exact Or.inl rfl |exact Or.inr rfl) (by rfl) (by first |exact .inl rfl |exact .inr rfl |assumption)) (@qK _ _ _ _ _ _ (@zF _ _ _ _ _ _ _ _ _ (@QV _ _ _ _ _ _ _ rfl V.n_range (@wk _ _ _ _ _ _ _ _ _ (@qT _ _ _ _ _ _ _ _ _ ((qg V).call (hr.mono (by omega)) (ql _)) (@qX _ _ _ _ _ _ _ (@qI _ _ 2 _ _ (by rfl) (by rfl) (by rfl)) (@WT _ _ _ _ _ _ _ _ qL qF)) (by rfl) (by rfl)) qF) (by rfl)) (@QO _ _ 7 _ sc_law.nd (by rfl) (by first |exact Or.inl rfl |exact Or.inr rfl) (by first |exact .inl rfl |exact .inr rfl |assumption)) (@qR _ _ _ _ (@qFG _ _ _ _ _ _ _ _ _ _ (B1 (Nat.add_le_add_left (by decide) _) hu) V.nk (@qI _ _ 6 _ _ (by rfl) (by rfl) (by rfl)) (@wB _ _ _ _ _ _ (@wk _ _ _ _ _ _ _ _ _ (@qT _ _ _ _ _ _ _ _ _ ((qg V).call (hr.mono (by omega)) (ql _)) (@qX _ _ _ _ _ _ _ (@qI _ _ 2 _ _ (by rfl) (by rfl) (by rfl)) (@WT _ _ _ _ _ _ _ _ qL qF)) (by rfl) (by rfl)) (@wk _ _ _ _ _ _ _ _ _ (@qT _ _ _ _ _ _ _ _ _ ((qg V).call (hr.mono (by omega)) (ql _)) (@qX _ _ _ _ _ _ _ (@qI _ _ 2 _ _ (by rfl) (by rfl) (by rfl)) (@WT _ _ _ _ _ _ _ _ qL qF)) (by rfl) (by rfl)) (@wk _ _ _ _ _ _ _ _ _ (@qT _ _ _ _ _ _ _ _ _ ((qg V).call (hr.mono (by omega)) (ql _)) (@qX _ _ _ _ _ _ _ (@qI _ _ 2 _ _ (by rfl) (by rfl) (by rfl)) (@WT _ _ _ _ _ _ _ _ qL qF)) (by rfl) (by rfl)) qF)))) YT (by rfl))) (by intro _;rfl)) (@qK _ _ _ _ _ _ (@zF _ _ _ _ _ _ _ _ _ (@wn _ _ _ _ _ (@QX _ _ _ _ (@WR _ _ _ _ _ (@qX _ _ _ _ _ _ _ (@qI _ _ 4 _ _ (by rfl) (by rfl) (by rfl)) (@wk _ _ _ _ _ _ _ _ _ (@qT _ _ _ _ _ _ _ _ _ ((jZ V).call (hr.mono (by omega)) (ql _)) (@qX _ _ _ _ _ _ _ (@qI _ _ 2 _ _ (by rfl) (by rfl) (by rfl)) (@qX _ _ _ _ _ _ _ (@qI _ _ 3 _ _ (by rfl) (by rfl) (by rfl)) (@WT _ _ _ _ _ _ _ _ qL qF))) (by rfl) (by rfl)) (@qAP _ _ _ _ _ _ _ _ (@qAj _ _ _ _ _ _ _ _ _ _ (@qI _ _ 4 _ _ (by rfl) (by rfl) (by rfl)) (@ZH _ _ _ _ qL) ZM) (@qAP _ _ _ _ _ _ _ _ (@qAj _ _ _ _ _ _ _ _ _ _ (@qI _ _ 4 _ _ (by rfl) (by rfl) (by rfl)) ZM (@ZH _ _ _ _ (@ZR _ _ _ _ _ qL))) (@qAP _ _ _ _ _ _ _ _ (@qAj _ _ _ _ _ _ _ _ _ _ (@qI _ _ 4 _ _ (by rfl) (by rfl) (by rfl)) (@ZH _ _ _ _ qL) ZM) (@qIF _ _ _ _ _ _ _ _ (@wB _ _ _ _ _ _ qF) qF))))))))) (@QO _ _ 8 _ sc_law.nd (by rfl) (by first |exact Or.inl rfl |exact Or.inr rfl) (by first |exact .inl rfl |exact .inr rfl |assumption)) (@qK _ _ _ _ _ _ (@qy _ _ _ _ _ 9 _ _ sc_law.nd (@qT _ _ _ _ _ _ _ _ _ ((ZK V).call (hr.mono (by omega)) (ql _)) (@qX _ _ _ _ _ _ _ (@qI _ _ 8 _ _ (by rfl) (by rfl) (by rfl)) qF) (by rfl) (by rfl)) (by rfl) (by first |exact Or.inl rfl |exact Or.inr rfl) (by rfl) (by first |exact .inl rfl |exact .inr rfl |assumption)) (@qR _ _ _ _ (@wP _ _ _ _ _ _ _ _ _ (@Jb _ _ _ _ (@Zt _ _ _ _ _ _ _ _ (@WM _ _ _ _ _ (@wx _ _ _ _ (@zI _ _ _ _ _ _ _ _ V.kit V.n_isinstance (@qX _ _ _ _ _ _ _ (@qI _ _ 9 _ _ (by rfl) (by rfl) (by rfl)) (@qX _ _ _ _ _ _ _ (@Zi _ _ _ _ _ rfl V.n_str Boot.«str» (by decide) (by decide)) qF)) (by rfl) (by rfl) (by rfl)) (by intro _;rfl))) (@Zt _ _ _ _ _ _ _ _ (@QJ _ _ _ _ _ _ _ _ _ _ (zx hu) yI (@qI _ _ 9 _ _ (by rfl) (by rfl) (by rfl)) (@qT _ _ _ _ _ _ _ _ _ ((qAW V).call (hr.mono (by omega)) (ql _)) (@qX _ _ _ _ _ _ _ (@qI _ _ 8 _ _ (by rfl) (by rfl) (by rfl)) qF) (by rfl) (by rfl)) (by first |exact qz _ |with_unfolding_all rfl)) (@ZW _ _ _ _ _ (@QJ _ _ _ _ _ _ _ _ _ _ (zx hu) yI (@qT _ _ _ _ _ _ _ _ _ ((Y4 V).call (hr.mono (by omega)) (ql _)) (@qX _ _ _ _ _ _ _ (@qI _ _ 9 _ _ (by rfl) (by rfl) (by rfl)) qF) (by rfl) (by rfl)) (@qI _ _ 8 _ _ (by rfl) (by rfl) (by rfl)) (by first |exact qz _ |with_unfolding_all rfl)))))) (@qR _ _ _ _ (@qk _ _ _ _ _ YT)) QP))) (by intro _;rfl)) (@qR _ _ _ _ (@zF _ _ _ _ _ _ _ _ _ (@wn _ _ _ _ _ (@QX _ _ _ _ (@WR _ _ _ _ _ (@qX _ _ _ _ _ _ _ (@qI _ _ 5 _ _ (by rfl) (by rfl) (by rfl)) (@wk _ _ _ _ _ _ _ _ _ (@WG _ _ _ _ _ _ _ (@wk _ _ _ _ _ _ _ _ _ (@qER _ _ _ _ _ _ hc hu V.n_sorted (@qI _ _ 6 _ _ (by rfl) (by rfl) (by rfl)) (by rfl) (by rfl)) qF) V.n_tuple (by rfl) (by rfl) (by rfl)) (@qIF _ _ _ _ _ _ _ _ (@wB _ _ _ _ _ _ qF) qF)))))) (@QO _ _ 10 _ sc_law.nd (by rfl) (by first |exact Or.inl rfl |exact Or.inr rfl) (by first |exact .inl rfl |exact .inr rfl |assumption)) (@qK _ _ _ _ _ _ (@qy _ _ _ _ _ 9 _ _ sc_law.nd (@qT _ _ _ _ _ _ _ _ _ ((JW V).call (hr.mono (by omega)) (ql _)) (@qX _ _ _ _ _ _ _ (@qI _ _ 10 _ _ (by rfl) (by rfl) (by rfl)) qF) (by rfl) (by rfl)) (by rfl) (by first |exact Or.inl rfl |exact Or.inr rfl) (by rfl) (by first |exact .inl rfl |exact .inr rfl |assumption)) (@qR _ _ _ _ (@wP _ _ _ _ _ _ _ _ _ (@Jb _ _ _ _ (@Zt _ _ _ _ _ _ _ _ (@WM _ _ _ _ _ (@wx _ _ _ _ (@zI _ _ _ _ _ _ _ _ V.kit V.n_isinstance (@qX _ _ _ _ _ _ _ (@qI _ _ 9 _ _ (by rfl) (by rfl) (by rfl)) (@qX _ _ _ _ _ _ _ (@Zi _ _ _ _ _ rfl V.n_str Boot.«str» (by decide) (by decide)) qF)) (by rfl) (by rfl) (by rfl)) (by intro _;rfl))) (@Zt _ _ _ _ _ _ _ _ (@QJ _ _ _ _ _ _ _ _ _ _ (zx hu) yI (@qI _ _ 9 _ _ (by rfl) (by rfl) (by rfl)) (@qT _ _ _ _ _ _ _ _ _ ((Z1 V).call (hr.mono (by omega)) (ql _)) (@qX _ _ _ _ _ _ _ (@qI _ _ 10 _ _ (by rfl) (by rfl) (by rfl)) qF) (by rfl) (by rfl)) (by first |exact qz _ |with_unfolding_all rfl)) (@ZW _ _ _ _ _ (@QJ _ _ _ _ _ _ _ _ _ _ (zx hu) yI (@qT _ _ _ _ _ _ _ _ _ ((j7 V).call (hr.mono (by omega)) (ql _)) (@qX _ _ _ _ _ _ _ (@qI _ _ 9 _ _ (by rfl) (by rfl) (by rfl)) qF) (by rfl) (by rfl)) (@qI _ _ 10 _ _ (by rfl) (by rfl) (by rfl)) (by first |exact qz _ |with_unfolding_all rfl)))))) (@qR _ _ _ _ (@qk _ _ _ _ _ YT)) QP))) (by intro _;rfl))))))))) (by intro _;rfl)) (@qR _ _ _ _ (@qk _ _ _ _ _ YT)))
end
end K91
end
section
namespace EV
open PySem L2 EX
theorem WV {G:qB->Prop} {k:PV->qB->Rs (List PV)} {st:qB} (hG:G st) {F:PV->List PV}:∀ {l:List PV},(∀ p∈l,k p st = .ok (F p) st)->qf G k l st = .ok (l.flatMap F) st
 |[],_=>by unfold qf;rw [AC hG];rfl
 |p::l,h=>by
  unfold qf
  rw [AC hG,h p AD]
  show (qf G k l st).bind _=_
  rw [WV hG fun q hq=>h q (AG _ hq)]
  rfl
theorem Zq {F:PV->PV}:∀ l:List PV,l.flatMap (fun p=>[F p])=l.map F
 |[]=>rfl
 |p::l=>by rw [List.flatMap_cons,Zq l];rfl
theorem zE {c:PV->Bool}:∀ l:List PV,l.flatMap (fun p=>if c p=true then [p] else [])=l.filter c
 |[]=>rfl
 |p::l=>by
  rw [List.flatMap_cons,zE l,List.filter_cons]
  cases c p <;> rfl
theorem QK {caps:List Nat} {n:Nat} {fi:FI} {g:FG} {f:FE} {r:qh} {st:qB} {w:ItP} {F:PV->PV} (hfi:fi r st = .ok w st) (hG:w.G st) (hl:w.l.length≤sizeLine)
  (h:∀ p∈w.l,∃ r',g p (WA caps n r)=some r'∧f r' st = .ok (F p) st):qp caps n fi g [] [] f r st = .ok (w.l.map F) st:=by
 unfold qp
 rw [hfi]
 show (match qf w.G (QH ⟨fi,g,[]⟩ (QW [] f) (WA caps n r)) w.l st with | .ok l s'=>if l.length≤sizeLine then Rs.ok l s' else Rs.no |_=>Rs.no)=_
 rw [WV (F:=fun p=>[F p]) hG fun p hp=>by
  obtain ⟨r',h1,h2⟩:=h p hp
  unfold QH
  show (match g p (WA caps n r) with |none=>_ |some r'=>_)=_
  rw [h1]
  show (QW [] f) r' st=_
  unfold QW
  rw [h2];rfl]
 rw [Zq]
 dsimp only
 rw [AC (by rw [AB];exact hl)]
theorem Yy {caps:List Nat} {n:Nat} {fi:FI} {g:FG} {t:FT} {f:FE} {r:qh} {st:qB} {w:ItP} {c:PV->Bool} (hfi:fi r st = .ok w st) (hG:w.G st) (hl:w.l.length≤sizeLine)
  (h:∀ p∈w.l,∃ r',g p (WA caps n r)=some r'∧t r' st = .ok (c p) st∧f r' st = .ok p st):qp caps n fi g [t] [] f r st = .ok (w.l.filter c) st:=by
 unfold qp
 rw [hfi]
 show (match qf w.G (QH ⟨fi,g,[t]⟩ (QW [] f) (WA caps n r)) w.l st with | .ok l s'=>if l.length≤sizeLine then Rs.ok l s' else Rs.no |_=>Rs.no)=_
 rw [WV (F:=fun p=>if c p=true then [p] else []) hG fun p hp=>by
  obtain ⟨r',h1,h2,h3⟩:=h p hp
  unfold QH
  show (match g p (WA caps n r) with |none=>_ |some r'=>_)=_
  rw [h1]
  show (Qb [t] r' st).bind _=_
  unfold Qb Qb
  rw [h2]
  cases hc:c p
  ·rfl
  ·show (QW [] f) r' st=_
   unfold QW
   rw [h3];rfl]
 rw [zE]
 dsimp only
 rw [AC (Aa (List.length_filter_le _ _) hl)]
theorem qCG {G:qB->Prop} {g:FG} {F:FS} {r:qh} {st:qB} (h:G st):Qh G g F [] r st = .nx r st:=by unfold Qh;rw [AC h]
theorem Js {G:qB->Prop} {g:FG} {F:FS} {r r1 r2:qh} {st s2:qB} {p:PV} {ps:List PV} (h:G st) (h1:g p r=some r1) (h2:F r1 st = .nx r2 s2):Qh G g F (p::ps) r st=Qh G g F ps r2 s2:=by
 rw [Qh,AC h,h1]
 dsimp only
 rw [h2]
section
variable {F G:FS} {f:FE} {fl:FL} {fi:FI} {g:FG} {t:FT} {r r':qh} {st st':qB} {p:PV} {l:List PV} {w:ItP} {i:Nat}
theorem qHf (h:F r st = .nx r' st'):qS F G r st=G r' st':=by unfold qS;rw [h]
theorem qGR (h:F r st = .rt p st'):qS F G r st = .rt p st':=by unfold qS;rw [h]
theorem qJk {x:Exc} (h:F r st = .ex x st'):qS F G r st = .ex x st':=by unfold qS;rw [h]
theorem qJE {x:Exc} {n N:Nat} {B:FS} (hl:l.length=n) (h:B (QA N l) st = .ex x st'):QB n N B l st = .ex x st':=by unfold QB;rw [AC hl,h];rfl
theorem qGt (h:f r st = .ok p st'):qc i f r st = .nx (r.set i (some p)) st':=by unfold qc;rw [h];rfl
theorem qFv (h:fl r st = .ok l st'):zX i fl r st = .nx (r.set i (some (.ref st'.length))) (st'++[.l l]):=by unfold zX;rw [h];rfl
theorem qCt (h:f r st = .ok p st'):qo f r st = .rt p st':=by unfold qo;rw [h];rfl
theorem qEu (h:fl r st = .ok l st'):Zb fl r st = .rt (.ref st'.length) (st'++[.l l]):=by unfold Zb;rw [h];rfl
theorem qHV (h:fi r st = .ok w st'):WQ fi g F r st=Qh w.G g F w.l r st':=by unfold WQ;rw [h];rfl
theorem qJN (h:t r st = .ok true st'):Q4 t F G r st=F r st':=by unfold Q4;rw [h];rfl
theorem qJH (h:t r st = .ok false st'):Q4 t F G r st=G r st':=by unfold Q4;rw [h];rfl
theorem qIM (h:fl r st = .ok l st'):vFz fl r st = .ok (.lst l) st':=by unfold vFz;rw [h];rfl
theorem qBF {k:List PV->qB->Rs PV} {fa:FA} (h:fa r st = .ok l st'):qE k fa r st=k l st':=by unfold qE;rw [h];rfl
theorem qE6 {fa:FA} {st2:qB} (h:f r st = .ok p st') (h2:fa r st' = .ok l st2):qA f fa r st = .ok (p::l) st2:=by unfold qA;rw [h];show (fa r st').bind _=_;rw [h2];rfl
theorem Yu {k:PV->PV->qB->Rs PV} {fb:FE} {q:PV} {st2:qB} (h:f r st = .ok p st') (h2:fb r st' = .ok q st2):qG k f fb r st=k p q st2:=by unfold qG;rw [h];show (fb r st').bind _=_;rw [h2];rfl
theorem qBr {b:Bool} (h:f r st = .ok (.bl b) st'):QE f r st = .ok b st':=by unfold QE;rw [h];rfl
theorem qHv {b:Bool} (h:t r st = .ok b st'):wQ t r st = .ok (!b) st':=by unfold wQ;rw [h];rfl
theorem qIw {b:Bool} (h:f r st = .ok (.bl b) st'):vTB f r st = .ok b st':=by unfold vTB;rw [h];rfl
theorem qBO {n N:Nat} {B:FS} (hl:l.length=n) (h:B (QA N l) st = .rt p st'):QB n N B l st = .ok p st':=by unfold QB;rw [AC hl,h];rfl
end
section
variable {F G:FS} {f fb fo fi2:FE} {fl:FL} {fi:FI} {fa:FA} {g:FG} {t u:FT} {r r1 r':qh} {st s1 s2 s3:qB} {p q z:PV} {l m:List PV} {w:ItP} {i:Nat} {b c:Bool} {x:Exc} {o:RS} {R:Rs PV}
theorem qQ {k:PV->PV->qB->Rs PV} (h:f r st = .ok p s1) (h2:fb r s1 = .ok q s2) (h3:k p q s2=R):qG k f fb r st=R:=by rw [Yu h h2];exact h3
theorem qM {k:List PV->qB->Rs PV} (h:fa r st = .ok l s1) (h2:k l s1=R):qE k fa r st=R:=by rw [qBF h];exact h2
theorem qY:qD r st = .ok [] st:=rfl
theorem qN (h:f r st = .ok p s1) (h2:fa r s1 = .ok l s2):qA f fa r st = .ok (p::l) s2:=qE6 h h2
theorem Wh (h:fa r st = .ok l s1) (hl:l.length≤sizeLine):Qr fa r st = .ok (.tup l) s1:=by unfold Qr;rw [h];exact AC hl
theorem yb (h:fa r st = .ok l s1) (hl:l.length≤sizeLine):wt fa r st = .ok l s1:=by unfold wt;rw [h];exact AC hl
theorem wj (h:fl r st = .ok l s1):vFz fl r st = .ok (.lst l) s1:=qIM h
theorem qDq (h:f r st = .ok p s1) (h2:fb r s1 = .ok q s2) (e1:asL s2 p=some l) (e2:asL s2 q=some m) (hl:l.length + m.length≤sizeLine):yL f fb r st = .ok (l++m) s2:=by
 unfold yL;rw [h];show (fb r s1).bind _=_;rw [h2];show (match asL s2 p with |some l=>_ |none=>_)=_;rw [e1];dsimp only;rw [e2];dsimp only;rw [AC hl]
theorem Qy (h:f r st = .ok (.bl b) s1):QE f r st = .ok b s1:=qBr h
theorem w6 (h:f r st = .ok (.bl b) s1):vTB f r st = .ok b s1:=qIw h
theorem w_not (h:t r st = .ok b s1):wQ t r st = .ok (!b) s1:=qHv h
theorem qAM (h:t r st = .ok true s1):Wi t u r st = .ok true s1:=by unfold Wi;rw [h];rfl
theorem We (h:t r st = .ok false s1) (h2:u r s1 = .ok b s2):Wi t u r st = .ok b s2:=by unfold Wi;rw [h];exact h2
theorem qAx (h:t r st = .ok false s1):Wn t u r st = .ok false s1:=by unfold Wn;rw [h];rfl
theorem jL (h:t r st = .ok true s1) (h2:u r s1 = .ok b s2):Wn t u r st = .ok b s2:=by unfold Wn;rw [h];exact h2
theorem qa (h:F r st = .nx r' s1) (h2:G r' s1=o):qS F G r st=o:=by rw [qHf h];exact h2
theorem Qt (h:F r st = .rt p s1):qS F G r st = .rt p s1:=qGR h
theorem QU (h:f r st = .ok p s1):qc i f r st = .nx (r.set i (some p)) s1:=qGt h
theorem qEP (h:fl r st = .ok l s1):zX i fl r st = .nx (r.set i (some (.ref s1.length))) (s1++[.l l]):=qFv h
theorem QI (h:f r st = .ok p s1):qo f r st = .rt p s1:=qCt h
theorem qDO (h:fl r st = .ok l s1):Zb fl r st = .rt (.ref s1.length) (s1++[.l l]):=qEu h
theorem wV (h:t r st = .ok true s1) (h2:F r s1=o):Q4 t F G r st=o:=by rw [qJN h];exact h2
theorem Qd (h:t r st = .ok false s1) (h2:G r s1=o):Q4 t F G r st=o:=by rw [qJH h];exact h2
theorem qAw (h:t r st = .ok true s1) (h2:f r s1=R):vIf t f fb r st=R:=by unfold vIf;rw [h];exact h2
theorem qBg (h:t r st = .ok false s1) (h2:fb r s1=R):vIf t f fb r st=R:=by unfold vIf;rw [h];exact h2
theorem Zg (h:fi r st = .ok w s1) (h2:Qh w.G g F w.l r s1=o):WQ fi g F r st=o:=by rw [qHV h];exact h2
theorem Qq {Gd:qB->Prop} (h:Gd st):Qh Gd g F [] r st = .nx r st:=qCG h
theorem zH {Gd:qB->Prop} {ps:List PV} (h:Gd st) (h1:g p r=some r1) (h2:F r1 st = .nx r' s2) (h3:Qh Gd g F ps r' s2=o):Qh Gd g F (p::ps) r st=o:=by rw [Js h h1 h2];exact h3
theorem qA8 {r1:qh} (h:f r st = .ok p s1) (h2:g p r=some r1):Zk f g r st = .nx r1 s1:=by unfold Zk;rw [h];show (match g p r with |some r'=>RS.nx r' s1 |none=>RS.no)=_;rw [h2]
theorem qGK {j:Nat} (h:fa r st = .ok [p,q] s1):Jl i j fa r st = .nx ((r.set i (some p)).set j (some q)) s1:=by unfold Jl;rw [h];rfl
theorem qIg (h:f r st = .ok p s1) (h2:fo r s1 = .ok q s2) (h3:fi2 r s2 = .ok z s3) {s4:qB} (h4:YU s3 q z p=some s4):qBG fo fi2 f r st = .nx r s4:=by
 unfold qBG;rw [h];show (fo r s1).bindS _=_;rw [h2];show (fi2 r s2).bindS _=_;rw [h3];show (match YU s3 q z p with |some s4=>RS.nx r s4 |none=>RS.no)=_;rw [h4]
theorem qq {n N:Nat} {B:FS} (hl:l.length=n) (h:B (QA N l) st = .rt p s1):QB n N B l st = .ok p s1:=qBO hl h
theorem sz {n:Nat} (h:Nat.ble n 1000=true):n≤sizeLine:=Aa (A5 h) (by decide)
theorem yS {i j:Int} (h:-(2 ^ 64) < i∧i < 2 ^ 64):zn (.int i) (.int j) st = .ok (.int (i * j)) st:=by unfold zn gI;dsimp only;rw [AC (.inl h)]
theorem qD8 {i j:Int} (h:-(2 ^ 64) < j∧j < 2 ^ 64):zn (.int i) (.int j) st = .ok (.int (i * j)) st:=by unfold zn gI;dsimp only;rw [AC (.inr h)]
theorem qCn {i j:Int} (h:0 < j):J9 (.int i) (.int j) st = .ok (.int (i % j)) st:=by unfold J9 gI;dsimp only;rw [AC h]
theorem qDi {i j:Int} (h:0 < j∧j < 1073741824):ji (.int i) (.int j) st = .ok (.int (i / j)) st:=by unfold ji gI;dsimp only;rw [AC h]
theorem qC1 {i j:Int} (h:0 < j∧j < 1073741824):ZF [.int i,.int j] st = .ok (.tup [.int (i / j),.int (i % j)]) st:=by unfold ZF;dsimp only;rw [AC h]
theorem wE {i j:Int}:qt (.int i) (.int j) st = .ok (.int (i + j)) st:=rfl
theorem qAJ {i j:Int}:zS (.int i) (.int j) st = .ok (.int (i - j)) st:=rfl
theorem w_lt {i j:Int}:gLt (.int i) (.int j) st = .ok (.bl (decide (i < j))) st:=rfl
theorem qGs {i j:Int}:gGt (.int i) (.int j) st = .ok (.bl (decide (i > j))) st:=rfl
theorem jQ {i:Int} (h:w5 st p=some l) (h2:atI l i=some z):gIx p (.int i) st = .ok z st:=by unfold gIx;simp only [h,h2]
theorem YO (h:w5 st p=some l) {n:Int} (hn:(l.length:Int)=n):zR [p] st = .ok (.int n) st:=by unfold zR;simp only [h];rw [hn]
theorem qDL {n:Nat} (h:st[n]? = some (.l l)):w5 st (.ref n)=some l:=by unfold w5 asL;simp only [h]
theorem qHe {n:Nat} (h:st[n]? = some (.l l)):asL st (.ref n)=some l:=by unfold asL;simp only [h]
theorem qCd {n:Nat} (h:r[n]? = some (some p)):qC n r st = .ok p st:=by unfold qC;rw [h]
theorem Jg {n:Nat} (h:fo r st = .ok (.ref n) s1) (hk:lk s1 (.ref n)=true) (h2:f r s1 = .ok p s2) (h3:s2[n]? = some (.l l)) (hl:l.length < sizeLine):wO fo f r st = .nx r (s2.set n (.l (l++[p]))):=by
 unfold wO;rw [h];show (if lk s1 (.ref n)=true then (f r s1).bindS _ else RS.no)=_;rw [AC hk,h2];show (match s2[n]? with |some (.l xs)=>if xs.length < sizeLine then RS.nx r (s2.set n (.l (xs++[p]))) else .no |_ => .no)=_;rw [h3];exact AC hl
theorem qBA {n:Nat} {k:Int} (h0:0≤k) (h1:k < n):ixN n k=some k.toNat:=by unfold ixN;rw [AC h0,AC (by omega)]
theorem zA {Gd:qB->Prop} {k:PV->qB->Rs (List PV)} (h:Gd st):qf Gd k [] st = .ok [] st:=by unfold qf;exact AC h
theorem Z5 {Gd:qB->Prop} {k:PV->qB->Rs (List PV)} {ps:List PV} (hG:Gd st) (h:k p st = .ok l s1) (h2:qf Gd k ps s1 = .ok m s2):qf Gd k (p::ps) st = .ok (l++m) s2:=by
 rw [qf,AC hG,h];show (qf Gd k ps s1).bind _=_;rw [h2];rfl
theorem qD9 {caps:List Nat} {n:Nat} {ts:List FT} {gs:List GenF} (hfi:fi r st = .ok w s1) (h:qf w.G (QH ⟨fi,g,ts⟩ (QW gs f) (WA caps n r)) w.l s1 = .ok l s2) (hl:l.length≤sizeLine):qp caps n fi g ts gs f r st = .ok l s2:=by
 unfold qp;rw [hfi];show (match qf w.G (QH ⟨fi,g,ts⟩ (QW gs f) (WA caps n r)) w.l s1 with | .ok l s'=>if l.length≤sizeLine then Rs.ok l s' else Rs.no |_=>Rs.no)=_;rw [h];exact AC hl
theorem zN (h:w5 st p=some l):wH [p] st = .ok (.tup l) st:=by unfold wH;simp only [h]
theorem wX (h:f r st = .ok (.lst l) s1):qx f r st = .ok ⟨l,fun _=>True⟩ s1:=by unfold qx;rw [h];rfl
theorem wc (h:f r st = .ok (.tup l) s1):qx f r st = .ok ⟨l,fun _=>True⟩ s1:=by unfold qx;rw [h];rfl
end
abbrev CE:=qh->Option PV
section
variable {F G:FS} {f fb fc fo fi2:FE} {fl:FL} {fi:FI} {fa:FL} {g:FG} {t u:FT} {c d e:CE} {co cp:CO} {f1 f2:FO} {r r':qh} {st s1 s2 s3:qB} {p q z:PV} {l:List PV} {n:Nat} {o:RS}
theorem qJm (h:st[n]? = some (.l l)):lk st (.ref n)=true:=by unfold lk;dsimp only;rw [h]
theorem qHF {kvs:List (List L2.Key×PV)} {k:List L2.Key} (h:f r st = .ok p s1) (h1:fb r s1 = .ok (.ref n) s2) (h2:fc r s2 = .ok q s3) (hk:YQ q=some k) (hd:s3[n]? = some (.d kvs)) (hl:kvs.length < sizeLine):yh fb fc f r st = .nx r (s3.set n (.d (jk kvs k p))):=by
 unfold yh;rw [h];show (fb r s1).bindS _=_;rw [h1];show (fc r s2).bindS _=_;rw [h2]
 show (match YQ q,s3[n]? with |some k,some (.d kvs)=>_ |_,_=>_)=_
 rw [hk,hd];dsimp only;rw [AC hl]
end
end EV
end
section
namespace EV
open PySem ET
abbrev qU:=Int×Int
def cP (c:qU):PV := .tup [.int c.1,.int c.2]
def cL (c:qU):List Int:=[c.1,c.2]
def lC:List Int->qU
 |[x,y]=>(x,y)
 |_=>(0,0)
theorem JO:∀ l:List qU,nrs (l.map cP)=true
 |[]=>rfl
 |c::l=>by rw [AK,nrs,JO l];rfl
theorem yp:∀ l:List qU,deps (l.map cP)≤1
 |[]=>BG _
 |c::l=>by
  rw [AK,deps]
  have:=yp l
  have h:dep (cP c)=1:=rfl
  omega
theorem qFy (a b:qU):peq (cP a) (cP b)=decide (a=b):=by
 obtain ⟨a1,a2⟩:=a
 obtain ⟨b1,b2⟩:=b
 show ((a1==b1)&&((a2==b2)&&true))=_
 rw [CG]
 by_cases h1:a1=b1
 ·by_cases h2:a2=b2
  ·subst h1;subst h2;simp
  ·rw [BM.mpr h2,B6];exact (AO (by simp [h2])).symm
 ·rw [BM.mpr h1,Bool.false_and];exact (AO (by simp [h1])).symm
theorem qGL (c:qU):∀ l:List qU,pin (cP c) (l.map cP)=decide (c∈l)
 |[]=>rfl
 |d::l=>by
  rw [AK,pin,qFy,qGL c l]
  by_cases h:d=c
  ·subst h;rw [AR rfl,Bool.true_or];exact (AR AD).symm
  ·rw [AO h,Bool.false_or]
   refine CD.mpr ⟨fun q=>AG _ q,fun q => ?_⟩
   rcases AL.mp q with z |z
   ·exact absurd z.symm h
   ·exact z
theorem qJU {neg:Bool} {c:qU} {l:List qU} {q:PV} {st:qB} (h:w5 st q=some (l.map cP)):gIn neg (cP c) q st = .ok (.bl (if neg then !decide (c∈l) else decide (c∈l))) st:=by
 unfold gIn
 rw [h]
 dsimp only
 rw [AC ⟨JO l,rfl,Aa (yp l) (by decide)⟩]
 show Rs.ok (PV.bl (if neg then !pin (cP c) (l.map cP) else pin (cP c) (l.map cP))) st=_
 rw [qGL]
theorem eq_nil {l:List qU} {st:qB}:gEq (.lst (l.map cP)) (.lst []) st = .ok (.bl l.isEmpty) st:=by
 have h1:zT (.lst (l.map cP)) (.lst [])=true:=by
  show (nrs (l.map cP)&&true&&decide (deps (l.map cP) + 1≤Zx))=true
  rw [JO,AR (Aa (Bu (yp l)) (by decide))];rfl
 show (if zT (.lst (l.map cP)) (.lst [])=true then Rs.ok (PV.bl (peq (PV.lst (l.map cP)) (PV.lst []))) st else Rs.no)=_
 rw [AC h1]
 cases l <;> rfl
theorem qHm (c:qU):Wo (cP c)=some (cL c):=rfl
theorem qAa:∀ l:List qU,QC Wo (l.map cP)=some (l.map cL)
 |[]=>rfl
 |c::l=>by rw [AK,QC,qHm];dsimp only;rw [qAa l];rfl
def Qf (l:List qU):List qU:=(srt (l.map cL)).map lC
theorem Yd (c:qU):lC (cL c)=c:=rfl
theorem qHB {l:List (List Int)} {m:List qU} (h:∀ x∈l,x∈m.map cL):l.map zC=(l.map lC).map cP:=by
 rw [Ag]
 refine A0 fun x hx => ?_
 obtain ⟨c,_,rfl⟩:=AQ.mp (h x hx)
 rfl
theorem qFc (l:List qU):(srt (l.map cL)).map zC=(Qf l).map cP:=qHB fun x hx=>(Qs _).mem_iff.mp hx
theorem mem_cL {l:List qU} {c:qU}:cL c∈l.map cL ↔ c∈l:=by
 rw [AQ]
 constructor
 ·rintro ⟨d,hd,e⟩
  have:d=c:=by rw [← Yd d,e,Yd]
  rw [← this];exact hd
 ·intro h;exact ⟨c,h,rfl⟩
theorem mem_srtC {l:List qU} {c:qU}:c∈Qf l ↔ c∈l:=by
 unfold Qf
 rw [AQ]
 constructor
 ·rintro ⟨x,hx,rfl⟩
  obtain ⟨d,hd,rfl⟩:=AQ.mp ((Qs _).mem_iff.mp hx)
  exact hd
 ·intro h;exact ⟨cL c,(Qs _).mem_iff.mpr (mem_cL.mpr h),rfl⟩
theorem yc (l:List qU):(Qf l).length=l.length:=by unfold Qf;rw [AB,(Qs _).length_eq,AB]
def clt (a b:qU):Prop:=a.1 < b.1∨(a.1=b.1∧a.2 < b.2)
instance (a b:qU):Decidable (clt a b):=by unfold clt;infer_instance
theorem qIX (a b:qU):lxb (cL a) (cL b)=decide (clt a b):=by
 obtain ⟨a1,a2⟩:=a
 obtain ⟨b1,b2⟩:=b
 show (if a1 < b1 then true else if b1 < a1 then false else (if a2 < b2 then true else if b2 < a2 then false else false))=_
 by_cases h1:a1 < b1
 ·rw [AC h1];exact (AR (.inl h1)).symm
 ·rw [AH h1]
  by_cases h2:b1 < a1
  ·rw [AC h2];exact (AO (by unfold clt;simp;omega)).symm
  ·rw [AH h2]
   by_cases h3:a2 < b2
   ·rw [AC h3];exact (AR (.inr ⟨by simp;omega,h3⟩)).symm
   ·rw [AH h3]
    have:(if b2 < a2 then false else false)=false:=by split <;> rfl
    rw [this]
    exact (AO (by unfold clt;simp;omega)).symm
theorem qCc {l:List qU} {q:PV} {st:qB} (h:w5 st q=some (l.map cP)) (hl:l.length≤63):zt q st = .ok (.lst ((Qf l).map cP)) st:=by
 unfold zt
 rw [h]
 dsimp only
 rw [qAa]
 dsimp only
 rw [AC (by rw [AB];omega),qFc]
section
variable {F G:FS} {f fb fo fi2:FE} {fl:FL} {fi:FI} {fa:FA} {g:FG} {t u:FT} {r r1 r':qh} {st s1 s2 s3 s4:qB} {p q z:PV} {l m:List PV} {w:ItP} {n:Nat}
theorem Jr (h:f r st = .ok p s1) {R:Rs PV} (h2:zt p s1=R):zj f r st=R:=by unfold zj;rw [h];exact h2
theorem qIB {a b:Option Int} {f1 f2:FO} (h:f r st = .ok p s1) (h1:f1 r s1 = .ok a s2) (h2:f2 r s2 = .ok b s3) (h3:asL s3 p=some l):qDB f f1 f2 r st = .ok (.lst (zY l a b)) s3:=by
 unfold qDB;rw [h];show (f1 r s1).bind _=_;rw [h1];show (f2 r s2).bind _=_;rw [h2];show (match asL s3 p with |some l=>_ |none=>_)=_;rw [h3]
theorem qFh {k:Int} (h:f r st = .ok (.int k) s1):Q2 f r st = .ok (some k) s1:=by unfold Q2;rw [h];rfl
end
end EV
end
section
namespace EV
open PySem PySem.Spec PyProof.Rows ET
def tx (l:List Nat):Str:=⟨l.toArray⟩
theorem qDH {l m:List Nat} (h:tx l=tx m):l=m:=by
 have:=B3 (fun x:Str=>x.cps.toList) h
 simpa [tx] using this
theorem qIJ (x:Str):x=tx x.cps.toList:=by cases x;simp [tx]
theorem wo (l:List Nat):(tx l).length=l.length:=by simp [tx,Str.length]
theorem ZX (l m:List Nat):tx l++tx m=tx (l++m):=by
 show Str.append (tx l) (tx m)=tx (l++m)
 simp [tx,Str.append]
def jn (c:Nat):List (List Nat)->List Nat
 |[]=>[]
 |[a]=>a
 |a::b::l=>a++c::jn c (b::l)
theorem jR (c:Nat):∀ ls:List (List Nat),Str.join ⟨#[c]⟩ (ls.map tx)=tx (jn c ls)
 |[]=>rfl
 |[a]=>rfl
 |a::b::l=>by
  show tx a++(⟨#[c]⟩:Str)++Str.join ⟨#[c]⟩ ((b::l).map tx)=_
  rw [jR c (b::l),show (⟨#[c]⟩:Str)=tx [c] from rfl,ZX,ZX]
  show tx (a++[c]++jn c (b::l))=tx (a++c::jn c (b::l))
  rw [Av];rfl
theorem Zn:∀ ls:List (List Nat),Str.join Str.empty (ls.map tx)=tx ls.flatten
 |[]=>rfl
 |[a]=>by show tx a=tx (a++[]);rw [A6]
 |a::b::l=>by
  show tx a++Str.empty++Str.join Str.empty ((b::l).map tx)=_
  rw [Zn (b::l),show Str.empty=tx [] from rfl,ZX,ZX,A6];rfl
theorem JE {sep:Str} {ys:List Str}:Txt.join sep ys=Str.join sep ys:=by
 unfold Txt.join
 rw [StrLaws.glued_eq_join]
theorem qHi (c:Nat):∀ {a b:List (List Nat)},a≠[]->b≠[]->(∀ x∈a,c ∉ x)->(∀ x∈b,c ∉ x)->jn c a=jn c b->a=b:=by
 have cut:∀ {x y u v:List Nat},c ∉ x->c ∉ y->x++c::u=y++c::v->x=y∧u=v:=by
  intro x
  induction x with
  |nil =>
   intro y u v hx hy h
   cases y with
   |nil=>exact ⟨rfl,(BZ h).2⟩
   |cons b y=>exact absurd (BZ h).1 (fun z=>hy (by rw [z];exact AD))
  |cons k x ih =>
   intro y u v hx hy h
   cases y with
   |nil=>exact absurd (BZ h).1 (fun z=>hx (by rw [← z];exact AD))
   |cons b y =>
    obtain ⟨h1,h2⟩:=BZ h
    obtain ⟨i1,i2⟩:=ih (fun z=>hx (AG _ z)) (fun z=>hy (AG _ z)) h2
    exact ⟨by rw [h1,i1],i2⟩
 intro a
 induction a with
 |nil=>intro b h;exact absurd rfl h
 |cons x a ih =>
  intro b _ hb ha hb2 h
  cases b with
  |nil=>exact absurd rfl hb
  |cons y b =>
   cases a with
   |nil =>
    cases b with
    |nil=>show [x]=[y];rw [show x=y from h]
    |cons y2 b =>
     exfalso
     refine ha x AD ?_
     rw [show x=y++c::jn c (y2::b) from h]
     exact Ah.mpr (.inr AD)
   |cons x2 a =>
    cases b with
    |nil =>
     exfalso
     refine hb2 y AD ?_
     rw [← show x++c::jn c (x2::a)=y from h]
     exact Ah.mpr (.inr AD)
    |cons y2 b =>
     obtain ⟨h1,h2⟩:=cut (ha x AD) (hb2 y AD) (show x++c::jn c (x2::a)=y++c::jn c (y2::b) from h)
     rw [h1,ih (by simp) (by simp) (fun z hz=>ha z (AG _ hz)) (fun z hz=>hb2 z (AG _ hz)) h2]
theorem jj (c:Nat) {ls:List (List Nat)} (h0:ls≠[]) (h:∀ x∈ls,c ∉ x):Txt.split (tx (jn c ls)) ⟨#[c]⟩=ls.map tx:=by
 have h1:=StrLaws.join_split (tx (jn c ls)) ⟨#[c]⟩
 have h2:=StrLaws.split_free (tx (jn c ls)) c
 have h3:=split_pos (tx (jn c ls)) ⟨#[c]⟩
 generalize Txt.split (tx (jn c ls)) ⟨#[c]⟩=ps at h1 h2 h3
 have e:ps=(ps.map fun p=>p.cps.toList).map tx:=by
  rw [Ag]
  conv=>lhs;rw [← CS ps]
  exact A0 fun p _=>qIJ p
 rw [e,jR] at h1
 have:=qHi c (a:=ps.map fun p=>p.cps.toList) (b:=ls) (fun z=>by rw [Bb] at z;rw [z] at h3;simp at h3) h0 (fun x hx=>by obtain ⟨p,hp,rfl⟩:=AQ.mp hx;exact h2 p hp) h (qDH h1)
 rw [e,this]
theorem J5:∀ ls:List (List Nat),stL (ls.map fun l=>PV.str (tx l))=some (ls.map tx)
 |[]=>rfl
 |a::l=>by rw [AK,stL,J5 l];rfl
theorem qAL (c:Nat) {B:Nat}:∀ {ls:List (List Nat)},(∀ x∈ls,x.length≤B)->(jn c ls).length≤(B + 1) * ls.length
 |[],_=>BG _
 |[a],h=>by have:=h a AD;show a.length≤(B + 1) * 1;omega
 |a::b::l,h=>by
  have h1:=h a AD
  have h2:=qAL c (ls:=b::l) fun x hx=>h x (AG _ hx)
  show (a++c::jn c (b::l)).length≤_
  rw [Ab,AM,AM,Nat.mul_succ]
  omega
theorem jB {B:Nat}:∀ {ls:List (List Nat)},(∀ x∈ls,x.length≤B)->((ls.map tx).map (·.length)).sum≤B * ls.length
 |[],_=>BG _
 |a::l,h=>by
  have h1:=h a AD
  have h2:=jB (ls:=l) fun x hx=>h x (AG _ hx)
  rw [AK,AK,List.sum_cons,AM,Nat.mul_succ,wo]
  omega
theorem Yz {fo f:FE} {r:qh} {st s1 s2:qB} {c:Nat} {p:PV} {ls:List (List Nat)} {B:Nat} (h:fo r st = .ok (.str ⟨#[c]⟩) s1) (h2:f r s1 = .ok p s2) (h3:asL s2 p=some (ls.map fun l=>PV.str (tx l))) (hB:∀ x∈ls,x.length≤B) (hb:B≤1000) (hl:ls.length≤1000):wM fo f r st = .ok (.str (tx (jn c ls))) s2:=by
 have hs:=jB hB
 have hm:B * ls.length≤1000 * 1000:=Nat.mul_le_mul hb hl
 have hj:JoinOk (⟨#[c]⟩:Str) (ls.map tx)=true:=joinOk_of (by
  rw [AB]
  show _ + ls.length * 1≤_
  omega)
 unfold wM
 rw [h]
 show (f r s1).bind _=_
 rw [h2]
 show (match asL s2 p with |some l=>_ |none=>_)=_
 rw [h3]
 dsimp only
 rw [J5]
 dsimp only
 rw [AC hj,JE,jR]
theorem qBQ {fo f:FE} {r:qh} {st s1 s2:qB} {p:PV} {l:List Nat} (h:fo r st = .ok (.str Str.empty) s1) (h2:f r s1 = .ok p s2) (h3:asL s2 p=some (l.map fun c=>PV.str ⟨#[c]⟩)) (hl:l.length≤1000):wM fo f r st = .ok (.str (tx l)) s2:=by
 have e0:(l.map fun c=>PV.str ⟨#[c]⟩)=(l.map fun c=>[c]).map fun l=>PV.str (tx l):=by rw [Ag];rfl
 have ef:∀ l:List Nat,(l.map fun c=>[c]).flatten=l:=fun l=>by
  induction l with
  |nil=>rfl
  |cons a l ih=>rw [AK,List.flatten_cons,ih];rfl
 have hs:=jB (B:=1) (ls:=l.map fun c=>[c]) (fun x hx=>by obtain ⟨c,_,rfl⟩:=AQ.mp hx;exact AI _)
 rw [AB] at hs
 have hj:JoinOk Str.empty ((l.map fun c=>[c]).map tx)=true:=joinOk_of (by
  rw [AB,AB]
  show _ + l.length * 0≤_
  omega)
 rw [e0] at h3
 unfold wM
 rw [h]
 show (f r s1).bind _=_
 rw [h2]
 show (match asL s2 p with |some l=>_ |none=>_)=_
 rw [h3]
 dsimp only
 rw [J5]
 dsimp only
 rw [AC hj,JE,Zn,ef]
theorem qBY {fo f:FE} {r:qh} {st s1 s2:qB} {c:Nat} {ls:List (List Nat)} {B:Nat} (h:fo r st = .ok (.str (tx (jn c ls))) s1) (h2:f r s1 = .ok (.str ⟨#[c]⟩) s2) (h0:ls≠[]) (hf:∀ x∈ls,c ∉ x) (hB:∀ x∈ls,x.length≤B) (hb:(B + 1) * ls.length≤10000):zp fo f r st = .ok (ls.map fun l=>PV.str (tx l)) s2:=by
 have hl:=qAL c hB
 unfold zp
 rw [h]
 show (f r s1).bind _=_
 rw [h2]
 show (if _ then _ else _)=_
 rw [AC ⟨rfl,by rw [wo];omega,by rw [jj c h0 hf,AB];refine Aa ?_ (show 10000≤sizeLine by decide);refine Aa ?_ hb;exact Aa (by omega) (Nat.mul_le_mul_right _ (Nat.succ_pos B))⟩,jj c h0 hf,Ag]
 rfl
theorem qF1 {l m:List Nat} {st:qB}:gEq (.str (tx l)) (.str (tx m)) st = .ok (.bl (decide (l=m))) st:=by
 have:gEq (.str (tx l)) (.str (tx m)) st = .ok (.bl (tx l==tx m)) st:=rfl
 rw [this]
 congr 2
 by_cases h:l=m
 ·rw [h,AR rfl];exact Az _
 ·rw [AO h]
  exact BM.mpr fun z=>h (qDH z)
end EV
end
noncomputable section
namespace K91
open PySem EV
def ZJ:PV->Bool
 | .non=>true | .bl _=>true | .int _=>true | .str _=>true | .tup _=>true | .lst _=>true | .dct=>true |_=>false
def isInt:PV->Bool
 | .int _=>true
 |_=>false
theorem J7 {a:Ad} {v:PV} {st:qB} (h:ZJ v=true):zk a [v] st = .ok (.bl (isInt v)) st:=by
 cases v <;> first |rfl |cases h
def wq (lo hi:Int):PV->Bool
 | .int i=>decide (lo≤i)&&decide (i≤hi)
 |_=>false
theorem qCk {a:Ad} {v:PV} {st:qB} {lo hi:Int} (h:ZJ v=true):Ql a [v,.int lo,.int hi] st = .ok (.bl (wq lo hi v)) st:=by
 refine qBO rfl ?_
 unfold wL
 refine (qCt (p := .bl (wq lo hi v)) (st':=st) ?_)
 unfold ZU
 rw [qBF (l:=[v]) (st':=st) rfl,J7 h]
 cases v with
 |int i =>
  show (match (PV.bl (decide (lo≤i))) with | .bl true=>Rs.ok (PV.bl (decide (i≤hi))) st | .bl false=>Rs.ok (.bl false) st |_ => .no)=_
  unfold wq
  dsimp only
  cases decide (lo≤i) <;> rfl
 |_=>rfl
theorem Jc {f:PV->Bool}:∀ l:List PV,QC pbl (l.map fun p => .bl (f p))=some (l.map f)
 |[]=>rfl
 |p::l=>by simp only [AK,QC,pbl,Jc l]
theorem ZS:∀ l:List Int,QC yG (l.map PV.int)=some l
 |[]=>rfl
 |p::l=>by simp only [AK,QC,yG,ZS l]
theorem Y5 {i j:Int} {st:qB}:gEq (.int i) (.int j) st = .ok (.bl (i==j)) st:=rfl
theorem Qg {n:Nat} (h:n≤100000):n≤sizeLine:=Aa h (by decide)
def QQ (L:Int):List Int:=(List.range L.toNat).map fun (i:Nat)=>(i:Int)
theorem qDI {L:Int}:zQ 0 L=(QQ L).map PV.int:=by
 unfold zQ QQ
 rw [Ag,Int.sub_zero]
 refine A0 fun i _ => ?_
 show PV.int (0 + (i:Int))=PV.int i
 rw [Int.zero_add]
theorem upto_mem {L i:Int}:i∈QQ L ↔ 0≤i∧i < L:=by
 unfold QQ
 rw [AQ]
 constructor
 ·rintro ⟨j,hj,rfl⟩;rw [BR] at hj;omega
 ·rintro ⟨h1,h2⟩;exact ⟨i.toNat,by rw [BR];omega,by omega⟩
theorem qr {L:Int}:(QQ L).length=L.toNat:=by simp [QQ]
theorem qFf {l:List Int} {L i:Int} (hl:l.length=L.toNat) (h0:0≤i) (h1:i < L):L2.atI (l.map PV.int) i=some (.int (l.getD i.toNat 0)):=by
 unfold L2.atI L2.ixN
 rw [AB,AC h0,AC (by omega)]
 show (l.map PV.int)[i.toNat]? = _
 have hi:i.toNat < l.length:=by omega
 rw [Ac,AS hi,Af,AS hi]
 rfl
theorem qHD {l:List Int} {L i:Int} {st:qB} (hl:l.length=L.toNat) (h0:0≤i) (h1:i < L):gIx (.lst (l.map PV.int)) (.int i) st = .ok (.int (l.getD i.toNat 0)) st:=by
 unfold gIx
 simp only [w5,asL,qFf hl h0 h1]
theorem QN {a:Ad} {st j:qB} {x m:Int} (h:0 < m∧m < 1073741824):qO a [.ref st.length,.int m] (st ++ .l [.int x]::j) = .ok (.int (x % m)) (st ++ .l [.int (x / m)]::j):=by
 have hs:(st++SO.l [.int x]::j)[st.length]? = some (.l [.int x]):=by simp
 refine qq rfl (qa (qA8 (qM (qN (qQ rfl rfl (jQ (qDL hs) rfl)) (qN rfl qY)) (qC1 h)) rfl) (qa (qIg rfl rfl rfl (s4:=st ++ .l [.int (x / m)]::j) ?_) (QI rfl)))
 unfold YU
 simp only [hs]
 show some ((st++SO.l [.int x]::j).set st.length (.l [.int (x / m)]))=_
 rw [B8 _ _ (AI _),Nat.sub_self];rfl
def ZB:Nat:=2 ^ 20
theorem qDa:64≤ZB:=by decide
theorem qEW:ZB + ZB + 100≤bitsLine:=by decide
theorem qFn {a:Ad} {ns:List Int} {k:Int} {st:qB} (hb:∀ n∈ns,Builtin.Int.intBits n≤2 ^ 20) (h0:0≤k) (h1:k < 100):∃ c:Int,c.natAbs < 2 ^ ZB∧Wt a [.lst (ns.map PV.int),.int k] st = .ok (.int c) st:=by
 have e1:vTB (qG gLt (qC 1) (qE zR (qA (qC 0) qD))) (QA 2 [.lst (ns.map PV.int),.int k]) st = .ok (decide (k < (ns.length:Int))) st :=
  w6 (qQ rfl (qM (qN rfl qY) (YO (l:=ns.map PV.int) rfl (by rw [AB]))) w_lt)
 by_cases hk:k < (ns.length:Int)
 ·refine ⟨ns.getD k.toNat 0,?_,qq rfl (Qt (wV (by rw [e1,AR hk]) (QI (qQ rfl rfl (qHD (L:=ns.length) (by omega) h0 hk)))))⟩
  have hi:k.toNat < ns.length:=by omega
  rw [Af,AS hi]
  exact qFs (hb _ (Bq hi))
 ·refine ⟨6151 * k + 29,?_,qq rfl (qa (r':=QA 2 [.lst (ns.map PV.int),.int k]) (s1:=st) (Qd (by rw [e1,AO hk]) rfl) (QI (qQ (qQ rfl rfl (yS (by decide))) rfl wE)))⟩
  refine Ai (m:=2 ^ 64) ?_ (Nat.pow_le_pow_right (by decide) qDa)
  omega
theorem qG8 {a:Ad} {c k:Int} {st:qB} (hc:c.natAbs < 2 ^ ZB) (h0:0≤k) (h1:k < 24):∃ m:Int,zM a [.int c,.int k] st = .ok (.int m) st:=by
 have hn:((c + 1) * 40692 + 104729 * k).natAbs < 2 ^ (ZB + 30):=by
  rw [Nat.pow_add]
  have h2:0 < 2 ^ ZB:=Nat.two_pow_pos _
  generalize 2 ^ ZB=N at hc h2
  have:(2:Nat) ^ 30=1073741824:=by decide
  rw [this]
  omega
 generalize hN:(c + 1) * 40692 + 104729 * k=n at hn
 have hbits:Builtin.Int.intBits n + Builtin.Int.intBits n≤bitsLine:=by
  have:=qEp hn
  have:=qEW
  omega
 have hm1:0≤n * n % 2147483399:=Int.emod_nonneg _ (by decide)
 have hm2:n * n % 2147483399 < 2147483399:=Int.emod_lt_of_pos _ (by decide)
 refine ⟨(n * n % 2147483399 + k) * (n * n % 2147483399 + k + 31) % 2147483563,qq rfl (qa (QU (p := .int n) (s1:=st) (qQ (qQ (qQ rfl rfl wE) rfl (qD8 (by decide))) (qQ rfl rfl (yS (by decide))) (by rw [wE,hN]))) (qa (QU (qQ (qQ (qQ rfl rfl (qHT hbits)) rfl (qCn (by decide))) rfl wE)) (QI (qQ (qQ rfl (qQ rfl rfl wE) (yS ⟨?_,?_⟩)) rfl (qCn (by decide))))))⟩
 ·omega
 ·omega
def qFw (a:Ad):FS:=qc 3 (qG qt (qG zn (qC 3) (vC (.int 2147483647))) (qE (zM a) (qA (qC 2) (qA (qC 4) qD))))
theorem Jj {a:Ad} {s:PV} {c k:Int} {st:qB} (hc:c.natAbs < 2 ^ ZB):∀ (js:List Int) (n:Int) (x:Option PV),(∀ j∈js,0≤j∧j < 24) -> ∃ n' x',Qh (fun _=>True) (QM 4) (qFw a) (js.map PV.int) [some s,some (.int k),some (.int c),some (.int n),x] st = .nx [some s,some (.int k),some (.int c),some (.int n'),x'] st
 |[],n,x,_=>⟨n,x,Qq trivial⟩
 |j::js,n,x,h=>by
  have hj:=h j AD
  obtain ⟨m,hm⟩:=qG8 (a:=a) (st:=st) hc hj.1 hj.2
  obtain ⟨n',x',e2⟩:=Jj (a:=a) (s:=s) (k:=k) (st:=st) hc js (n * 2147483647 + m) (some (.int j)) fun q hq=>h q (AG _ hq)
  exact ⟨n',x',zH trivial rfl (QU (qQ (qQ rfl rfl (qD8 (by decide))) (qM (qN rfl (qN rfl qY)) hm) wE)) e2⟩
theorem qHx {a:Ad} {ns:List Int} {k:Int} {st:qB} (hb:∀ n∈ns,Builtin.Int.intBits n≤2 ^ 20) (h0:0≤k) (h1:k < 100):∃ x,zO a [.lst (ns.map PV.int),.int k] st = .ok (.ref st.length) (st++[.l [.int x]]):=by
 obtain ⟨c,hc,e⟩:=qFn (a:=a) (st:=st) hb h0 h1
 have ht:vTB (qG gEq (qG J9 (qC 2) (vC (.int 2))) (vC (.int 0))) [some (.lst (ns.map PV.int)),some (.int k),some (.int c),none,none] st = .ok (c % 2==0) st:=w6 (qQ (qQ rfl rfl (qCn (by decide))) rfl Y5)
 have e0:qc 2 (qE (Wt a) (qA (qC 0) (qA (qC 1) qD))) (QA 5 [.lst (ns.map PV.int),.int k]) st = .nx [some (.lst (ns.map PV.int)),some (.int k),some (.int c),none,none] st:=QU (qM (qN rfl (qN rfl qY)) e)
 cases hp:(c % 2==0) with
 |true=>exact ⟨c / 2,qq rfl (qa e0 (Qt (wV (by rw [ht,hp]) (qDO (yb (qN (qQ rfl rfl (qDi (by decide))) qY) (sz rfl))))))⟩
 |false =>
  obtain ⟨n',x',el⟩:=Jj (a:=a) (s := .lst (ns.map PV.int)) (k:=k) (st:=st) hc (QQ 24) 0 none fun j hj=>upto_mem.mp hj
  exact ⟨n',qq rfl (qa e0 (qa (r':=[some (.lst (ns.map PV.int)),some (.int k),some (.int c),none,none]) (s1:=st) (Qd (by rw [ht,hp]) rfl) (qa (QU rfl) (qa (Zg (w:=⟨(QQ 24).map PV.int,fun _=>True⟩) (s1:=st) rfl el) (qDO (yb (qN rfl qY) (sz rfl)))))))⟩
theorem itN {L:Int} {r:qh} {st s1:qB} {f:FA} (h1:0≤L) (h2:L≤1000) (hf:f r st = .ok [.int L] s1):(Q1 f) r st = .ok ⟨(QQ L).map PV.int,fun _=>True⟩ s1:=by
 unfold Q1
 rw [hf]
 show Y2 [.int L] s1=_
 unfold Y2
 dsimp only
 rw [AC (by omega),qDI]
theorem wC {x m:Int} (h:0 < m):0≤x % m∧x % m < m:=⟨Int.emod_nonneg _ (by omega),Int.emod_lt_of_pos _ h⟩
def unC:PV->qU
 | .tup [.int x,.int y]=>(x,y)
 |_=>(0,0)
theorem qIu (c:qU):unC (cP c)=c:=rfl
theorem JD {d:qU->Bool} {l:List qU} {c:PV->Bool} (h:∀ x∈l,c (cP x)=d x):(l.map cP).filter c=(l.filter d).map cP:=by
 induction l with
 |nil=>rfl
 |cons x l ih =>
  rw [AK,List.filter_cons,List.filter_cons,h x AD,ih fun y hy=>h y (AG _ hy)]
  cases d x <;> rfl
theorem qJZ {st j:qB} {b:SO} {i:Nat} {o:SO} (h:j[i]? = some o):(st++b::j)[st.length + 1 + i]? = some o:=by
 rw [A1 (by omega),show st.length + 1 + i - st.length=i + 1 by omega,List.getElem?_cons_succ];exact h
def In8 (c:qU):Prop:=0≤c.1∧c.1≤7∧0≤c.2∧c.2≤7
theorem j5 {fi:FI} {g:FG} {t:FT} {f:FE} {r r':qh} {st s1 s2:qB} {p q:PV} (h:g p r=some r') (ht:t r' st = .ok true s1) (hf:f r' s1 = .ok q s2):QH ⟨fi,g,[t]⟩ (QW [] f) r p st = .ok [q] s2:=by
 unfold QH;show (match g p r with |none=>_ |some r'=>_)=_;rw [h];show (Qb [t] r' st).bind _=_;unfold Qb Qb;rw [ht];show (QW [] f) r' s1=_;unfold QW;rw [hf];rfl
theorem j3 {fi:FI} {g:FG} {t:FT} {f:FE} {r r':qh} {st s1:qB} {p:PV} (h:g p r=some r') (ht:t r' st = .ok false s1):QH ⟨fi,g,[t]⟩ (QW [] f) r p st = .ok [] s1:=by
 unfold QH;show (match g p r with |none=>_ |some r'=>_)=_;rw [h];show (Qb [t] r' st).bind _=_;unfold Qb Qb;rw [ht];rfl
theorem qIS {st j:qB} {b o:SO} {i:Nat} (h:i < j.length):(st++b::j).set (st.length + 1 + i) o=st++b::j.set i o:=by
 rw [B8 _ _ (by omega),show st.length + 1 + i - st.length=i + 1 by omega,List.set_cons_succ]
theorem qIv {l:List qU} {n:Nat} (hn:n≤1000):zY (l.map cP) none (some (n:Int))=(l.take n).map cP:=by
 have h1:HT.sIx (l.map cP).length 0 none=0:=rfl
 have h2:HT.sIx (l.map cP).length (l.map cP).length (some (n:Int))=min n (l.map cP).length:=HT.sIx_nat _ _ _
 unfold zY
 rw [h1,h2,List.drop_zero,Nat.sub_zero,List.map_take]
 by_cases h:n≤(l.map cP).length
 ·rw [Nat.min_eq_left h]
 ·rw [Nat.min_eq_right (by omega),List.take_length,List.take_of_length_le (by omega)]
theorem qA7 {a:Ad} {v:PV} {st:qB} (h:ZJ v=true):WJ (kit a) [v,.ty "tuple"] st = .ok (.bl (match v with | .tup _=>true |_=>false)) st:=by
 cases v <;> first |rfl |cases h
theorem yo {f g:FE} {r:qh} {st s1:qB} {R:Rs PV} (h:f r st = .ok (.bl true) s1) (h2:g r s1=R):ZU f g r st=R:=by
 unfold ZU;rw [h];exact h2
theorem qDz {f g:FE} {r:qh} {st s1:qB} (h:f r st = .ok (.bl false) s1):ZU f g r st = .ok (.bl false) s1:=by
 unfold ZU;rw [h];rfl
theorem qHS {l:List PV} {n:Int} {st:qB}:gNe (.int (l.length:Int)) (.int n) st = .ok (.bl (!decide ((l.length:Int)=n))) st:=by
 show Rs.ok (PV.bl (!((l.length:Int)==n))) st=_
 by_cases h:(l.length:Int)=n
 ·rw [AR h,A7.mpr h]
 ·rw [AO h,BM.mpr h]
theorem YC {f:PV->Bool} {l:List PV} {st:qB}:yv [.lst (l.map fun p => .bl (f p))] st = .ok (.bl (l.all f)) st:=by
 unfold yv qEM
 simp only [asL]
 rw [Jc]
 show Rs.ok (PV.bl ((l.map f).all id)) st=_
 rw [List.all_map]
 rfl
theorem qI6 {F:List qU} {i:Nat} {st:qB} (h:i < F.length):gIx (.tup (F.map cP)) (.int (i:Int)) st = .ok (cP F[i]) st:=by
 refine jQ rfl ?_
 unfold L2.atI
 rw [qBA (by omega) (by rw [AB];omega),Option.bind_some,BA,Ac,AS h]
 rfl
theorem itR {lo hi:Int} {r:qh} {st s1:qB} {f:FA} (h1:0≤lo) (h2:lo≤1000) (h3:0≤hi) (h4:hi≤1000) (hf:f r st = .ok [.int lo,.int hi] s1):(Yc f) r st = .ok ⟨zQ lo hi,fun _=>True⟩ s1:=by
 unfold Yc
 rw [hf]
 show Y3 [.int lo,.int hi] s1=_
 unfold Y3
 dsimp only
 rw [AC ⟨by omega,by omega,by omega,by omega⟩]
theorem yE {lo hi:Int} {p:PV} (h:wq lo hi p=true):∃ i,p = .int i∧lo≤i∧i≤hi:=by
 cases p with
 |int i =>
  have h:(decide (lo≤i)&&decide (i≤hi))=true:=h
  rw [Am] at h
  exact ⟨i,rfl,BI h.1,BI h.2⟩
 |_=>cases h
theorem yn {lo hi i:Int}:wq lo hi (.int i)=(decide (lo≤i)&&decide (i≤hi)):=rfl
theorem qC4:∀ F G:List qU,peqs (F.map cP) (G.map cP)=decide (F=G)
 |[],[]=>rfl
 |[],d::G=>rfl
 |c::F,[]=>rfl
 |c::F,d::G=>by
  rw [AK,AK,peqs,qFy,qC4 F G]
  by_cases h:c=d
  ·by_cases h2:F=G
   ·subst h;subst h2;simp
   ·rw [AO h2,B6];exact (AO (by simp [h2])).symm
  ·rw [AO h,Bool.false_and];exact (AO (by simp [h])).symm
theorem qCp {f:FE} {lo hi:FO} {r:qh} {st s1 s2 s3:qB} {l:List PV} {p q:Option Int} (h:f r st = .ok (.tup l) s1) (h1:lo r s1 = .ok p s2) (h2:hi r s2 = .ok q s3):Zy f lo hi r st = .ok (.tup (zY l p q)) s3:=by
 unfold Zy;rw [h];show (lo r s1).bind _=_;rw [h1];show (hi r s2).bind _=_;rw [h2];rfl
theorem qBe {st j:qB} {b o p:SO}:(st++b::(j++[o])).set (st.length + 1 + j.length) p=st++b::(j++[p]):=by
 rw [qIS (by rw [Ab,Bi];omega),B8 _ _ (AI _),Nat.sub_self];rfl
theorem ZE {st j:qB} {b o:SO}:(st++b::(j++[o]))[st.length + 1 + j.length]? = some o:=qJZ (by simp)
theorem qBd {st j:qB} {b:SO}:(st++b::j).length=st.length + 1 + j.length:=by rw [Ab,AM];omega
theorem qBc {st j:qB} {b o:SO}:(st++b::j)++[o]=st++b::(j++[o]):=by rw [Av];rfl
theorem qDm {i:Nat} {fl:FL} {r:qh} {S st j:qB} {b:SO} {l:List PV} (h:fl r S = .ok l (st++b::j)):zX i fl r S = .nx (r.set i (some (.ref (st.length + 1 + j.length)))) (st++b::(j++[.l l])):=by
 rw [qEP h,qBd,qBc]
theorem qD6 {fo f:FE} {r:qh} {st j:qB} {b b':SO} {l:List PV} {p:PV} (h:fo r (st++b::(j++[.l l])) = .ok (.ref (st.length + 1 + j.length)) (st++b::(j++[.l l]))) (h2:f r (st++b::(j++[.l l])) = .ok p (st++b'::(j++[.l l]))) (hl:l.length≤1000):wO fo f r (st++b::(j++[.l l])) = .nx r (st++b'::(j++[.l (l++[p])])):=by
 rw [Jg h (qJm ZE) h2 ZE (B1 hl (by decide)),qBe]
end K91
end
noncomputable section
namespace K91
open PySem EV EX ET
abbrev Bar:=Int×Int×Int
def bP (b:Bar):PV := .tup [.int b.1,.int b.2.1,.int b.2.2]
def bL (b:Bar):List Int:=[b.1,b.2.1,b.2.2]
def lB:List Int->Bar
 |[x,y,z]=>(x,y,z)
 |_=>(0,0,0)
def unB:PV->Bar
 | .tup [.int x,.int y,.int z]=>(x,y,z)
 |_=>(0,0,0)
def qEU (b:Bar) (k:Int):qU:=(b.1 + k * b.2.2,b.2.1 + k - k * b.2.2)
def cov (L:Int) (b:Bar):List qU:=(QQ L).map (qEU b)
theorem yB {L:Int} {b:Bar}:(cov L b).length=L.toNat:=by unfold cov;rw [AB,qr]
theorem qEX {a:Ad} {b:Bar} {L:Int} {st:qB} (h1:0≤L) (h2:L≤1000):WU a [bP b,.int L] st = .ok (.lst ((cov L b).map cP)) st:=by
 let G:PV->PV:=fun p=>match p with
  | .int k=>cP (qEU b k)
  |_=>p
 have e:=QK (caps:=[2,4,3]) (n:=1) (fi:=Q1 (qA (qC 1) qD)) (g:=qi 3) (f:=Qr (qA (qG qt (qC 0) (qG zn (qC 3) (qC 1))) (qA (qG zS (qG qt (qC 2) (qC 3)) (qG zn (qC 3) (qC 1))) qD))) (r:=[some (bP b),some (.int L),some (.int b.1),some (.int b.2.1),some (.int b.2.2)]) (st:=st) (w:=⟨(QQ L).map PV.int,fun _=>True⟩) (F:=G) (itN h1 h2 rfl) trivial (by rw [AB,qr];exact Qg (by omega)) fun p hp=>by
  obtain ⟨k,hk,rfl⟩:=AQ.mp hp
  have hk:=upto_mem.mp hk
  have hm:-(2 ^ 64) < k∧k < 2 ^ 64:=by omega
  exact ⟨[some (.int b.1),some (.int b.2.2),some (.int b.2.1),some (.int k)],rfl,Wh (qN (qQ rfl (qQ rfl rfl (yS hm)) wE) (qN (qQ (qQ rfl rfl wE) (qQ rfl rfl (yS hm)) qAJ) qY)) (sz rfl)⟩
 have e2:((QQ L).map PV.int).map G=(cov L b).map cP:=by unfold cov;rw [Ag,Ag];rfl
 rw [← e2]
 exact qq rfl (qa (qA8 (r1:=[some (bP b),some (.int L),some (.int b.1),some (.int b.2.1),some (.int b.2.2)]) rfl rfl) (QI (wj e)))
theorem qAi:∀ l:List Bar,QC Wo (l.map bP)=some (l.map bL)
 |[]=>rfl
 |c::l=>by rw [AK,QC,show Wo (bP c)=some (bL c) from rfl];dsimp only;rw [qAi l];rfl
theorem qGr {l:List Bar} {q:PV} {st:qB} (h:w5 st q=some (l.map bP)) (hl:l.length≤63):∃ m:List Bar,m=(srt (l.map bL)).map lB∧m.length=l.length∧(∀ b∈m,b∈l)∧zt q st = .ok (.lst (m.map bP)) st:=by
 have hp:=Qs (l.map bL)
 have hb:∀ x∈srt (l.map bL),∃ b∈l,bL b=x:=fun x hx=>AQ.mp (hp.mem_iff.mp hx)
 refine ⟨(srt (l.map bL)).map lB,rfl,by rw [AB,hp.length_eq,AB],fun b hm => ?_,?_⟩
 ·obtain ⟨x,hx,rfl⟩:=AQ.mp hm
  obtain ⟨c,hc,rfl⟩:=hb x hx
  exact hc
 ·unfold zt
  rw [h]
  dsimp only
  rw [qAi]
  dsimp only
  rw [AC (by rw [AB];omega),Ag]
  congr 2
  refine A0 fun x hx => ?_
  obtain ⟨c,hc,rfl⟩:=hb x hx
  rfl
theorem qCg {num:Nat->Int} {bt:Nat->Nat->Bool} {n:Nat} (h1:∀ i j,i≤n->j≤n->num i > num j->bt i j=true) (h2:∀ i j,i≤n->j≤n->bt i j=true->num j≤num i):∀ k,k≤n -> ∀ j,j≤k->num j≤num (argBest bt k)
 |0,_,j,h=>by rw [Nat.le_zero.mp h];exact Int.le_refl _
 |k + 1,hn,j,h=>by
  have ih:=qCg h1 h2 k (by omega)
  have hb:argBest bt k≤n:=Aa (yA bt k) (by omega)
  unfold argBest
  cases q:bt (k + 1) (argBest bt k) with
  |true =>
   rw [AC rfl]
   rcases Nat.lt_or_ge j (k + 1) with z |z
   ·exact Int.le_trans (ih j (by omega)) (h2 _ _ hn hb q)
   ·rw [show j=k + 1 by omega];exact Int.le_refl _
  |false =>
   rw [AH (by simp)]
   rcases Nat.lt_or_ge j (k + 1) with z |z
   ·exact ih j (by omega)
   ·rw [show j=k + 1 by omega]
    rcases Int.lt_or_le (num (argBest bt k)) (num (k + 1)) with y |y
    ·rw [h1 _ _ hn hb y] at q;cases q
    ·exact y
theorem qGC {c d:qU}:(c.1 > d.1->gtL (cL c) (cL d)=true)∧(gtL (cL c) (cL d)=true->d.1≤c.1):=by
 show (c.1 > d.1->(if c.1=d.1 then _ else decide (c.1 > d.1))=true)∧((if c.1=d.1 then _ else decide (c.1 > d.1))=true->d.1≤c.1)
 by_cases q:c.1=d.1
 ·exact ⟨fun h=>by omega,fun _=>by omega⟩
 ·rw [AH q]
  exact ⟨fun h=>AR h,fun h=>by have:=BI h;omega⟩
theorem qI5 {C:List qU} {st:qB} (h:C≠[]):∃ c:qU,(∀ d∈C,d.1≤c.1)∧yO [.lst (C.map cP)] st = .ok (cP c) st:=by
 cases C with
 |nil=>exact absurd rfl h
 |cons c0 C =>
  have hD:∀ i,i≤C.length->((c0::C).map cL).getD i []=cL ((c0::C).getD i (0,0)):=fun i hi=>by
   have hi:i < (c0::C).length:=by rw [AM];omega
   rw [Af,Af,Ac,AS hi];rfl
  have hl:((c0::C).map cL).length - 1=C.length:=by rw [AB,AM];rfl
  have hb:zz ((c0::C).map cL)≤C.length:=by
   unfold zz
   rw [hl]
   exact yA _ _
  refine ⟨(c0::C).getD (zz ((c0::C).map cL)) (0,0),fun d hd => ?_,?_⟩
  ·obtain ⟨j,hj,rfl⟩:=CB.mp hd
   have hj':j≤C.length:=by rw [AM] at hj;omega
   have key:=qCg (num:=fun i=>((c0::C).getD i (0,0)).1) (bt:=fun i j=>gtL (((c0::C).map cL).getD i []) (((c0::C).map cL).getD j [])) (n:=C.length) (fun i j hi hj h=>by
    show gtL _ _=true
    rw [hD i hi,hD j hj];exact qGC.1 h) (fun i j hi hj h=>by
    have h:gtL _ _=true:=h
    rw [hD i hi,hD j hj] at h
    exact qGC.2 h) C.length (AI _) j hj'
   have e:((c0::C).getD j (0,0))=(c0::C)[j]:=by rw [Af,AS hj];rfl
   rw [← e]
   unfold zz
   rw [hl]
   exact key
  ·unfold yO
   simp only [asL]
   rw [qAa]
   show Rs.ok (zC (((c0::C).map cL).getD (zz ((c0::C).map cL)) [])) st=_
   rw [hD _ hb]
   rfl
theorem qJb {c:qU} {st:qB}:∃ b:Bool,qCF (cP c) (.tup [.int 7,.int 7]) st = .ok (.bl b) st∧(b=true->c.1≤7):=by
 refine ⟨leL (cL c) [7,7],rfl,fun h => ?_⟩
 have h:(if c.1=7 then _ else decide (c.1≤7))=true:=h
 by_cases q:c.1=7
 ·omega
 ·rw [AH q] at h;exact BI h
theorem qFK {ns:List Int} {st:qB} (h:ns≠[]):∃ m:Int,(∀ x∈ns,x≤m)∧zG [.lst (ns.map PV.int)] st = .ok (.int m) st:=by
 cases hm:ns.max? with
 |none=>exact absurd (List.max?_eq_none_iff.mp hm) h
 |some m =>
  refine ⟨m,(List.max?_eq_some_iff.mp hm).2,?_⟩
  unfold zG
  simp only [asL,ZS,hm]
theorem qEG {t u:FT} {r:qh} {st s1:qB} {b c:Bool} (h:t r st = .ok b s1) (h2:b=true->u r s1 = .ok c s1):Wn t u r st = .ok (b&&c) s1:=by
 cases b with
 |true=>exact jL h (h2 rfl)
 |false=>exact qAx h
def OKB (b:Bar):Prop:=0≤b.1∧b.1≤7∧0≤b.2.1∧b.2.1≤7∧(b.2.2=0∨b.2.2=1)
theorem qD3:∀ l:List Bar,nrs (l.map bP)=true
 |[]=>rfl
 |c::l=>by rw [AK,nrs,qD3 l];rfl
theorem J4:∀ l:List Bar,deps (l.map bP)≤1
 |[]=>BG _
 |c::l=>by
  rw [AK,deps]
  have:=J4 l
  have h:dep (bP c)=1:=rfl
  omega
theorem qFA {st:qB} {i:Nat} {l:List PV} (h:st[i]? = some (.l l)):res st (.ref i) = .lst l:=by unfold res;simp only [asL,h]
theorem qDe {l:List Bar} {p:PV} {st:qB} (h:res st p = .lst (l.map bP)):gNe p (.lst []) st = .ok (.bl (!l.isEmpty)) st:=by
 have h1:zT (.lst (l.map bP)) (.lst [])=true:=by
  show (nrs (l.map bP)&&true&&decide (deps (l.map bP) + 1≤Zx))=true
  rw [qD3,AR (Aa (Bu (J4 l)) (by decide))];rfl
 unfold gNe
 rw [h]
 show (if zT (.lst (l.map bP)) (.lst [])=true then Rs.ok (PV.bl (!peq (PV.lst (l.map bP)) (PV.lst []))) st else Rs.no)=_
 rw [AC h1]
 cases l <;> rfl
theorem qHn {L:Int} {b:Bar} (hL:L≤5) (h:OKB b):∀ c∈cov L b,0≤c.1∧0≤c.2∧c.1≤11∧c.2≤11:=fun c hc=>by
 obtain ⟨k,hk,rfl⟩:=AQ.mp hc
 have hk:=upto_mem.mp hk
 unfold OKB at h
 unfold qEU
 rcases h.2.2.2.2 with w |w
 ·rw [w,Int.mul_zero];dsimp only;omega
 ·rw [w,Int.mul_one];dsimp only;omega
def layT:FT:=(Wn (vTB (qG qCF (qE yO (qA (qC 10) qD)) (Qr (qA (vC (.int 7)) (qA (vC (.int 7)) qD))))) (Wn (vTB (qG gLt (qE zG (qA (vFz (qp [] 1 (qx (qC 10)) (qi 0) [] [] (qG gIx (qC 0) (vC (.int 1))))) qD)) (vC (.int 8)))) (vTB (qG gEq (vFz (qp [3] 1 (qx (qC 10)) (qi 1) [(vTB (qG (gIn false) (qC 1) (qC 0)))] [] (qC 1))) (vFz (wt qD))))))
theorem qEN {r:qh} {st:qB} {L:Int} {b:Bar} {cells:List qU} (hL1:2≤L) (hL2:L≤5) (hb:OKB b) (r3:r[3]? = some (some (.lst (cells.map cP)))) (r10:r[10]? = some (some (.lst ((cov L b).map cP)))):∃ k:Bool,layT r st = .ok k st∧(k=true -> ∀ c∈cov L b,In8 c∧c ∉ cells):=by
 have hne:cov L b≠[]:=fun z=>by have:=yB (L:=L) (b:=b);rw [z] at this;have h0:([]:List qU).length=0:=rfl;omega
 have hlen:((cov L b).map cP).length≤sizeLine:=by rw [AB,yB];exact Qg (by omega)
 obtain ⟨m,hm1,hm2⟩:=qI5 (st:=st) hne
 obtain ⟨k1,e1,e1'⟩:=qJb (c:=m) (st:=st)
 have hne2:(cov L b).map (·.2)≠[]:=fun z=>hne (Bb.mp z)
 obtain ⟨n,hn1,hn2⟩:=qFK (st:=st) hne2
 have f1:vTB (qG qCF (qE yO (qA (qC 10) qD)) (Qr (qA (vC (.int 7)) (qA (vC (.int 7)) qD)))) r st = .ok k1 st:=w6 (qQ (qM (qN (qCd r10) qY) hm2) rfl e1)
 have f2:vTB (qG gLt (qE zG (qA (vFz (qp [] 1 (qx (qC 10)) (qi 0) [] [] (qG gIx (qC 0) (vC (.int 1))))) qD)) (vC (.int 8))) r st = .ok (decide (n < 8)) st:=by
  have e:=QK (caps:=[]) (n:=1) (fi:=qx (qC 10)) (g:=qi 0) (f:=qG gIx (qC 0) (vC (.int 1))) (r:=r) (st:=st) (w:=⟨(cov L b).map cP,fun _=>True⟩) (F:=fun p => .int (unC p).2) (wX (qCd r10)) trivial hlen fun p hp=>by
   obtain ⟨c,_,rfl⟩:=AQ.mp hp
   exact ⟨[some (cP c)],rfl,rfl⟩
  have e2:((cov L b).map cP).map (fun p=>PV.int (unC p).2)=((cov L b).map (·.2)).map PV.int:=by rw [Ag,Ag];rfl
  have e3:=wj e
  rw [e2] at e3
  exact w6 (qQ (qM (qN e3 qY) hn2) rfl w_lt)
 have hc3:WA [3] 1 r=[some (.lst (cells.map cP)),none]:=by
  unfold WA
  show [(r[3]?).join]++_=_
  rw [r3];rfl
 have f3:vTB (qG gEq (vFz (qp [3] 1 (qx (qC 10)) (qi 1) [(vTB (qG (gIn false) (qC 1) (qC 0)))] [] (qC 1))) (vFz (wt qD))) r st = .ok ((cov L b).filter fun c=>decide (c∈cells)).isEmpty st:=by
  refine w6 (qQ (wj ?_) rfl eq_nil)
  rw [Yy (w:=⟨(cov L b).map cP,fun _=>True⟩) (c:=fun p=>decide (unC p∈cells)) (wX (qCd r10)) trivial hlen fun p hp => ?_]
  ·rw [JD (d:=fun c=>decide (c∈cells)) fun x _=>rfl]
  ·obtain ⟨c,_,rfl⟩:=AQ.mp hp
   exact ⟨[some (.lst (cells.map cP)),some (cP c)],by rw [hc3];rfl,w6 (qQ rfl rfl (qJU rfl)),rfl⟩
 refine ⟨_,qEG f1 fun _=>qEG f2 fun _=>f3,fun h c hc => ?_⟩
 rw [Am,Am] at h
 have a1:=e1' h.1
 have a2:=hm1 c hc
 have a3:=BI h.2.1
 have a4:=hn1 c.2 (AQ.mpr ⟨c,hc,rfl⟩)
 have a5:=qHn hL2 hb c hc
 refine ⟨by unfold In8;omega,fun hm => ?_⟩
 have a6:=List.isEmpty_iff.mp h.2.2
 exact (List.filter_eq_nil_iff.mp a6 c hc) (AR hm)
def ZD (a:Ad):FS:=(qS (qc 8 (Qr (qA (qE (qO a) (qA (qC 0) (qA (qC 5) qD))) (qA (qE (qO a) (qA (qC 0) (qA (qC 6) qD))) (qA (qE (qO a) (qA (qC 0) (qA (vC (.int 2)) qD))) qD))))) (qS (Q4 (Wn (vTB (qG gNe (qC 4) (vFz (wt qD)))) (vTB (qG gEq (qE (qO a) (qA (qC 0) (qA (vC (.int 2)) qD))) (vC (.int 0))))) (qS (qc 9 (qG gIx (qC 4) (zi (vC (.int 1))))) (qc 8 (Qr (qA (qE yY (qA (vC (.int 7)) (qA (qG zS (qG qt (qG gIx (qC 9) (vC (.int 0))) (vC (.int 1))) (qG gIx (qC 9) (vC (.int 2)))) qD))) (qA (qE yY (qA (vC (.int 7)) (qA (qG qt (qG gIx (qC 9) (vC (.int 1))) (qG gIx (qC 9) (vC (.int 2)))) qD))) (qA (qG gIx (qC 9) (vC (.int 2))) qD)))))) QY) (qS (qc 10 (qE (WU a) (qA (qC 8) (qA (qC 1) qD)))) (Q4 layT (qS (wO (qC 4) (qC 8)) (qc 3 (vFz (yL (qC 3) (qC 10))))) QY))))
theorem Yv {r:qh} {S1 S2 S3 S4:qB} {f g h:FE} {x y z:Int} (h1:f r S1 = .ok (.int x) S2) (h2:g r S2 = .ok (.int y) S3) (h3:h r S3 = .ok (.int z) S4):Qr (qA f (qA g (qA h qD))) r S1 = .ok (bP (x,y,z)) S4 :=
 Wh (qN h1 (qN h2 (qN h3 qY))) (sz rfl)
theorem qB7 {a:Ad} {st j:qB} {x L hi wd:Int} {bars:List Bar} {cells:List qU} {x2 x7 x8 x9 x10:Option PV} (hL1:2≤L) (hL2:L≤5) (hh:0 < hi∧hi≤8) (hw:0 < wd∧wd≤8) (hb:∀ b∈bars,OKB b) (hc:∀ c∈cells,In8 c) (hbl:bars.length≤900) (hcl:cells.length≤900) :
  ∃ (y:Int) (bars':List Bar) (cells':List qU) (y8 y9 y10:Option PV),(∀ b∈bars',OKB b)∧(∀ c∈cells',In8 c)∧bars'.length≤bars.length + 1∧cells'.length≤cells.length + L.toNat∧((bars'=bars∧cells'=cells) ∨ ∃ b,OKB b∧bars'=bars++[b]∧cells'=cells++cov L b ∧ ∀ c∈cov L b,In8 c∧c ∉ cells) ∧
   ZD a [some (.ref st.length),some (.int L),x2,some (.lst (cells.map cP)),some (.ref (st.length + 1 + j.length)),some (.int hi),some (.int wd),x7,x8,x9,x10] (st ++ .l [.int x]::(j++[.l (bars.map bP)])) = .nx [some (.ref st.length),some (.int L),x2,some (.lst (cells'.map cP)),some (.ref (st.length + 1 + j.length)),some (.int hi),some (.int wd),x7,y8,y9,y10] (st ++ .l [.int y]::(j++[.l (bars'.map bP)])):=by
 have t1:=QN (a:=a) (st:=st) (j:=j++[.l (bars.map bP)]) (x:=x) (m:=hi) ⟨hh.1,by omega⟩
 have t2:=QN (a:=a) (st:=st) (j:=j++[.l (bars.map bP)]) (x:=x / hi) (m:=wd) ⟨hw.1,by omega⟩
 have t3:=QN (a:=a) (st:=st) (j:=j++[.l (bars.map bP)]) (x:=x / hi / wd) (m:=2) ⟨by decide,by decide⟩
 have t4:=QN (a:=a) (st:=st) (j:=j++[.l (bars.map bP)]) (x:=x / hi / wd / 2) (m:=2) ⟨by decide,by decide⟩
 have i1:=wC (x:=x) (m:=hi) hh.1
 have i2:=wC (x:=x / hi) (m:=wd) hw.1
 have i3:=wC (x:=x / hi / wd) (m:=2) (by decide)
 generalize x % hi=r at t1 i1
 generalize x / hi % wd=c at t2 i2
 generalize x / hi / wd % 2=w at t3 i3
 generalize x / hi / wd / 2=x3 at t3 t4
 have ob:OKB (r,c,w):=⟨i1.1,by show r≤7;omega,i2.1,by show c≤7;omega,by show w=0∨w=1;omega⟩
 have hg:∀ X:Int,(st++SO.l [.int X]::(j++[.l (bars.map bP)]))[st.length + 1 + j.length]? = some (.l (bars.map bP)):=fun X=>ZE
 -- the bar
 obtain ⟨b,y,y9,hbo,e2⟩:∃ (b:Bar) (y:Int) (y9:Option PV),OKB b∧(Q4 (Wn (vTB (qG gNe (qC 4) (vFz (wt qD)))) (vTB (qG gEq (qE (qO a) (qA (qC 0) (qA (vC (.int 2)) qD))) (vC (.int 0))))) (qS (qc 9 (qG gIx (qC 4) (zi (vC (.int 1))))) (qc 8 (Qr (qA (qE yY (qA (vC (.int 7)) (qA (qG zS (qG qt (qG gIx (qC 9) (vC (.int 0))) (vC (.int 1))) (qG gIx (qC 9) (vC (.int 2)))) qD))) (qA (qE yY (qA (vC (.int 7)) (qA (qG qt (qG gIx (qC 9) (vC (.int 1))) (qG gIx (qC 9) (vC (.int 2)))) qD))) (qA (qG gIx (qC 9) (vC (.int 2))) qD)))))) QY) [some (.ref st.length),some (.int L),x2,some (.lst (cells.map cP)),some (.ref (st.length + 1 + j.length)),some (.int hi),some (.int wd),x7,some (bP (r,c,w)),x9,x10] (st ++ .l [.int x3]::(j++[.l (bars.map bP)])) = .nx [some (.ref st.length),some (.int L),x2,some (.lst (cells.map cP)),some (.ref (st.length + 1 + j.length)),some (.int hi),some (.int wd),x7,some (bP b),y9,x10] (st ++ .l [.int y]::(j++[.l (bars.map bP)])):=by
  have q0:vTB (qG gNe (qC 4) (vFz (wt qD))) [some (.ref st.length),some (.int L),x2,some (.lst (cells.map cP)),some (.ref (st.length + 1 + j.length)),some (.int hi),some (.int wd),x7,some (bP (r,c,w)),x9,x10] (st ++ .l [.int x3]::(j++[.l (bars.map bP)])) = .ok (!bars.isEmpty) (st ++ .l [.int x3]::(j++[.l (bars.map bP)])):=w6 (qQ rfl rfl (qDe (qFA (hg x3))))
  cases hbe:bars with
  |nil =>
   rw [hbe] at q0
   exact ⟨(r,c,w),x3,x9,ob,Qd (qAx q0) rfl⟩
  |cons b0 bs =>
   have q0:_=Rs.ok true (st ++ .l [.int x3]::(j++[.l (bars.map bP)])):=q0.trans (by rw [hbe];rfl)
   rw [← hbe]
   have q1:vTB (qG gEq (qE (qO a) (qA (qC 0) (qA (vC (.int 2)) qD))) (vC (.int 0))) [some (.ref st.length),some (.int L),x2,some (.lst (cells.map cP)),some (.ref (st.length + 1 + j.length)),some (.int hi),some (.int wd),x7,some (bP (r,c,w)),x9,x10] (st ++ .l [.int x3]::(j++[.l (bars.map bP)])) = .ok (x3 % 2==0) (st ++ .l [.int (x3 / 2)]::(j++[.l (bars.map bP)])):=w6 (qQ (qM (l:=[.ref st.length,.int 2]) rfl t4) rfl Y5)
   cases hz:(x3 % 2==0) with
   |false=>rw [hz] at q1;exact ⟨(r,c,w),x3 / 2,x9,ob,Qd (jL q0 q1) rfl⟩
   |true =>
    rw [hz] at q1
    have hl:bars.length - 1 < bars.length:=by rw [hbe,AM];omega
    let d:=bars[bars.length - 1]
    have od:OKB d:=hb d (Bq hl)
    have eix:gIx (.ref (st.length + 1 + j.length)) (.int (-1)) (st ++ .l [.int (x3 / 2)]::(j++[.l (bars.map bP)])) = .ok (bP d) (st ++ .l [.int (x3 / 2)]::(j++[.l (bars.map bP)])):=by
     refine jQ (qDL (hg _)) ?_
     unfold L2.atI L2.ixN
     rw [AB,AH (by decide),AC (by omega)]
     show (bars.map bP)[((bars.length:Int) + -1).toNat]? = _
     rw [show ((bars.length:Int) + -1).toNat=bars.length - 1 by omega,Ac,AS hl]
     rfl
    obtain ⟨d1,d2,d3⟩:=d
    unfold OKB at od
    dsimp only at od
    refine ⟨((if d1 + 1 - d3 < 7 then d1 + 1 - d3 else 7),(if d2 + d3 < 7 then d2 + d3 else 7),d3),x3 / 2,some (bP (d1,d2,d3)),⟨?_,?_,?_,?_,od.2.2.2.2⟩,?_⟩
    ·dsimp only;split <;> omega
    ·dsimp only;split <;> omega
    ·dsimp only;split <;> omega
    ·dsimp only;split <;> omega
    ·exact wV (jL q0 q1) (qa (QU (qQ rfl rfl eix)) (QU (Yv (qM (l:=[.int 7,.int (d1 + 1 - d3)]) rfl rfl) (qM (l:=[.int 7,.int (d2 + d3)]) rfl rfl) rfl)))
 obtain ⟨k,ek,hk⟩:=qEN (r:=[some (.ref st.length),some (.int L),x2,some (.lst (cells.map cP)),some (.ref (st.length + 1 + j.length)),some (.int hi),some (.int wd),x7,some (bP b),y9,some (.lst ((cov L b).map cP))]) (st:=st ++ .l [.int y]::(j++[.l (bars.map bP)])) (cells:=cells) hL1 hL2 hbo rfl rfl
 have pre:∀ {o:RS},(Q4 layT (qS (wO (qC 4) (qC 8)) (qc 3 (vFz (yL (qC 3) (qC 10))))) QY) [some (.ref st.length),some (.int L),x2,some (.lst (cells.map cP)),some (.ref (st.length + 1 + j.length)),some (.int hi),some (.int wd),x7,some (bP b),y9,some (.lst ((cov L b).map cP))] (st ++ .l [.int y]::(j++[.l (bars.map bP)]))=o ->
   ZD a [some (.ref st.length),some (.int L),x2,some (.lst (cells.map cP)),some (.ref (st.length + 1 + j.length)),some (.int hi),some (.int wd),x7,x8,x9,x10] (st ++ .l [.int x]::(j++[.l (bars.map bP)]))=o:=fun {o} h=>by
  unfold ZD
  refine qa (QU (Yv (qM (l:=[.ref st.length,.int hi]) rfl t1) (qM (l:=[.ref st.length,.int wd]) rfl t2) (qM (l:=[.ref st.length,.int 2]) rfl t3))) ?_
  refine qa e2 ?_
  exact qa (QU (qM (l:=[bP b,.int L]) rfl (qEX (by omega) (by omega)))) h
 cases k with
 |false=>exact ⟨y,bars,cells,some (bP b),y9,some (.lst ((cov L b).map cP)),hb,hc,by omega,by omega,.inl ⟨rfl,rfl⟩,pre (Qd ek rfl)⟩
 |true =>
  refine ⟨y,bars++[b],cells++cov L b,some (bP b),y9,some (.lst ((cov L b).map cP)),fun d hd => ?_,fun d hd => ?_,by rw [Ab];exact AI _,by rw [Ab,yB];omega,.inr ⟨b,hbo,rfl,rfl,hk rfl⟩,pre ?_⟩
  ·rcases Ah.mp hd with z |z
   ·exact hb d z
   ·rw [AY.mp z];exact hbo
  ·rcases Ah.mp hd with z |z
   ·exact hc d z
   ·exact (hk rfl d z).1
  ·have ea:=qD6 (fo:=qC 4) (f:=qC 8) (r:=[some (.ref st.length),some (.int L),x2,some (.lst (cells.map cP)),some (.ref (st.length + 1 + j.length)),some (.int hi),some (.int wd),x7,some (bP b),y9,some (.lst ((cov L b).map cP))]) (st:=st) (j:=j) (b := .l [.int y]) (b' := .l [.int y]) (l:=bars.map bP) (p:=bP b) rfl rfl (by rw [AB];omega)
   rw [show bars.map bP++[bP b]=(bars++[b]).map bP by rw [A2];rfl] at ea
   rw [show (cells++cov L b).map cP=cells.map cP++(cov L b).map cP from A2]
   exact wV ek (qa ea (QU (wj (qDq rfl rfl rfl rfl (by rw [AB,AB,yB];exact Qg (by omega))))))
def qAb (L:Int) (bars:List Bar) (cells:List qU):Prop:=cells=bars.flatMap (cov L)∧cells.Nodup∧bars.Nodup∧(∀ b∈bars,OKB b) ∧ ∀ c∈cells,In8 c
theorem zq {L:Int}:(QQ L).Nodup:=by
 unfold QQ
 refine List.Pairwise.map _ (fun a b h z=>h ?_) (List.nodup_range (n:=L.toNat))
 exact Int.ofNat.inj z
theorem qCR {L:Int} {b:Bar} (h:OKB b):(cov L b).Nodup:=by
 unfold cov
 refine List.Pairwise.map _ (fun i j hij z=>hij ?_) zq
 unfold qEU at z
 injection z with z1 z2
 rcases h.2.2.2.2 with w |w
 ·rw [w] at z2;omega
 ·rw [w] at z1;omega
theorem Yb {L:Int} {b:Bar} (hL:2≤L):qEU b 0∈cov L b:=AQ.mpr ⟨0,upto_mem.mpr ⟨by decide,by omega⟩,rfl⟩
theorem qBm {L:Int} {bars:List Bar} {cells:List qU} {b:Bar} (hL:2≤L) (I:qAb L bars cells) (hb:OKB b) (hc:∀ c∈cov L b,In8 c∧c ∉ cells):qAb L (bars++[b]) (cells++cov L b):=by
 obtain ⟨h1,h2,h3,h4,h5⟩:=I
 refine ⟨by rw [h1,List.flatMap_append,List.flatMap_singleton],?_,?_,fun d hd => ?_,fun d hd => ?_⟩
 ·refine Bn.mpr ⟨h2,qCR hb,fun x hx y hy z => ?_⟩
  subst z
  exact (hc x hy).2 hx
 ·refine Bn.mpr ⟨h3,BK.mpr ⟨Ae,Bc⟩,fun x hx y hy z => ?_⟩
  rw [AY.mp hy] at z
  subst z
  refine (hc _ (Yb hL)).2 ?_
  rw [h1]
  exact List.mem_flatMap.mpr ⟨x,hx,Yb hL⟩
 ·rcases Ah.mp hd with z |z
  ·exact h4 d z
  ·rw [AY.mp z];exact hb
 ·rcases Ah.mp hd with z |z
  ·exact h5 d z
  ·exact (hc d z).1
theorem Yl {a:Ad} {st j:qB} {L hi wd:Int} {x2:Option PV} (hL1:2≤L) (hL2:L≤5) (hh:0 < hi∧hi≤8) (hw:0 < wd∧wd≤8):∀ (ks:List PV) (x:Int) (bars:List Bar) (cells:List qU) (x7 x8 x9 x10:Option PV),qAb L bars cells->bars.length + ks.length≤100->cells.length + L.toNat * ks.length≤500 ->
  ∃ (y:Int) (bars':List Bar) (cells':List qU) (y7 y8 y9 y10:Option PV),qAb L bars' cells'∧bars'.length≤bars.length + ks.length∧cells'.length≤cells.length + L.toNat * ks.length ∧
   Qh (fun _=>True) (QM 7) (ZD a) ks [some (.ref st.length),some (.int L),x2,some (.lst (cells.map cP)),some (.ref (st.length + 1 + j.length)),some (.int hi),some (.int wd),x7,x8,x9,x10] (st ++ .l [.int x]::(j++[.l (bars.map bP)])) = .nx [some (.ref st.length),some (.int L),x2,some (.lst (cells'.map cP)),some (.ref (st.length + 1 + j.length)),some (.int hi),some (.int wd),y7,y8,y9,y10] (st ++ .l [.int y]::(j++[.l (bars'.map bP)]))
 |[],x,bars,cells,x7,x8,x9,x10,hI,_,_=>⟨x,bars,cells,x7,x8,x9,x10,hI,AI _,AI _,Qq trivial⟩
 |k::ks,x,bars,cells,x7,x8,x9,x10,hI,n1,n2=>by
  rw [AM] at n1 n2
  rw [Nat.mul_succ] at n2
  obtain ⟨y,bs,cs,y8,y9,y10,b1,c1,l1,l2,hor,e⟩:=qB7 (a:=a) (st:=st) (j:=j) (x:=x) (L:=L) (hi:=hi) (wd:=wd) (bars:=bars) (cells:=cells) (x2:=x2) (x7:=some k) (x8:=x8) (x9:=x9) (x10:=x10) hL1 hL2 hh hw hI.2.2.2.1 hI.2.2.2.2 (by omega) (by omega)
  have hI':qAb L bs cs:=by
   rcases hor with ⟨e1,e2⟩ |⟨b,hb,e1,e2,hc⟩
   ·rw [e1,e2];exact hI
   ·rw [e1,e2];exact qBm hL1 hI hb hc
  obtain ⟨z,bs',cs',z7,z8,z9,z10,b2,m1,m2,e2⟩:=Yl hL1 hL2 hh hw ks y bs cs (some k) y8 y9 y10 hI' (by omega) (by omega)
  refine ⟨z,bs',cs',z7,z8,z9,z10,b2,by rw [AM];omega,by rw [AM,Nat.mul_succ];omega,zH trivial rfl e e2⟩
def Wd (l:List Bar):List Bar:=(srt (l.map bL)).map lB
theorem qAq {a:Ad} {st j:qB} {x L T:Int} (hL1:2≤L) (hL2:L≤5) (hT1:1≤T) (hT2:L * T≤60):∃ (bars:List Bar) (cells:List qU) (y:Int) (g:qB),qAb L bars cells∧(cells.length:Int)≤L * T∧(bars.length:Int)≤T∧wa a [.ref st.length,.int L,.int T] (st ++ .l [.int x]::j) = .ok (.tup [.tup ((Qf cells).map cP),.tup ((Wd bars).map bP)]) (st ++ .l [.int y]::(j++g)):=by
 have hT3:T≤30:=by
  rcases Int.lt_or_le 30 T with z |z
  ·have h1:2 * 31≤L * T:=Int.mul_le_mul hL1 (by omega) (by decide) (by omega)
   omega
  ·exact z
 have hLT:0≤L * T:=Int.mul_nonneg (by omega) (by omega)
 have t1:=QN (a:=a) (st:=st) (j:=j++[.l []]) (x:=x) (m:=9 - L) ⟨by omega,by omega⟩
 have t2:=QN (a:=a) (st:=st) (j:=j++[.l []]) (x:=x / (9 - L)) (m:=9 - L) ⟨by omega,by omega⟩
 have t3:=QN (a:=a) (st:=st) (j:=j++[.l []]) (x:=x / (9 - L) / (9 - L)) (m:=T) ⟨by omega,by omega⟩
 have i1:=wC (x:=x) (m:=9 - L) (by omega)
 have i2:=wC (x:=x / (9 - L)) (m:=9 - L) (by omega)
 have i3:=wC (x:=x / (9 - L) / (9 - L)) (m:=T) (by omega)
 generalize x % (9 - L)=h1 at t1 i1
 generalize x / (9 - L) % (9 - L)=w1 at t2 i2
 generalize x / (9 - L) / (9 - L) % T=n1 at t3 i3
 generalize x / (9 - L) / (9 - L) / T=x3 at t3
 have hks:((QQ (1 + n1)).map PV.int).length=(1 + n1).toNat:=by rw [AB,qr]
 have hLn:L.toNat * (1 + n1).toNat≤(L * T).toNat:=by
  have:L * (1 + n1)≤L * T:=Int.mul_le_mul_of_nonneg_left (by omega) (by omega)
  have e:(L.toNat * (1 + n1).toNat:Int)=L * (1 + n1):=by rw [BO (by omega),BO (by omega)]
  omega
 obtain ⟨y,bars,cells,y7,y8,y9,y10,hI,l1,l2,e⟩:=Yl (a:=a) (st:=st) (j:=j) (L:=L) (hi:=L + h1) (wd:=L + w1) (x2:=some (.int T)) hL1 hL2 (by omega) (by omega) ((QQ (1 + n1)).map PV.int) x3 [] [] none none none none ⟨rfl,Bc,Bc,fun b h=>(by cases h),fun c h=>(by cases h)⟩ (by rw [hks];show 0 + _≤100;omega) (by rw [hks];show 0 + _≤500;omega)
 rw [hks] at l1 l2
 have l1:bars.length≤0 + (1 + n1).toNat:=l1
 have l2:cells.length≤0 + L.toNat * (1 + n1).toNat:=l2
 obtain ⟨m,q0,q1,q2,q3⟩:=qGr (l:=bars) (q := .ref (st.length + 1 + j.length)) (st:=st ++ .l [.int y]::(j++[.l (bars.map bP)])) (qDL ZE) (by omega)
 subst q0
 refine ⟨bars,cells,y,[.l (bars.map bP)],hI,by omega,by omega,qq rfl ?_⟩
 unfold zd
 refine qa (QU rfl) (qa (qDm (yb qY (sz rfl))) ?_)
 refine qa (qGK (qN (qQ rfl (qM (l:=[.ref st.length,.int (9 - L)]) rfl t1) wE) (qN (qQ rfl (qM (l:=[.ref st.length,.int (9 - L)]) rfl t2) wE) qY))) ?_
 refine qa (Zg (itN (L:=1 + n1) (by omega) (by omega) (qN (qQ rfl (qM (l:=[.ref st.length,.int T]) rfl t3) wE) qY)) e) ?_
 exact QI (Wh (qN (qM (qN (Jr rfl (qCc rfl (by omega))) qY) (zN rfl)) (qN (qM (qN (Jr rfl q3) qY) (zN rfl)) qY)) (sz rfl))
theorem Yj {a:Ad} {st j:qB} {fi:FI} {up rw' lf wy:Int}:∀ (ks:List Int) (x:Int),∃ (cs:List qU) (y:Int),cs.length≤ks.length∧(∀ c∈cs,c.1=up + rw' ∧ ∃ k∈ks,c.2=lf + k)∧(cs.map (·.2)).Sublist (ks.map (lf + ·))∧qf (fun _=>True) (QH ⟨fi,qi 5,[(Wi (vTB (qG gEq (qC 3) (vC (.int 0)))) (vTB (qG gGt (qE (qO a) (qA (qC 4) (qA (vC (.int 6)) qD))) (vC (.int 0)))))]⟩ (QW [] (Qr (qA (qG qt (qC 0) (qC 1)) (qA (qG qt (qC 2) (qC 5)) qD)))) [some (.int up),some (.int rw'),some (.int lf),some (.int wy),some (.ref st.length),none]) (ks.map PV.int) (st ++ .l [.int x]::j) = .ok (cs.map cP) (st ++ .l [.int y]::j)
 |[],x=>⟨[],x,AI _,fun c hc=>(by cases hc),List.Sublist.slnil,zA trivial⟩
 |k::ks,x=>by
  have t:=QN (a:=a) (st:=st) (j:=j) (x:=x) (m:=6) ⟨by decide,by decide⟩
  have c1:vTB (qG gEq (qC 3) (vC (.int 0))) [some (.int up),some (.int rw'),some (.int lf),some (.int wy),some (.ref st.length),some (.int k)] (st ++ .l [.int x]::j) = .ok (wy==0) (st ++ .l [.int x]::j):=w6 (qQ rfl rfl Y5)
  have c2:vTB (qG gGt (qE (qO a) (qA (qC 4) (qA (vC (.int 6)) qD))) (vC (.int 0))) [some (.int up),some (.int rw'),some (.int lf),some (.int wy),some (.ref st.length),some (.int k)] (st ++ .l [.int x]::j) = .ok (decide (x % 6 > 0)) (st ++ .l [.int (x / 6)]::j):=w6 (qQ (qM (l:=[.ref st.length,.int 6]) rfl t) rfl qGs)
  obtain ⟨b,z,ht⟩:∃ (b:Bool) (z:Int),(Wi (vTB (qG gEq (qC 3) (vC (.int 0)))) (vTB (qG gGt (qE (qO a) (qA (qC 4) (qA (vC (.int 6)) qD))) (vC (.int 0))))) [some (.int up),some (.int rw'),some (.int lf),some (.int wy),some (.ref st.length),some (.int k)] (st ++ .l [.int x]::j) = .ok b (st ++ .l [.int z]::j):=by
   cases hw:(wy==0) with
   |true=>rw [hw] at c1;exact ⟨true,x,qAM c1⟩
   |false=>rw [hw] at c1;exact ⟨_,x / 6,We c1 c2⟩
  obtain ⟨cs,y,h1,h2,h4,h3⟩:=Yj (a:=a) (st:=st) (j:=j) (fi:=fi) (up:=up) (rw':=rw') (lf:=lf) (wy:=wy) ks z
  cases b with
  |true =>
   refine ⟨(up + rw',lf + k)::cs,y,Bu h1,fun c hc => ?_,h4.cons_cons _,Z5 trivial (j5 rfl ht (Wh (qN (qQ rfl rfl wE) (qN (qQ rfl rfl wE) qY)) (sz rfl))) h3⟩
   rcases AL.mp hc with rfl |hc
   ·exact ⟨rfl,k,AD,rfl⟩
   ·obtain ⟨a1,k',a2,a3⟩:=h2 c hc
    exact ⟨a1,k',AG _ a2,a3⟩
  |false =>
   refine ⟨cs,y,Nat.le_succ_of_le h1,fun c hc => ?_,h4.cons _,Z5 trivial (j3 rfl ht) h3⟩
   obtain ⟨a1,k',a2,a3⟩:=h2 c hc
   exact ⟨a1,k',AG _ a2,a3⟩
def qGx (a:Ad):FS:=(qc 8 (vFz (yL (qC 8) (vFz (qp [6,9,7,3,0] 1 (Q1 (qA (qC 5) qD)) (qi 5) [(Wi (vTB (qG gEq (qC 3) (vC (.int 0)))) (vTB (qG gGt (qE (qO a) (qA (qC 4) (qA (vC (.int 6)) qD))) (vC (.int 0)))))] [] (Qr (qA (qG qt (qC 0) (qC 1)) (qA (qG qt (qC 2) (qC 5)) qD))))))))
theorem qBH {a:Ad} {st j:qB} {hi wd up lf wy:Int} {x1 x2:Option PV} (hu:0≤up∧up + hi≤8) (hl:0≤lf∧lf + wd≤8) (hw:1≤wd∧wd≤6):∀ (rs:List Int) (x:Int) (fd:List qU) (x9:Option PV),(∀ r∈rs,0≤r∧r < hi)->(∀ c∈fd,In8 c)->fd.Nodup->rs.Nodup->(∀ c∈fd,∀ r∈rs,c.1≠up + r)->fd.length + 6 * rs.length≤500 ->
  ∃ (y:Int) (fd':List qU) (y9:Option PV),(∀ c∈fd',In8 c)∧fd'.Nodup∧fd'.length≤fd.length + 6 * rs.length∧Qh (fun _=>True) (QM 9) (qGx a) (rs.map PV.int) [some (.ref st.length),x1,x2,some (.int wy),some (.int hi),some (.int wd),some (.int up),some (.int lf),some (.lst (fd.map cP)),x9] (st ++ .l [.int x]::j) = .nx [some (.ref st.length),x1,x2,some (.int wy),some (.int hi),some (.int wd),some (.int up),some (.int lf),some (.lst (fd'.map cP)),y9] (st ++ .l [.int y]::j)
 |[],x,fd,x9,_,hf,hd,_,_,_=>⟨x,fd,x9,hf,hd,AI _,Qq trivial⟩
 |r::rs,x,fd,x9,hr,hf,hd,hrd,hrc,hn=>by
  rw [AM] at hn
  obtain ⟨cs,y,h1,h2,h4,h3⟩:=Yj (a:=a) (st:=st) (j:=j) (fi:=Q1 (qA (qC 5) qD)) (up:=up) (rw':=r) (lf:=lf) (wy:=wy) (QQ wd) x
  rw [qr] at h1
  have r0:=hr r AD
  have hf':∀ c∈fd++cs,In8 c:=fun c hc=>by
   rcases Ah.mp hc with z |z
   ·exact hf c z
   ·obtain ⟨a1,k,a2,a3⟩:=h2 c z
    have:=upto_mem.mp a2
    unfold In8;omega
  have hcd:cs.Nodup:=by
   refine List.Pairwise.of_map (·.2) (fun p q hpq z=>hpq (by rw [z])) (h4.nodup ?_)
   exact List.Pairwise.map _ (fun p q hpq z=>hpq (by omega)) zq
  have hd':(fd++cs).Nodup:=by
   refine Bn.mpr ⟨hd,hcd,fun p hp q hq z => ?_⟩
   subst z
   exact hrc p hp r AD (h2 p hq).1
  have hrc':∀ c∈fd++cs,∀ q∈rs,c.1≠up + q:=fun c hc q hq=>by
   rcases Ah.mp hc with z |z
   ·exact hrc c z q (AG _ hq)
   ·rw [(h2 c z).1]
    intro e
    have e:r=q:=by omega
    exact (BK.mp hrd).1 (by rw [e];exact hq)
  obtain ⟨y',fd',y9,g1,g0,g2,g3⟩:=qBH hu hl hw rs y (fd++cs) (some (.int r)) (fun q hq=>hr q (AG _ hq)) hf' hd' (BK.mp hrd).2 hrc' (by rw [Ab];omega)
  refine ⟨y',fd',y9,g1,g0,by rw [Ab] at g2;rw [AM];omega,zH trivial rfl (QU (wj (qDq (l:=fd.map cP) (m:=cs.map cP) rfl (wj (qD9 (w:=⟨(QQ wd).map PV.int,fun _=>True⟩) (itN (by omega) (by omega) rfl) h3 (by rw [AB];exact Qg (by omega)))) rfl rfl (by rw [AB,AB];exact Qg (by omega))))) ?_⟩
  rw [← A2]
  exact g3
theorem qDl {a:Ad} {st j:qB} {x L M:Int} (hL1:2≤L) (hL2:L≤5) (hM1:5≤M) (hM2:M≤40):∃ (F:List qU) (y:Int) (g:qB),(F.length:Int)≤M∧(∀ c∈F,In8 c)∧(∃ (cs:List qU) (n:Nat),cs.Nodup∧F=(Qf cs).take n)∧wG a [.ref st.length,.int L,.int M] (st ++ .l [.int x]::j) = .ok (.tup (F.map cP)) (st ++ .l [.int y]::(j++g)):=by
 have t1:=QN (a:=a) (st:=st) (j:=j) (x:=x) (m:=5) ⟨by decide,by decide⟩
 have t2:=QN (a:=a) (st:=st) (j:=j) (x:=x / 5) (m:=6) ⟨by decide,by decide⟩
 have t3:=QN (a:=a) (st:=st) (j:=j) (x:=x / 5 / 6) (m:=6) ⟨by decide,by decide⟩
 have i2:=wC (x:=x / 5) (m:=6) (by decide)
 have i3:=wC (x:=x / 5 / 6) (m:=6) (by decide)
 generalize x % 5=wy at t1
 generalize x / 5 % 6=h1 at t2 i2
 generalize x / 5 / 6 % 6=w1 at t3 i3
 generalize x / 5 / 6 / 6=x3 at t3
 have t4:=QN (a:=a) (st:=st) (j:=j) (x:=x3) (m:=9 - (1 + h1)) ⟨by omega,by omega⟩
 have t5:=QN (a:=a) (st:=st) (j:=j) (x:=x3 / (9 - (1 + h1))) (m:=9 - (1 + w1)) ⟨by omega,by omega⟩
 have i4:=wC (x:=x3) (m:=9 - (1 + h1)) (by omega)
 have i5:=wC (x:=x3 / (9 - (1 + h1))) (m:=9 - (1 + w1)) (by omega)
 generalize x3 % (9 - (1 + h1))=up at t4 i4
 generalize x3 / (9 - (1 + h1)) % (9 - (1 + w1))=lf at t5 i5
 generalize x3 / (9 - (1 + h1)) / (9 - (1 + w1))=x5 at t5
 obtain ⟨y,fd,y9,g1,g0,g2,g3⟩:=qBH (a:=a) (st:=st) (j:=j) (hi:=1 + h1) (wd:=1 + w1) (up:=up) (lf:=lf) (wy:=wy) (x1:=some (.int L)) (x2:=some (.int M)) (by omega) (by omega) (by omega) (QQ (1 + h1)) x5 [] none (fun r hr=>upto_mem.mp hr) (fun c hc=>(by cases hc)) Bc zq (fun c hc=>(by cases hc)) (by rw [qr];show 0 + _≤500;omega)
 rw [qr] at g2
 have g2:fd.length≤0 + 6 * (1 + h1).toNat:=g2
 have pre:∀ {p:PV} {S:qB},(qS (Q4 (vTB (qG gGt (qC 3) (vC (.int 2)))) (qo (qG gIx (qE (wa a) (qA (qC 0) (qA (qC 1) (qA (qE qAI (qA (vC (.int 1)) (qA (qG ji (qC 2) (qC 1)) qD))) qD)))) (vC (.int 0)))) QY) (qo (qE wH (qA (qDB (zj (qC 8)) wY (Q2 (qC 2))) qD)))) [some (.ref st.length),some (.int L),some (.int M),some (.int wy),some (.int (1 + h1)),some (.int (1 + w1)),some (.int up),some (.int lf),some (.lst (fd.map cP)),y9] (st ++ .l [.int y]::j) = .rt p S->wG a [.ref st.length,.int L,.int M] (st ++ .l [.int x]::j) = .ok p S:=fun {p S} h=>by
  refine qq rfl ?_
  unfold zJ
  refine qa (QU (qM (l:=[.ref st.length,.int 5]) rfl t1)) ?_
  refine qa (qGK (qN (qQ rfl (qM (l:=[.ref st.length,.int 6]) rfl t2) wE) (qN (qQ rfl (qM (l:=[.ref st.length,.int 6]) rfl t3) wE) qY))) ?_
  refine qa (qA8 (r1:=[some (.ref st.length),some (.int L),some (.int M),some (.int wy),some (.int (1 + h1)),some (.int (1 + w1)),some (.int up),some (.int lf),none,none]) (Wh (qN (qM (l:=[.ref st.length,.int (9 - (1 + h1))]) rfl t4) (qN (qM (l:=[.ref st.length,.int (9 - (1 + w1))]) rfl t5) qY)) (sz rfl)) rfl) ?_
  exact qa (QU rfl) (qa (Zg (itN (L:=1 + h1) (by omega) (by omega) rfl) g3) h)
 have cg:vTB (qG gGt (qC 3) (vC (.int 2))) [some (.ref st.length),some (.int L),some (.int M),some (.int wy),some (.int (1 + h1)),some (.int (1 + w1)),some (.int up),some (.int lf),some (.lst (fd.map cP)),y9] (st ++ .l [.int y]::j) = .ok (decide (wy > 2)) (st ++ .l [.int y]::j):=w6 (qQ rfl rfl qGs)
 by_cases hwy:wy > 2
 ·rw [AR hwy] at cg
  have hmul:L * (M / L)≤M:=Int.mul_ediv_self_le (by omega)
  let T:Int:=if M / L > 1 then M / L else 1
  have hT1:1≤T:=by show 1≤(if M / L > 1 then M / L else 1);split <;> omega
  have hT2:L * T≤60:=by show L * (if M / L > 1 then M / L else 1)≤60;split <;> omega
  have hT3:L * T≤M:=by show L * (if M / L > 1 then M / L else 1)≤M;split <;> omega
  obtain ⟨bs,cs,z,g,l0,l1,l2,l5⟩:=qAq (a:=a) (st:=st) (j:=j) (x:=y) (L:=L) (T:=T) hL1 hL2 hT1 hT2
  exact ⟨Qf cs,z,g,by rw [yc];omega,fun c hc=>l0.2.2.2.2 c (mem_srtC.mp hc),⟨cs,(Qf cs).length,l0.2.1,List.take_length.symm⟩,pre (Qt (wV cg (QI (qQ (qM (l:=[.ref st.length,.int L,.int T]) (qN rfl (qN rfl (qN (qM (l:=[.int 1,.int (M / L)]) (qN rfl (qN (qQ rfl rfl (qDi ⟨by omega,by omega⟩)) qY)) rfl) qY))) l5) rfl rfl))))⟩
 ·rw [AO hwy] at cg
  refine ⟨(Qf fd).take M.toNat,y,[],?_,fun c hc=>g1 c (mem_srtC.mp (List.mem_of_mem_take hc)),⟨fd,M.toNat,g0,rfl⟩,?_⟩
  ·rw [B9,yc];omega
  ·rw [A6]
   have hct:=qIv (l:=Qf fd) (n:=M.toNat) (by omega)
   rw [BO (by omega)] at hct
   rw [← hct]
   exact pre (qa (Qd cg rfl) (QI (qM (qN (qIB (Jr rfl (qCc rfl (by omega))) rfl (qFh rfl) rfl) qY) (zN rfl))))
theorem qD5 {caps:List Nat} {n:Nat} {fi:FI} {g:FG} {t:FT} {f:FE} {r:qh} {st:qB} {w:ItP} {c:PV->Bool} {F:PV->PV} (hfi:fi r st = .ok w st) (hG:w.G st) (hl:w.l.length≤sizeLine)
  (h:∀ p∈w.l,∃ r',g p (WA caps n r)=some r'∧t r' st = .ok (c p) st∧f r' st = .ok (F p) st):qp caps n fi g [t] [] f r st = .ok ((w.l.filter c).map F) st:=by
 have e:∀ l:List PV,l.flatMap (fun p=>if c p=true then [F p] else [])=(l.filter c).map F:=fun l=>by
  induction l with
  |nil=>rfl
  |cons a l ih =>
   rw [List.flatMap_cons,ih,List.filter_cons]
   cases c a <;> rfl
 unfold qp
 rw [hfi]
 show (match qf w.G (QH ⟨fi,g,[t]⟩ (QW [] f) (WA caps n r)) w.l st with | .ok l s'=>if l.length≤sizeLine then Rs.ok l s' else Rs.no |_=>Rs.no)=_
 rw [WV (F:=fun p=>if c p=true then [F p] else []) hG fun p hp=>by
  obtain ⟨r',h1,h2,h3⟩:=h p hp
  unfold QH
  show (match g p (WA caps n r) with |none=>_ |some r'=>_)=_
  rw [h1]
  show (Qb [t] r' st).bind _=_
  unfold Qb Qb
  rw [h2]
  cases hc:c p
  ·rfl
  ·show (QW [] f) r' st=_
   unfold QW
   rw [h3];rfl]
 rw [e]
 dsimp only
 rw [AC (by rw [AB];exact Aa (List.length_filter_le _ _) hl)]
theorem qGN {c:Int}:∀ cs:List Int,pin (.int c) (cs.map PV.int)=decide (c∈cs)
 |[]=>rfl
 |x::cs=>by
  rw [AK]
  show (peq (.int x) (.int c) || pin (.int c) (cs.map PV.int))=_
  rw [qGN cs]
  have e:peq (.int x) (.int c)=decide (x=c):=rfl
  rw [e]
  by_cases h:x=c
  ·rw [AR h,Bool.true_or,h];simp
  ·rw [AO h,Bool.false_or]
   by_cases h2:c∈cs
   ·rw [AR h2];simp [h2]
   ·rw [AO h2];simp [h2,Ne.symm h]
theorem qF0:∀ cs:List Int,nrs (cs.map PV.int)=true
 |[]=>rfl
 |_::cs=>qF0 cs
theorem qDg:∀ cs:List Int,deps (cs.map PV.int)=0
 |[]=>rfl
 |a::cs=>by rw [AK,deps,qDg cs];rfl
theorem qIm {c:Int} {cs:List Int} {st:qB}:gIn false (.int c) (.lst (cs.map PV.int)) st = .ok (.bl (decide (c∈cs))) st:=by
 have h:w5 st (.lst (cs.map PV.int))=some (cs.map PV.int):=rfl
 unfold gIn
 rw [h]
 dsimp only
 rw [AC ⟨qF0 cs,rfl,by rw [qDg];decide⟩]
 show Rs.ok (PV.bl (pin (.int c) (cs.map PV.int))) st=_
 rw [qGN]
theorem jW {α:Type} {l:List α} (h:l≠[]):L2.atI l (-1)=some (l.getLast h):=by
 have hl:0 < l.length:=CM.mpr h
 have e:L2.ixN l.length (-1)=some (l.length - 1):=by
  unfold L2.ixN
  rw [AH (by omega)]
  rw [AC (by omega)]
  congr 1
  omega
 unfold L2.atI
 rw [e]
 show l[l.length - 1]? = _
 rw [List.getLast_eq_getElem h]
 exact AS _
theorem YB {α β:Type} {f:α->β} {l:List α} (h:l≠[]) (h2:l.map f≠[]):(l.map f).getLast h2=f (l.getLast h):=List.getLast_map h2
def Wb (F:List qU) (r:Int):List Int:=(F.filter fun c=>c.1==r).map (·.2)
theorem cols_mem {F:List qU} {r c:Int}:c∈Wb F r ↔ (r,c)∈F:=by
 unfold Wb
 rw [AQ]
 constructor
 ·rintro ⟨d,hd,rfl⟩
  obtain ⟨h1,h2⟩:=B0.mp hd
  rw [← CU h2];exact h1
 ·intro h
  exact ⟨(r,c),B0.mpr ⟨h,Az _⟩,rfl⟩
def wb (cs:List Int):List Nat:=if h:cs=[] then [46] else (QQ (cs.getLast h + 1)).map fun c=>if c∈cs then 35 else 46
def WN (F:List qU) (n:Int):List (List Nat):=(QQ n).map fun r=>wb (Wb F r)
def Q7 (F:List qU):List Nat:=if h:F=[] then [45] else jn 47 (WN F ((F.getLast h).1 + 1))
theorem z6 {cs:List Int} (h:∀ c∈cs,0≤c∧c≤7):(wb cs).length≤8:=by
 unfold wb
 split
 ·decide
 ·rename_i hn
  have:=h _ (A3 hn)
  rw [AB,qr];omega
theorem qEd {cs:List Int} {x:Nat} (h:x∈wb cs):x=35∨x=46:=by
 unfold wb at h
 split at h
 ·exact .inr (AY.mp h)
 ·obtain ⟨c,_,rfl⟩:=AQ.mp h
  split
  ·exact .inl rfl
  ·exact .inr rfl
theorem s46:Str.ofString "." = tx [46]:=by decide +kernel
theorem s45:Str.ofString "-" = tx [45]:=by decide +kernel
theorem s35:Str.ofString "#" = tx [35]:=by decide +kernel
theorem s47:Str.ofString "/" = ⟨#[47]⟩:=by decide +kernel
theorem s0:Str.ofString "" = Str.empty:=by decide +kernel
theorem qEB {f:FE} {r:qh} {st s1:qB} {l:List PV} (h:f r st = .ok (.lst l) s1):QE f r st = .ok (!l.isEmpty) s1:=by unfold QE;rw [h];rfl
theorem qDG {f:FE} {r:qh} {st s1:qB} {l:List PV} (h:f r st = .ok (.tup l) s1):QE f r st = .ok (!l.isEmpty) s1:=by unfold QE;rw [h];rfl
theorem qBE {f:FE} {r:qh} {st s1:qB} {p:PV} {l:List PV} {b:Bool} (h:f r st = .ok p s1) (hp:p = .lst l∨p = .tup l) (hb:l.isEmpty=b):wQ (QE f) r st = .ok b s1:=by
 have h1:QE f r st = .ok (!l.isEmpty) s1:=by
  rcases hp with rfl |rfl
  ·exact qEB h
  ·exact qDG h
 have:=w_not h1
 rw [this,hb,Bool.not_not]
def hash (cs:List Int) (c:Int):Nat:=if c∈cs then 35 else 46
theorem JP {a:Ad} {cs:List Int} {st:qB} (hc:∀ c∈cs,0≤c∧c≤7):W4 a [.lst (cs.map PV.int)] st = .ok (.str (tx (wb cs))) st:=by
 refine qq rfl ?_
 unfold za
 by_cases hn:cs=[]
 ·subst hn
  refine Qt (wV (qBE rfl (.inl rfl) rfl) (QI ?_))
  show Rs.ok (PV.str (Str.ofString ".")) st=_
  rw [s46];rfl
 ·have he:(cs.map PV.int).isEmpty=false:=by cases cs with |nil=>exact absurd rfl hn |cons=>rfl
  have hm:cs.map PV.int≠[]:=fun z=>hn (Bb.mp z)
  have hl:=hc _ (A3 hn)
  have hi:qG qt (qG gIx (qC 0) (zi (vC (.int 1)))) (vC (.int 1)) [some (.lst (cs.map PV.int))] st = .ok (.int (cs.getLast hn + 1)) st :=
   qQ (qQ rfl rfl (jQ (l:=cs.map PV.int) (z := .int (cs.getLast hn)) rfl (by rw [show (-(1:Int)) = -1 from rfl,jW hm,YB hn hm]))) rfl wE
  let G:PV->PV:=fun p=>match p with
   | .int k => .str ⟨#[hash cs k]⟩
   |_=>p
  have e:=QK (caps:=[0]) (n:=1) (fi:=Q1 (qA (qG qt (qG gIx (qC 0) (zi (vC (.int 1)))) (vC (.int 1))) qD)) (g:=qi 1) (f:=vIf (vTB (qG (gIn false) (qC 1) (qC 0))) (vC (.str "#")) (vC (.str "."))) (r:=[some (.lst (cs.map PV.int))]) (st:=st) (w:=⟨(QQ (cs.getLast hn + 1)).map PV.int,fun _=>True⟩) (F:=G) (itN (by omega) (by omega) (qN hi qY)) trivial (by rw [AB,qr];exact Qg (by omega)) fun p hp=>by
   obtain ⟨k,hk,rfl⟩:=AQ.mp hp
   refine ⟨[some (.lst (cs.map PV.int)),some (.int k)],rfl,?_⟩
   have ht:vTB (qG (gIn false) (qC 1) (qC 0)) [some (.lst (cs.map PV.int)),some (.int k)] st = .ok (decide (k∈cs)) st:=w6 (qQ rfl rfl qIm)
   show _=Rs.ok (PV.str ⟨#[hash cs k]⟩) st
   unfold hash
   by_cases hk:k∈cs
   ·rw [AR hk] at ht
    rw [AC hk]
    refine qAw ht ?_
    show Rs.ok (PV.str (Str.ofString "#")) st=_
    rw [s35];rfl
   ·rw [AO hk] at ht
    rw [AH hk]
    refine qBg ht ?_
    show Rs.ok (PV.str (Str.ofString ".")) st=_
    rw [s46];rfl
  have er:wb cs=(QQ (cs.getLast hn + 1)).map (hash cs):=by unfold wb;rw [dif_neg hn];rfl
  have e2:((QQ (cs.getLast hn + 1)).map PV.int).map G=(wb cs).map fun c=>PV.str ⟨#[c]⟩:=by
   rw [er,Ag,Ag];rfl
  refine qa (Qd (qBE rfl (.inl rfl) he) rfl) (QI ?_)
  refine qBQ (s1:=st) ?_ (wj e) ?_ (Aa (z6 hc) (by decide))
  ·show Rs.ok (PV.str (Str.ofString "")) st=_
   rw [s0]
  ·rw [← e2];rfl
theorem W1 {F:List qU} {r:Int} (h:∀ c∈F,In8 c):∀ c∈Wb F r,0≤c∧c≤7:=fun c hc=>by
 have:=h _ (cols_mem.mp hc)
 exact ⟨this.2.2.1,this.2.2.2⟩
theorem Yk {F:List qU} {k:Int} {r:qh} {st:qB} {fi:FI} {caps:List Nat} (hfi:fi r st = .ok ⟨F.map cP,fun _=>True⟩ st) (hcap:WA caps 2 r=[some (.int k),none,none]) (hl:F.length≤1000) :
  qp caps 2 fi (wu 2 (qd (qi 1) (qd (qi 2) w8))) [vTB (qG gEq (qC 1) (qC 0))] [] (qC 2) r st = .ok ((Wb F k).map PV.int) st:=by
 let G:PV->PV:=fun p => .int (unC p).2
 have e:=qD5 (caps:=caps) (n:=2) (fi:=fi) (g:=wu 2 (qd (qi 1) (qd (qi 2) w8))) (t:=vTB (qG gEq (qC 1) (qC 0))) (f:=qC 2) (r:=r) (st:=st) (w:=⟨F.map cP,fun _=>True⟩) (c:=fun p=>(unC p).1==k) (F:=G) hfi trivial (by rw [AB];exact Qg (by omega)) fun p hp=>by
  obtain ⟨c,hc,rfl⟩:=AQ.mp hp
  rw [hcap]
  exact ⟨[some (.int k),some (.int c.1),some (.int c.2)],rfl,w6 (qQ rfl rfl Y5),rfl⟩
 rw [e]
 congr 1
 unfold Wb
 rw [JD (d:=fun c=>c.1==k) fun x _=>rfl,Ag,Ag]
 rfl
theorem zV {a:Ad} {F:List qU} {st:qB} (hF:∀ c∈F,In8 c) (hl:F.length≤1000):wJ a [.tup (F.map cP)] st = .ok (.str (tx (Q7 F))) st:=by
 refine qq rfl ?_
 unfold Ws
 by_cases hn:F=[]
 ·subst hn
  refine Qt (wV (qBE rfl (.inr rfl) rfl) (QI ?_))
  show Rs.ok (PV.str (Str.ofString "-")) st=_
  rw [s45];rfl
 ·have he:(F.map cP).isEmpty=false:=by cases F with |nil=>exact absurd rfl hn |cons=>rfl
  have hm:F.map cP≠[]:=fun z=>hn (Bb.mp z)
  have h8:=hF _ (A3 hn)
  unfold In8 at h8
  refine qa (Qd (qBE rfl (.inr rfl) he) rfl) ?_
  refine qa (QU (p := .int (F.getLast hn).1) (qQ (qQ rfl rfl (jQ (l:=F.map cP) (z:=cP (F.getLast hn)) rfl (by rw [show (-(1:Int)) = -1 from rfl,jW hm,YB hn hm]))) rfl (jQ (l:=[.int (F.getLast hn).1,.int (F.getLast hn).2]) rfl rfl))) (QI ?_)
  generalize hg:(F.getLast hn).1=last at h8
  let G:PV->PV:=fun p=>match p with
   | .int k => .str (tx (wb (Wb F k)))
   |_=>p
  have e:=QK (caps:=[0]) (n:=1) (fi:=Q1 (qA (qG qt (qC 1) (vC (.int 1))) qD)) (g:=qi 1) (f:=qE (W4 a) (qA (vFz (qp [1] 2 (qx (qC 0)) (wu 2 (qd (qi 1) (qd (qi 2) w8))) [(vTB (qG gEq (qC 1) (qC 0)))] [] (qC 2))) qD)) (r:=[some (.tup (F.map cP)),some (.int last)]) (st:=st) (w:=⟨(QQ (last + 1)).map PV.int,fun _=>True⟩) (F:=G) (itN (by omega) (by omega) (qN (qQ rfl rfl wE) qY)) trivial (by rw [AB,qr];exact Qg (by omega)) fun p hp=>by
   obtain ⟨k,hk,rfl⟩:=AQ.mp hp
   exact ⟨[some (.tup (F.map cP)),some (.int k)],rfl,qM (qN (wj (Yk (wc rfl) rfl hl)) qY) (JP (W1 hF))⟩
  have e2:((QQ (last + 1)).map PV.int).map G=(WN F (last + 1)).map fun l=>PV.str (tx l):=by
   unfold WN
   rw [Ag,Ag];rfl
  have ef:Q7 F=jn 47 (WN F (last + 1)):=by unfold Q7;rw [dif_neg hn,hg]
  rw [ef]
  refine Yz (s1:=st) (B:=8) ?_ (wj e) ?_ (fun x hx => ?_) (by decide) ?_
  ·show Rs.ok (PV.str (Str.ofString "/")) st=_
   rw [s47]
  ·rw [← e2];rfl
  ·obtain ⟨k,_,rfl⟩:=AQ.mp hx
   exact z6 (W1 hF)
  ·unfold WN;rw [AB,qr];omega
theorem yZ {F:List qU} {r:Int} (h:F.Pairwise clt):(Wb F r).Pairwise (· < ·):=by
 unfold Wb
 rw [List.pairwise_map]
 refine List.Pairwise.imp_of_mem ?_ (h.filter _)
 intro c d hc hd hcd
 have h1:=CU (B0.mp hc).2
 have h2:=CU (B0.mp hd).2
 unfold clt at hcd
 omega
theorem JQ {cs:List Int} (h:cs.Pairwise (· < ·)) (hn:cs≠[]):∀ c∈cs,c≤cs.getLast hn:=fun c hc=>by
 obtain ⟨i,hi,rfl⟩:=CB.mp hc
 rw [List.getLast_eq_getElem hn]
 by_cases e:i=cs.length - 1
 ·subst e;exact Int.le_refl _
 ·exact Int.le_of_lt (BD.mp h i (cs.length - 1) hi (by omega) (by omega))
def WL (cs:List Int):Int:=if h:cs=[] then 0 else cs.getLast h + 1
theorem qC9 {cs:List Int} {st:qB} (h:cs.Pairwise (· < ·)) (h0:∀ c∈cs,0≤c):zG [.lst ((cs++[-1]).map PV.int)] st = .ok (.int (WL cs - 1)) st:=by
 have hm:(cs++[-1]).max? = some (WL cs - 1):=by
  refine List.max?_eq_some_iff.mpr ?_
  unfold WL
  split
  ·rename_i hn
   subst hn
   exact ⟨by simp,fun b hb=>by simp at hb;omega⟩
  ·rename_i hn
   have hl:=h0 _ (A3 hn)
   refine ⟨Ah.mpr (.inl ?_),fun b hb => ?_⟩
   ·rw [Int.add_sub_cancel];exact A3 hn
   ·rcases Ah.mp hb with z |z
    ·have:=JQ h hn b z;omega
    ·rw [AY.mp z];omega
 unfold zG
 simp only [asL,ZS,hm]
theorem qBk (cs:List Int):(if ((QQ (WL cs)).map (hash cs))=[] then [46] else (QQ (WL cs)).map (hash cs))=wb cs ∨ ∃ c∈cs,c < 0:=by
 by_cases hn:cs=[]
 ·subst hn
  exact .inl rfl
 ·by_cases hl:0≤cs.getLast hn
  ·left
   have e:WL cs=cs.getLast hn + 1:=by unfold WL;rw [dif_neg hn]
   have er:wb cs=(QQ (cs.getLast hn + 1)).map (hash cs):=by unfold wb;rw [dif_neg hn];rfl
   rw [e,er,AH]
   intro z
   have:=B3 List.length z
   rw [AB,qr] at this
   simp at this
   omega
  ·exact .inr ⟨_,A3 hn,by omega⟩
theorem sdh:Str.ofString ".#" = tx [46,35]:=by decide +kernel
def Jt (a:Ad):FS:=(qS (qc 3 (vFz (qp [2] 2 (qx (qC 0)) (wu 2 (qd (qi 1) (qd (qi 2) w8))) [(vTB (qG gEq (qC 1) (qC 0)))] [] (qC 2)))) (qS (qc 4 (qG qt (qE zG (qA (vFz (yL (qC 3) (vFz (wt (qA (zi (vC (.int 1))) qD))))) qD)) (vC (.int 1)))) (qS (qc 5 (vFz (qp [3] 1 (Q1 (qA (qC 4) qD)) (qi 1) [] [] (qG WK (vC (.str ".#")) (qE qCU (qA (qG (gIn false) (qC 1) (qC 0)) qD)))))) (wO (qC 1) (jq (wM (vC (.str "")) (qC 5)) (vC (.str ".")))))))
theorem qIK {f g:FE} {r:qh} {st s1:qB} {l m:List Nat} (h:f r st = .ok (.str (tx l)) s1) (hl:l.length≤1000) (h2:g r s1 = .ok (.str (tx m)) s1):jq f g r st = .ok (.str (tx (if l=[] then m else l))) s1:=by
 unfold jq
 rw [h]
 show (if (tx l).length≤sizeLine then _ else _)=_
 rw [AC (by rw [wo];exact Qg (by omega)),wo]
 cases l with
 |nil=>rw [AH (by simp),AC rfl];exact h2
 |cons x l =>
  have:(((x::l).length:Int) != 0)=true:=by
   rw [bne_iff_ne,AM];omega
  rw [AC this,AH (by simp)]
theorem qFN {a:Ad} {F:List qU} {st:qB} {k:Int} {acc:List (List Nat)} {x3 x4 x5:Option PV} (hF:∀ c∈F,In8 c) (hr:F.Pairwise clt) (hl:F.length≤1000) (ha:acc.length≤900) :
  ∃ y3 y4 y5,Jt a [some (.tup (F.map cP)),some (.ref st.length),some (.int k),x3,x4,x5] (st++[.l (acc.map fun l=>PV.str (tx l))]) = .nx [some (.tup (F.map cP)),some (.ref st.length),some (.int k),y3,y4,y5] (st++[.l ((acc++[wb (Wb F k)]).map fun l=>PV.str (tx l))]):=by
 have hc:=W1 (r:=k) hF
 have hcr:=yZ (r:=k) hr
 generalize hcs:Wb F k=cs at hc hcr
 have hw:0≤WL cs∧WL cs≤8:=by
  unfold WL
  split
  ·decide
  ·rename_i hn
   have:=hc _ (A3 hn)
   omega
 generalize hS:st++[SO.l (acc.map fun l=>PV.str (tx l))]=S
 let G:PV->PV:=fun p=>match p with
  | .int k => .str ⟨#[hash cs k]⟩
  |_=>p
 have e:=QK (caps:=[3]) (n:=1) (fi:=Q1 (qA (qC 4) qD)) (g:=qi 1) (f:=qG WK (vC (.str ".#")) (qE qCU (qA (qG (gIn false) (qC 1) (qC 0)) qD))) (r:=[some (.tup (F.map cP)),some (.ref st.length),some (.int k),some (.lst (cs.map PV.int)),some (.int (WL cs)),x5]) (st:=S) (w:=⟨(QQ (WL cs)).map PV.int,fun _=>True⟩) (F:=G) (itN (by omega) (by omega) rfl) trivial (by rw [AB,qr];exact Qg (by omega)) fun p hp=>by
  obtain ⟨k,hk,rfl⟩:=AQ.mp hp
  refine ⟨[some (.lst (cs.map PV.int)),some (.int k)],rfl,?_⟩
  refine qQ (p := .str (tx [46,35])) (q := .int (if decide (k∈cs)=true then 1 else 0)) (s1:=S) ?_ (qM (qN (qQ rfl rfl qIm) qY) rfl) ?_
  ·show Rs.ok (PV.str (Str.ofString ".#")) S=_
   rw [sdh]
  ·show _=Rs.ok (PV.str ⟨#[hash cs k]⟩) S
   unfold hash
   by_cases hk:k∈cs
   ·rw [AR hk,AC rfl,AC hk];rfl
   ·rw [AO hk,AH Ap,AH hk];rfl
 have e2:((QQ (WL cs)).map PV.int).map G=((QQ (WL cs)).map (hash cs)).map fun c=>PV.str ⟨#[c]⟩:=by
  rw [Ag,Ag];rfl
 have er:(if ((QQ (WL cs)).map (hash cs))=[] then [46] else (QQ (WL cs)).map (hash cs))=wb cs:=by
  rcases qBk cs with h |⟨c,h1,h2⟩
  ·exact h
  ·have:=hc c h1;omega
 refine ⟨some (.lst (cs.map PV.int)),some (.int (WL cs)),some (.lst (((QQ (WL cs)).map PV.int).map G)),?_⟩
 unfold Jt
 have ec:qp [2] 2 (qx (qC 0)) (wu 2 (qd (qi 1) (qd (qi 2) w8))) [vTB (qG gEq (qC 1) (qC 0))] [] (qC 2) [some (.tup (F.map cP)),some (.ref st.length),some (.int k),x3,x4,x5] S = .ok ((Wb F k).map PV.int) S:=Yk (wc rfl) rfl hl
 rw [hcs] at ec
 refine qa (QU (wj ec)) ?_
 have hcl:cs.length≤F.length:=by rw [← hcs];unfold Wb;rw [AB];exact List.length_filter_le _ _
 have em:vFz (yL (qC 3) (vFz (wt (qA (zi (vC (.int 1))) qD)))) [some (.tup (F.map cP)),some (.ref st.length),some (.int k),some (.lst (cs.map PV.int)),x4,x5] S = .ok (.lst ((cs++[-1]).map PV.int)) S:=by
  rw [A2]
  exact wj (qDq (l:=cs.map PV.int) (m:=[PV.int (-1)]) rfl (wj (yb (qN rfl qY) (sz rfl))) rfl rfl (by rw [AB];exact Qg (by show cs.length + 1≤_;omega)))
 refine qa (QU (p := .int (WL cs)) (qQ (qM (qN em qY) (qC9 hcr fun c h=>(hc c h).1)) rfl (by rw [wE,Int.sub_add_cancel]))) ?_
 refine qa (QU (wj e)) ?_
 have ht:jq (wM (vC (.str "")) (qC 5)) (vC (.str ".")) [some (.tup (F.map cP)),some (.ref st.length),some (.int k),some (.lst (cs.map PV.int)),some (.int (WL cs)),some (.lst (((QQ (WL cs)).map PV.int).map G))] S = .ok (.str (tx (wb cs))) S:=by
  rw [← er]
  refine qIK (qBQ (s1:=S) ?_ rfl (by rw [e2];rfl) ?_) ?_ ?_
  ·show Rs.ok (PV.str (Str.ofString "")) S=_
   rw [s0]
  ·rw [AB,qr];omega
  ·rw [AB,qr];omega
  ·show Rs.ok (PV.str (Str.ofString ".")) S=_
   rw [s46]
 have hg:S[st.length]? = some (.l (acc.map fun l=>PV.str (tx l))):=by rw [← hS];simp
 have:=Jg (fo:=qC 1) (n:=st.length) (r:=[some (.tup (F.map cP)),some (.ref st.length),some (.int k),some (.lst (cs.map PV.int)),some (.int (WL cs)),some (.lst (((QQ (WL cs)).map PV.int).map G))]) (st:=S) rfl (by unfold lk;simp only [hg]) ht hg (by rw [AB];exact Ai (by omega:acc.length < 1000) (Qg (by omega)))
 refine this.trans ?_
 rw [← hS]
 show RS.nx _ _=RS.nx _ _
 congr 1
 rw [B8 _ _ (AI _),Nat.sub_self,A2]
 rfl
theorem qBD {a:Ad} {F:List qU} {st:qB} (hF:∀ c∈F,In8 c) (hr:F.Pairwise clt) (hl:F.length≤1000):∀ (ks:List Int) (acc:List (List Nat)) (x2 x3 x4 x5:Option PV),acc.length + ks.length≤900 ->
  ∃ y2 y3 y4 y5,Qh (fun _=>True) (QM 2) (Jt a) (ks.map PV.int) [some (.tup (F.map cP)),some (.ref st.length),x2,x3,x4,x5] (st++[.l (acc.map fun l=>PV.str (tx l))]) = .nx [some (.tup (F.map cP)),some (.ref st.length),y2,y3,y4,y5] (st++[.l ((acc++ks.map fun r=>wb (Wb F r)).map fun l=>PV.str (tx l))])
 |[],acc,x2,x3,x4,x5,_=>⟨x2,x3,x4,x5,by rw [List.map_nil,List.map_nil,A6];exact Qq trivial⟩
 |k::ks,acc,x2,x3,x4,x5,h=>by
  rw [AM] at h
  obtain ⟨y3,y4,y5,e⟩:=qFN (a:=a) (F:=F) (st:=st) (k:=k) (acc:=acc) (x3:=x3) (x4:=x4) (x5:=x5) hF hr hl (by omega)
  obtain ⟨z2,z3,z4,z5,e2⟩:=qBD (a:=a) (st:=st) hF hr hl ks (acc++[wb (Wb F k)]) (some (.int k)) y3 y4 y5 (by rw [Ab];show _ + 1 + _≤_;omega)
  have ea:acc++[wb (Wb F k)]++ks.map (fun r=>wb (Wb F r))=acc++(k::ks).map fun r=>wb (Wb F r):=by rw [Av];rfl
  rw [ea] at e2
  exact ⟨z2,z3,z4,z5,zH trivial rfl e e2⟩
theorem JG {bs:List qU} {st:qB}:gEq (.tup (bs.map cP)) (.tup []) st = .ok (.bl bs.isEmpty) st:=by
 have h1:zT (.tup (bs.map cP)) (.tup [])=true:=by
  show (nrs (bs.map cP)&&true&&decide (deps (bs.map cP) + 1≤Zx))=true
  rw [JO,AR (Aa (Bu (yp bs)) (by decide))];rfl
 show (if zT (.tup (bs.map cP)) (.tup [])=true then Rs.ok (PV.bl (peq (PV.tup (bs.map cP)) (PV.tup []))) st else Rs.no)=_
 rw [AC h1]
 cases bs <;> rfl
theorem j4 {a:Ad} {F:List qU} {st:qB} (hF:∀ c∈F,In8 c) (hr:F.Pairwise clt) (hl:F.length≤1000):∃ g,W0 a [.tup (F.map cP)] st = .ok (.str (tx (Q7 F))) (st++g):=by
 by_cases hn:F=[]
 ·subst hn
  refine ⟨[],qq rfl ?_⟩
  unfold Wy
  rw [A6]
  refine Qt (wV (w6 (qQ (q := .tup []) rfl (Wh qY (sz rfl)) (JG (bs:=[])))) (QI ?_))
  show Rs.ok (PV.str (Str.ofString "-")) st=_
  rw [s45];rfl
 ·have he:F.isEmpty=false:=by cases F with |nil=>exact absurd rfl hn |cons=>rfl
  have hm:F.map cP≠[]:=fun z=>hn (Bb.mp z)
  have h8:=hF _ (A3 hn)
  unfold In8 at h8
  have ef:Q7 F=jn 47 (WN F ((F.getLast hn).1 + 1)):=by unfold Q7;rw [dif_neg hn]
  obtain ⟨y2,y3,y4,y5,e⟩:=qBD (a:=a) (st:=st) hF hr hl (QQ ((F.getLast hn).1 + 1)) [] none none none none (by rw [qr];show 0 + _≤900;omega)
  refine ⟨[.l ((WN F ((F.getLast hn).1 + 1)).map fun l=>PV.str (tx l))],qq rfl ?_⟩
  unfold Wy
  refine qa (Qd (w6 (qQ (q := .tup []) rfl (Wh qY (sz rfl)) (by rw [JG,he]))) rfl) ?_
  refine qa (qEP (yb qY (sz rfl))) ?_
  refine qa (Zg (itN (L:=(F.getLast hn).1 + 1) (by omega) (by omega) (qN (qQ (p := .int (F.getLast hn).1) (qQ (qQ rfl rfl (jQ (l:=F.map cP) (z:=cP (F.getLast hn)) rfl (by rw [show (-(1:Int)) = -1 from rfl,jW hm,YB hn hm]))) rfl (jQ (l:=[.int (F.getLast hn).1,.int (F.getLast hn).2]) rfl rfl)) rfl wE) qY)) e) ?_
  rw [ef]
  refine QI (Yz (s1:=st++[.l ((WN F ((F.getLast hn).1 + 1)).map fun l=>PV.str (tx l))]) (B:=8) ?_ rfl (qHe (by simp)) (fun x hx => ?_) (by decide) ?_)
  ·show Rs.ok (PV.str (Str.ofString "/")) _=_
   rw [s47];rfl
  ·obtain ⟨k,_,rfl⟩:=AQ.mp hx
   exact z6 (W1 hF)
  ·unfold WN;rw [AB,qr];omega
def okP:PV->Bool
 | .tup l=>Nat.ble l.length 1000&&l.all ZJ
 |p=>ZJ p
theorem qB2 {v:PV} (h:okP v=true):ZJ v=true:=by cases v <;> first |rfl |exact h
def okV:PV->Bool
 | .tup l=>Nat.ble l.length 1000&&l.all okP
 |p=>ZJ p
theorem qBt {v:PV} (h:okV v=true):ZJ v=true:=by cases v <;> first |rfl |exact h
def Wr:PV->Bool
 | .tup [x,y]=>wq 0 7 x&&wq 0 7 y
 |_=>false
theorem qFU {a:Ad} {v:PV} {st:qB} (h:okP v=true):Wp a [v] st = .ok (.bl (Wr v)) st:=by
 have e1:=qA7 (a:=a) (st:=st) (qB2 h)
 cases v with
 |tup l =>
  have e1:WJ (kit a) [.tup l,.ty "tuple"] st = .ok (.bl true) st:=e1
  have h:(Nat.ble l.length 1000&&l.all ZJ)=true:=h
  rw [Am,BQ] at h
  have e2:vTB (qG gNe (qE zR (qA (qC 0) qD)) (vC (.int 2))) (QA 1 [.tup l]) st = .ok (!decide ((l.length:Int)=2)) st:=w6 (qQ (qM (l:=[.tup l]) rfl (YO rfl rfl)) rfl qHS)
  by_cases q:(l.length:Int)=2
  ·rw [AR q] at e2
   have e:=QK (caps:=[]) (n:=1) (fi:=qx (qC 0)) (g:=qi 0) (f:=qE (Ql a) (qA (qC 0) (qA (vC (.int 0)) (qA (vC (.int 7)) qD)))) (r:=QA 1 [.tup l]) (st:=st) (w:=⟨l,fun _=>True⟩) (F:=fun p => .bl (wq 0 7 p)) (wc rfl) trivial (sz h.1) fun p hp=>⟨[some p],rfl,qM rfl (qCk (h.2 p hp))⟩
   refine qq rfl (qa (Qd (We (w_not (b:=true) (Qy (qM (l:=[.tup l,.ty "tuple"]) rfl e1))) e2) rfl) (QI (qM (qN (wj e) qY) ?_)))
   rw [YC]
   match l,q with
   |[x,y],_=>show Rs.ok (PV.bl (wq 0 7 x&&(wq 0 7 y&&true))) st=_;rw [CG];rfl
  ·rw [AO q] at e2
   refine (qq rfl (Qt (wV (We (w_not (b:=true) (Qy (qM (l:=[.tup l,.ty "tuple"]) rfl e1))) e2) (QI rfl)))).trans ?_
   have:Wr (.tup l)=false:=by
    unfold Wr
    split
    ·rename_i x y e;cases e;exact absurd rfl q
    ·rfl
   rw [this]
 |_=>first |(cases h;done) |exact qq rfl (Qt (wV (qAM (w_not (b:=false) (Qy (qM (l:=[_,.ty "tuple"]) rfl e1)))) (QI rfl)))
theorem qAy {c:qU} (h:clt c c):False:=by unfold clt at h;omega
theorem qCx {c d:qU} (h:clt c d) (h2:clt d c):False:=by unfold clt at h h2;omega
theorem qC8:∀ {F G:List qU},F.Pairwise clt->G.Pairwise clt->(∀ c,c∈F ↔ c∈G)->F=G
 |[],[],_,_,_=>rfl
 |[],d::G,_,_,h=>(Ae ((h d).mpr AD)).elim
 |c::F,[],_,_,h=>(Ae ((h c).mp AD)).elim
 |c::F,d::G,hF,hG,h=>by
  have hF':=Bg.mp hF
  have hG':=Bg.mp hG
  have e:c=d:=by
   rcases AL.mp ((h c).mp AD) with q |q
   ·exact q
   ·rcases AL.mp ((h d).mpr AD) with z |z
    ·exact z.symm
    ·exact (qCx (hF'.1 d z) (hG'.1 c q)).elim
  subst e
  congr 1
  refine qC8 hF'.2 hG'.2 fun x=>⟨fun hx => ?_,fun hx => ?_⟩
  ·rcases AL.mp ((h x).mp (AG _ hx)) with q |q
   ·subst q;exact (qAy (hF'.1 x hx)).elim
   ·exact q
  ·rcases AL.mp ((h x).mpr (AG _ hx)) with q |q
   ·subst q;exact (qAy (hG'.1 x hx)).elim
   ·exact q
def jJ (c d:qU):Bool:=if c.1=d.1 then decide (c.2 < d.2) else decide (c.1 < d.1)
theorem cltB_iff {c d:qU}:jJ c d=true ↔ clt c d:=by
 unfold jJ clt
 by_cases h:c.1=d.1
 ·rw [AC h,decide_eq_true_iff];omega
 ·rw [AH h,decide_eq_true_iff];omega
theorem qIf {c d:qU} {st:qB}:j6 (cP c) (cP d) st = .ok (.bl (jJ c d)) st:=by
 show (if zT (cP c) (cP d)=true then (match plts [.int c.1,.int c.2] [.int d.1,.int d.2] with |some r=>Rs.ok (PV.bl r) st |none => .no) else .no)=_
 have h0:zT (cP c) (cP d)=true:=rfl
 rw [AC h0]
 have:plts [.int c.1,.int c.2] [.int d.1,.int d.2]=some (jJ c d):=by
  show (if (c.1==d.1)=true then (if (c.2==d.2)=true then some false else some (decide (c.2 < d.2))) else some (decide (c.1 < d.1)))=_
  unfold jJ
  by_cases h:c.1=d.1
  ·rw [AC (A7.mpr h),AC h]
   by_cases h2:c.2=d.2
   ·rw [AC (A7.mpr h2),AO (by omega)]
   ·rw [AH (by rw [A7];exact h2)]
  ·rw [AH (by rw [A7];exact h),AH h]
 rw [this]
def qIG (F:List qU) (p:PV):Bool:=match p with
 | .int k=>jJ (F.getD (k - 1).toNat (0,0)) (F.getD k.toNat (0,0))
 |_=>false
def qAm (F:List qU):Bool:=(zQ 1 (F.length:Int)).all (qIG F)
theorem Zc {F:List qU} {i:Nat} (h:i < F.length):F.getD i (0,0)=F[i]:=by rw [Af,AS h];rfl
theorem qCK {a:Ad} {F:List qU} {st:qB} (h40:F.length≤40):wm a [.tup (F.map cP)] st = .ok (.bl (qAm F)) st:=by
 have e:=QK (caps:=[0]) (n:=1) (fi:=Yc (qA (vC (.int 1)) (qA (qE zR (qA (qC 0) qD)) qD))) (g:=qi 1) (f:=qG j6 (qG gIx (qC 0) (qG zS (qC 1) (vC (.int 1)))) (qG gIx (qC 0) (qC 1))) (r:=QA 1 [.tup (F.map cP)]) (st:=st) (w:=⟨zQ 1 (F.length:Int),fun _=>True⟩) (F:=fun p => .bl (qIG F p)) (itR (by decide) (by decide) (by omega) (by omega) (qN rfl (qN (qM (l:=[.tup (F.map cP)]) rfl (YO rfl (by rw [AB]))) qY))) trivial (by unfold zQ;rw [AB,List.length_range];exact Qg (by omega)) fun p hp=>by
  obtain ⟨i,hi,rfl⟩:=AQ.mp hp
  have hi:=BR.mp hi
  have h0:i < F.length:=by omega
  have h1:i + 1 < F.length:=by omega
  have g1:gIx (.tup (F.map cP)) (.int (1 + (i:Int) - 1)) st = .ok (cP F[i]) st:=by rw [show (1:Int) + (i:Int) - 1=(i:Int) by omega];exact qI6 h0
  have g2:gIx (.tup (F.map cP)) (.int (1 + (i:Int))) st = .ok (cP F[i + 1]) st:=by rw [show (1:Int) + (i:Int)=((i + 1:Nat):Int) by omega];exact qI6 h1
  refine ⟨[some (.tup (F.map cP)),some (.int (1 + (i:Int)))],rfl,(qQ (qQ rfl (qQ rfl rfl qAJ) g1) (qQ rfl rfl g2) qIf).trans ?_⟩
  show _=Rs.ok (PV.bl (jJ (F.getD (1 + (i:Int) - 1).toNat (0,0)) (F.getD (1 + (i:Int)).toNat (0,0)))) st
  rw [show (1 + (i:Int) - 1).toNat=i by omega,show (1 + (i:Int)).toNat=i + 1 by omega,Zc h0,Zc h1]
 exact qq rfl (QI (qM (qN (wj e) qY) YC))
theorem qHQ {a b c:qU} (h:clt a b) (h2:clt b c):clt a c:=by unfold clt at *;omega
theorem risB_iff {F:List qU}:qAm F=true ↔ F.Pairwise clt:=by
 have key:qAm F=true ↔ ∀ i,(h:i + 1 < F.length)->clt F[i] F[i + 1]:=by
  unfold qAm
  rw [BQ]
  constructor
  ·intro h i hi
   have:=h (.int (1 + (i:Int))) (AQ.mpr ⟨i,BR.mpr (by omega),rfl⟩)
   have this:jJ (F.getD (1 + (i:Int) - 1).toNat (0,0)) (F.getD (1 + (i:Int)).toNat (0,0))=true:=this
   rw [show (1 + (i:Int) - 1).toNat=i by omega,show (1 + (i:Int)).toNat=i + 1 by omega,Zc (by omega),Zc hi] at this
   exact cltB_iff.mp this
  ·intro h p hp
   obtain ⟨i,hi,rfl⟩:=AQ.mp hp
   have hi:=BR.mp hi
   have h1:i + 1 < F.length:=by omega
   show jJ (F.getD (1 + (i:Int) - 1).toNat (0,0)) (F.getD (1 + (i:Int)).toNat (0,0))=true
   rw [show (1 + (i:Int) - 1).toNat=i by omega,show (1 + (i:Int)).toNat=i + 1 by omega,Zc (by omega),Zc h1]
   exact cltB_iff.mpr (h i h1)
 rw [key,BD]
 constructor
 ·intro h i j hi hj hij
  obtain ⟨k,rfl⟩:∃ k,j=i + 1 + k:=⟨j - i - 1,by omega⟩
  induction k with
  |zero=>exact h i hj
  |succ k ih=>exact qHQ (ih (by omega) (by omega)) (h (i + 1 + k) hj)
 ·intro h i hi
  exact h i (i + 1) (by omega) hi (by omega)
theorem qEr {p:PV} (h:Wr p=true):p=cP (unC p)∧In8 (unC p):=by
 unfold Wr at h
 split at h
 ·rename_i x y
  rw [Am] at h
  obtain ⟨i,rfl,i1,i2⟩:=yE h.1
  obtain ⟨j,rfl,j1,j2⟩:=yE h.2
  exact ⟨rfl,i1,i2,j1,j2⟩
 ·cases h
def qGj:PV->Bool
 | .tup l=>decide (l.length≤40)&&(l.all Wr&&qAm (l.map unC))
 |_=>false
theorem Jp {l:List PV} (h:l.all Wr=true):l=(l.map unC).map cP:=by
 rw [Ag]
 refine (CS l).symm.trans (A0 fun p hp => ?_)
 exact (qEr (BQ.mp h p hp)).1
theorem qDS {a:Ad} {v:PV} {st:qB} (hv:okV v=true):Wv a [v] st = .ok (.bl (qGj v)) st:=by
 have e1:=qA7 (a:=a) (st:=st) (qBt hv)
 cases v with
 |tup l =>
  have e1:WJ (kit a) [.tup l,.ty "tuple"] st = .ok (.bl true) st:=e1
  have hv:(Nat.ble l.length 1000&&l.all okP)=true:=hv
  rw [Am,BQ] at hv
  have eg:vTB (qG gGt (qE zR (qA (qC 0) qD)) (vC (.int 40))) (QA 1 [.tup l]) st = .ok (decide ((l.length:Int) > 40)) st:=w6 (qQ (qM (l:=[.tup l]) rfl (YO (n:=(l.length:Int)) rfl rfl)) rfl qGs)
  show _=Rs.ok (PV.bl (decide (l.length≤40)&&(l.all Wr&&qAm (l.map unC)))) st
  by_cases q:l.length≤40
  ·rw [AO (by omega)] at eg
   rw [AR q,Bool.true_and]
   have e:=QK (caps:=[]) (n:=1) (fi:=qx (qC 0)) (g:=qi 0) (f:=qE (Wp a) (qA (qC 0) qD)) (r:=QA 1 [.tup l]) (st:=st) (w:=⟨l,fun _=>True⟩) (F:=fun p => .bl (Wr p)) (wc rfl) trivial (sz hv.1) fun p hp=>⟨[some p],rfl,qM (l:=[p]) rfl (qFU (hv.2 p hp))⟩
   have eb:qE yv (qA (vFz (qp [] 1 (qx (qC 0)) (qi 0) [] [] (qE (Wp a) (qA (qC 0) qD)))) qD) (QA 1 [.tup l]) st = .ok (.bl (l.all Wr)) st:=qM (qN (wj e) qY) YC
   refine qq rfl (qa (Qd (We (w_not (b:=true) (Qy (qM (l:=[.tup l,.ty "tuple"]) rfl e1))) eg) rfl) (QI ?_))
   cases hc:l.all Wr with
   |false=>rw [hc] at eb;exact qDz eb
   |true =>
    rw [hc] at eb
    rw [Bool.true_and]
    have er:=qCK (a:=a) (F:=l.map unC) (st:=st) (by rw [AB];exact q)
    rw [← Jp hc] at er
    exact yo eb (qM (l:=[.tup l]) rfl er)
  ·rw [AR (by omega)] at eg
   rw [AO q]
   exact qq rfl (Qt (wV (We (w_not (b:=true) (Qy (qM (l:=[.tup l,.ty "tuple"]) rfl e1))) eg) (QI rfl)))
 |_=>first |(cases hv;done) |exact qq rfl (Qt (wV (qAM (w_not (b:=false) (Qy (qM (l:=[_,.ty "tuple"]) rfl e1)))) (QI rfl)))
def rd1 (k:Int):Nat->List Nat->List qU
 |_,[]=>[]
 |i,x::l=>(if x=35 then [(k,(i:Int))] else [])++rd1 k (i + 1) l
def rdA:Nat->List (List Nat)->List qU
 |_,[]=>[]
 |k,r::rs=>rd1 (k:Int) 0 r++rdA (k + 1) rs
theorem mem_rd1 {k:Int} {x:qU}:∀ {row:List Nat} {i:Nat},x∈rd1 k i row ↔ x.1=k ∧ ∃ j,row[j]? = some 35∧x.2=((i + j:Nat):Int)
 |[],i=>by
  constructor
  ·intro h;cases h
  ·rintro ⟨_,j,h,_⟩;simp at h
 |y::l,i=>by
  show x∈(if y=35 then [(k,(i:Int))] else [])++rd1 k (i + 1) l ↔ _
  rw [Ah,mem_rd1 (row:=l) (i:=i + 1)]
  constructor
  ·rintro (h |⟨h1,j,h2,h3⟩)
   ·split at h
    ·rename_i hy
     rw [AY.mp h]
     exact ⟨rfl,0,by rw [hy];rfl,rfl⟩
    ·cases h
   ·exact ⟨h1,j + 1,by simpa using h2,by rw [h3];congr 1;omega⟩
  ·rintro ⟨h1,j,h2,h3⟩
   cases j with
   |zero =>
    left
    have hy:y=35:=by simpa using h2
    rw [AC hy,AY]
    exact Prod.ext h1 h3
   |succ j =>
    right
    exact ⟨h1,j,by simpa using h2,by rw [h3];congr 1;omega⟩
theorem mem_rdA {x:qU}:∀ {rs:List (List Nat)} {k:Nat},x∈rdA k rs ↔ ∃ j row,rs[j]? = some row∧x∈rd1 ((k + j:Nat):Int) 0 row
 |[],k=>by
  constructor
  ·intro h;cases h
  ·rintro ⟨j,row,h,_⟩;simp at h
 |r::rs,k=>by
  show x∈rd1 (k:Int) 0 r++rdA (k + 1) rs ↔ _
  rw [Ah,mem_rdA (rs:=rs) (k:=k + 1)]
  constructor
  ·rintro (h |⟨j,row,h1,h2⟩)
   ·exact ⟨0,r,rfl,h⟩
   ·exact ⟨j + 1,row,by simpa using h1,by rw [show k + (j + 1)=k + 1 + j by omega];exact h2⟩
  ·rintro ⟨j,row,h1,h2⟩
   cases j with
   |zero=>left;cases h1;exact h2
   |succ j=>right;exact ⟨j,row,by simpa using h1,by rw [show k + 1 + j=k + (j + 1) by omega];exact h2⟩
theorem qA5 {k:Int}:∀ (row:List Nat) (i:Nat),(rd1 k i row).Pairwise clt
 |[],i=>List.Pairwise.nil
 |y::l,i=>by
  show ((if y=35 then [(k,(i:Int))] else [])++rd1 k (i + 1) l).Pairwise clt
  refine List.pairwise_append.mpr ⟨?_,qA5 l (i + 1),fun a ha b hb => ?_⟩
  ·split
   ·exact List.pairwise_singleton _ _
   ·exact List.Pairwise.nil
  ·split at ha
   ·rw [AY.mp ha]
    obtain ⟨h1,j,h2,h3⟩:=mem_rd1.mp hb
    exact .inr ⟨h1.symm,by rw [h3];show (i:Int) < _;omega⟩
   ·cases ha
theorem qA1:∀ (rs:List (List Nat)) (k:Nat),(rdA k rs).Pairwise clt
 |[],k=>List.Pairwise.nil
 |r::rs,k=>by
  show (rd1 (k:Int) 0 r++rdA (k + 1) rs).Pairwise clt
  refine List.pairwise_append.mpr ⟨qA5 r 0,qA1 rs (k + 1),fun a ha b hb => ?_⟩
  obtain ⟨h1,_⟩:=mem_rd1.mp ha
  obtain ⟨j,row,_,h2⟩:=mem_rdA.mp hb
  obtain ⟨h3,_⟩:=mem_rd1.mp h2
  exact .inl (by omega)
theorem qA4 {cs:List Int} (h:cs.Pairwise (· < ·)) (h0:∀ c∈cs,0≤c) (j:Nat):(wb cs)[j]? = some 35 ↔ (j:Int)∈cs:=by
 by_cases hn:cs=[]
 ·subst hn
  constructor
  ·intro z
   have z:([46]:List Nat)[j]? = some 35:=z
   cases j with
   |zero=>cases z
   |succ j=>simp at z
  ·intro z;cases z
 ·have hl:=h0 _ (A3 hn)
  have er:wb cs=(QQ (cs.getLast hn + 1)).map (hash cs):=by unfold wb;rw [dif_neg hn];rfl
  have eu:(QQ (cs.getLast hn + 1))[j]? = if (j:Int) < cs.getLast hn + 1 then some (j:Int) else none:=by
   unfold QQ
   rw [Ac]
   by_cases hj:j < (cs.getLast hn + 1).toNat
   ·rw [CL hj,AC (by omega)];rfl
   ·rw [List.getElem?_eq_none (by simpa using hj),AH (by omega)];rfl
  rw [er,Ac,eu]
  constructor
  ·intro z
   split at z
   ·have z:hash cs (j:Int)=35:=AW z
    unfold hash at z
    by_cases hj:(j:Int)∈cs
    ·exact hj
    ·rw [AH hj] at z;cases z
   ·cases z
  ·intro z
   have:=JQ h hn _ z
   rw [AC (by omega)]
   show some (hash cs (j:Int))=some 35
   unfold hash
   rw [AC z]
theorem last_row {F:List qU} (h:F.Pairwise clt) (hn:F≠[]):∀ c∈F,c.1≤(F.getLast hn).1:=fun c hc=>by
 obtain ⟨i,hi,rfl⟩:=CB.mp hc
 rw [List.getLast_eq_getElem hn]
 by_cases e:i=F.length - 1
 ·subst e;exact Int.le_refl _
 ·have:=BD.mp h i (F.length - 1) hi (by omega) (by omega)
  unfold clt at this
  omega
theorem qB1 {F:List qU} (hF:∀ c∈F,In8 c) (h:F.Pairwise clt) (hn:F≠[]):rdA 0 (WN F ((F.getLast hn).1 + 1))=F:=by
 refine qC8 (qA1 _ _) h fun x => ?_
 rw [mem_rdA]
 have hlast:=hF _ (A3 hn)
 unfold In8 at hlast
 constructor
 ·rintro ⟨j,row,h1,h2⟩
  unfold WN QQ at h1
  rw [Ac,Ac] at h1
  by_cases hj:j < ((F.getLast hn).1 + 1).toNat
  ·rw [CL hj] at h1
   have h1:wb (Wb F (j:Int))=row:=AW h1
   subst h1
   obtain ⟨h3,i,h4,h5⟩:=mem_rd1.mp h2
   have h6:=(qA4 (yZ h) (fun c hc=>(W1 hF c hc).1) i).mp h4
   have h7:=cols_mem.mp h6
   have:x=((j:Int),(i:Int)):=Prod.ext (by rw [h3];congr 1;omega) (by rw [h5];congr 1;omega)
   rw [this];exact h7
  ·rw [List.getElem?_eq_none (by simpa using hj)] at h1;cases h1
 ·intro hx
  have h8:=hF x hx
  unfold In8 at h8
  have hl:=last_row h hn x hx
  have hj:x.1.toNat < ((F.getLast hn).1 + 1).toNat:=by omega
  refine ⟨x.1.toNat,wb (Wb F x.1),?_,mem_rd1.mpr ⟨by rw [Nat.zero_add];exact (BO h8.1).symm,x.2.toNat,(qA4 (yZ h) (fun c hc=>(W1 hF c hc).1) _).mpr ?_,by rw [Nat.zero_add];exact (BO h8.2.2.1).symm⟩⟩
  ·unfold WN QQ
   rw [Ac,Ac,CL hj]
   show some (wb (Wb F ((x.1.toNat:Nat):Int)))=_
   rw [BO h8.1]
  ·rw [BO h8.2.2.1]
   exact cols_mem.mpr hx
def wp (F:List qU):List (List Nat):=if h:F=[] then [[45]] else WN F ((F.getLast h).1 + 1)
theorem Ja (F:List qU):Q7 F=jn 47 (wp F):=by
 unfold Q7 wp
 split <;> rfl
theorem qDp {F:List qU} (hF:∀ c∈F,In8 c) (h:F.Pairwise clt):rdA 0 (wp F)=F:=by
 unfold wp
 split
 ·rename_i hn;rw [hn];rfl
 ·rename_i hn;exact qB1 hF h hn
theorem qCJ {F:List qU} (hF:∀ c∈F,In8 c):(∀ row∈wp F,row.length≤8 ∧ ∀ x∈row,x=35∨x=46∨x=45)∧1≤(wp F).length∧(wp F).length≤8:=by
 unfold wp
 split
 ·exact ⟨fun row hr=>by rw [AY.mp hr];exact ⟨by decide,fun x hx => .inr (.inr (AY.mp hx))⟩,by decide,by decide⟩
 ·rename_i hn
  have hlast:=hF _ (A3 hn)
  unfold In8 at hlast
  refine ⟨fun row hr => ?_,?_,?_⟩
  ·obtain ⟨k,_,rfl⟩:=AQ.mp hr
   exact ⟨z6 (W1 hF),fun x hx=>(qEd hx).elim .inl fun z => .inr (.inl z)⟩
  ·unfold WN;rw [AB,qr];omega
  ·unfold WN;rw [AB,qr];omega
theorem qHZ {x:Nat} {st:qB}:gEq (.str ⟨#[x]⟩) (.str (Str.ofString "#")) st = .ok (.bl (decide (x=35))) st:=by
 rw [s35]
 have:=qF1 (l:=[x]) (m:=[35]) (st:=st)
 refine this.trans ?_
 congr 2
 by_cases h:x=35
 ·rw [h];rfl
 ·rw [AO h,AO (fun z=>h (BZ z).1)]
theorem Zo {fi:FI} {k:Int} {q:PV} {st:qB}:∀ (row:List Nat) (i:Nat),qf (fun _=>True) (QH ⟨fi,wu 2 (qd (qi 2) (qd (qi 3) w8)),[vTB (qG gEq (qC 3) (vC (.str "#")))]⟩ (QW [] (Qr (qA (qC 0) (qA (qC 2) qD)))) [some (.int k),some q,none,none]) (zP i (row.map fun c=>PV.str ⟨#[c]⟩)) st = .ok ((rd1 k i row).map cP) st
 |[],i=>zA trivial
 |x::row,i=>by
  have ih:=Zo (fi:=fi) (k:=k) (q:=q) (st:=st) row (i + 1)
  show qf _ _ (.tup [.int (i:Int),.str ⟨#[x]⟩]::zP (i + 1) (row.map fun c=>PV.str ⟨#[c]⟩)) st = .ok (((if x=35 then [(k,(i:Int))] else [])++rd1 k (i + 1) row).map cP) st
  rw [A2]
  have ht:vTB (qG gEq (qC 3) (vC (.str "#"))) [some (.int k),some q,some (.int (i:Int)),some (.str ⟨#[x]⟩)] st = .ok (decide (x=35)) st:=w6 (qQ rfl rfl qHZ)
  refine Z5 trivial ?_ ih
  by_cases hx:x=35
  ·rw [AR hx] at ht
   rw [AC hx]
   exact j5 rfl ht (Wh (qN rfl (qN rfl qY)) (sz rfl))
  ·rw [AO hx] at ht
   rw [AH hx]
   exact j3 rfl ht
theorem qFM {fi:FI} {g:FG} {rest:FL} {r r':qh} {st:qB} {p:PV} {R:Rs (List PV)} (h:g p r=some r') (h2:rest r' st=R):QH ⟨fi,g,[]⟩ rest r p st=R:=by
 unfold QH;show (match g p r with |none=>_ |some r'=>_)=_;rw [h];exact h2
theorem Zr {Gd:qB->Prop} {fi:FI} {st:qB} (hG:Gd st):∀ (rs:List (List Nat)) (k:Nat),(∀ row∈rs,∀ x∈row,x < 128)->qf Gd (QH ⟨fi,wu 2 (qd (qi 0) (qd (qi 1) w8)),[]⟩ (QW [⟨(Ze (qA (qC 1) qD)),(wu 2 (qd (qi 2) (qd (qi 3) w8))),[(vTB (qG gEq (qC 3) (vC (.str "#"))))]⟩] (Qr (qA (qC 0) (qA (qC 2) qD)))) [none,none,none,none]) (zP k (rs.map fun l=>PV.str (tx l))) st = .ok ((rdA k rs).map cP) st
 |[],k,_=>zA hG
 |row::rs,k,h=>by
  have ih:=Zr (fi:=fi) (st:=st) hG rs (k + 1) fun r hr=>h r (AG _ hr)
  show qf _ _ (.tup [.int (k:Int),.str (tx row)]::zP (k + 1) (rs.map fun l=>PV.str (tx l))) st = .ok ((rd1 (k:Int) 0 row++rdA (k + 1) rs).map cP) st
  rw [A2]
  refine Z5 hG (qFM (r':=[some (.int (k:Int)),some (.str (tx row)),none,none]) rfl ?_) ih
  have hi:(Ze (qA (qC 1) qD)) [some (.int (k:Int)),some (.str (tx row)),none,none] st = .ok ⟨zP 0 (row.map fun c=>PV.str ⟨#[c]⟩),fun _=>True⟩ st:=by
   unfold Ze
   show Z9 [.str (tx row)] st=_
   unfold Z9
   dsimp only
   rw [AC (by
    unfold tx
    rw [Array.all_eq_true']
    intro x hx
    exact AR (h row AD x (by simpa using hx)))]
   rfl
  show ((Ze (qA (qC 1) qD)) [some (.int (k:Int)),some (.str (tx row)),none,none] st).bind _=_
  rw [hi]
  exact Zo row 0
theorem qHR {f:FA} {r:qh} {st s1:qB} {l:List PV} (h:f r st = .ok [.lst l] s1):JI f r st = .ok ⟨zP 0 l,fun s=>w5 s (.lst l)=some l⟩ s1:=by unfold JI;rw [h];rfl
theorem qAE {a:Ad} {F:List qU} {st:qB} (hF:∀ c∈F,In8 c) (h:F.Pairwise clt) (hl:F.length≤40):Wv a [.tup (F.map cP)] st = .ok (.bl true) st:=by
 rw [qDS (show okV (.tup (F.map cP))=true by
  show (Nat.ble (F.map cP).length 1000&&(F.map cP).all okP)=true
  rw [Am]
  refine ⟨Nat.ble_eq_true_of_le (by rw [AB];omega),BQ.mpr fun p hp => ?_⟩
  obtain ⟨c,_,rfl⟩:=AQ.mp hp
  rfl)]
 show Rs.ok (PV.bl (decide ((F.map cP).length≤40)&&((F.map cP).all Wr&&qAm ((F.map cP).map unC)))) st=_
 have e:(F.map cP).map unC=F:=by rw [Ag];exact (A0 fun c _=>qIu c).trans (CS F)
 rw [e,risB_iff.mpr h,AR (by rw [AB];exact hl),show (F.map cP).all Wr=true from BQ.mpr fun p hp=>by
  obtain ⟨c,hc,rfl⟩:=AQ.mp hp
  have:=hF c hc
  unfold In8 at this
  show (wq 0 7 (.int c.1)&&wq 0 7 (.int c.2))=true
  rw [yn,yn,AR this.1,AR this.2.1,AR this.2.2.1,AR this.2.2.2];rfl]
 rfl
theorem qCq {l:List Nat} {st:qB}:gNe (.str (tx l)) (.str (tx l)) st = .ok (.bl false) st:=by
 have:gNe (.str (tx l)) (.str (tx l)) st = .ok (.bl (!(tx l==tx l))) st:=rfl
 rw [this,Az];rfl
theorem YN {a:Ad} {F:List qU} {st:qB} (hF:∀ c∈F,In8 c) (h:F.Pairwise clt) (hl:F.length≤40):w4 a [.str (tx (Q7 F))] st = .ok (.tup (F.map cP)) st:=by
 obtain ⟨hr,hr1,hr8⟩:=qCJ hF
 refine qq rfl ?_
 unfold W6
 refine qa (Qd (w_not (b:=true) (Qy (qM (l:=[.str (tx (Q7 F)),.ty "str"]) rfl rfl))) rfl) ?_
 have es:zp (qC 0) (vC (.str "/")) (QA 3 [.str (tx (Q7 F))]) st = .ok ((wp F).map fun l=>PV.str (tx l)) st:=by
  refine qBY (s1:=st) (c:=47) (B:=8) ?_ ?_ ?_ ?_ ?_ ?_
  ·show Rs.ok (PV.str (tx (Q7 F))) st=_
   rw [Ja]
  ·show Rs.ok (PV.str (Str.ofString "/")) st=_
   rw [s47]
  ·intro z;rw [z] at hr1;simp at hr1
  ·intro x hx z
   have:=(hr x hx).2 _ z
   omega
  ·exact fun x hx=>(hr x hx).1
  ·omega
 refine qa (QU (wj es)) ?_
 have eo:=Zr (Gd:=fun s=>w5 s (.lst ((wp F).map fun l=>PV.str (tx l)))=some ((wp F).map fun l=>PV.str (tx l))) (fi:=JI (qA (qC 1) qD)) (st:=st) rfl (wp F) 0 fun row hrow x hx=>by have:=(hr row hrow).2 x hx;omega
 rw [qDp hF h] at eo
 refine qa (QU (p := .tup (F.map cP)) (qM (qN (wj (qD9 (qHR rfl) eo (by rw [AB];exact Qg (by omega)))) qY) (zN rfl))) ?_
 refine qa (Qd (We (w_not (b:=true) (Qy (qM (l:=[.tup (F.map cP)]) rfl (qAE hF h hl)))) (w6 (qQ (qM (l:=[.tup (F.map cP)]) rfl (zV hF (by omega))) rfl qCq))) rfl) (QI rfl)
theorem qIr {bs:List Bar} {i:Nat} {st:qB} (h:i < bs.length):gIx (.tup (bs.map bP)) (.int (i:Int)) st = .ok (bP bs[i]) st:=by
 refine jQ rfl ?_
 unfold L2.atI
 rw [qBA (by omega) (by rw [AB];omega),Option.bind_some,BA,Ac,AS h]
 rfl
def yg (b c:Bar):Bool:=if b.1=c.1 then (if b.2.1=c.2.1 then decide (b.2.2 < c.2.2) else decide (b.2.1 < c.2.1)) else decide (b.1 < c.1)
theorem qJj {c d:Bar} {st:qB}:j6 (bP c) (bP d) st = .ok (.bl (yg c d)) st:=by
 show (if zT (bP c) (bP d)=true then (match plts [.int c.1,.int c.2.1,.int c.2.2] [.int d.1,.int d.2.1,.int d.2.2] with |some r=>Rs.ok (PV.bl r) st |none => .no) else .no)=_
 have h0:zT (bP c) (bP d)=true:=rfl
 rw [AC h0]
 have:plts [.int c.1,.int c.2.1,.int c.2.2] [.int d.1,.int d.2.1,.int d.2.2]=some (yg c d):=by
  show (if (c.1==d.1)=true then (if (c.2.1==d.2.1)=true then (if (c.2.2==d.2.2)=true then some false else some (decide (c.2.2 < d.2.2))) else some (decide (c.2.1 < d.2.1))) else some (decide (c.1 < d.1)))=_
  unfold yg
  by_cases h:c.1=d.1
  ·rw [AC (A7.mpr h),AC h]
   by_cases h2:c.2.1=d.2.1
   ·rw [AC (A7.mpr h2),AC h2]
    by_cases h3:c.2.2=d.2.2
    ·rw [AC (A7.mpr h3),AO (by omega)]
    ·rw [AH (by rw [A7];exact h3)]
   ·rw [AH (by rw [A7];exact h2),AH h2]
  ·rw [AH (by rw [A7];exact h),AH h]
 rw [this]
def Jf:List Bar->Bool
 |[]=>true
 |[_]=>true
 |b::c::l=>yg b c&&Jf (c::l)
theorem yf:∀ {bs:List Bar},Jf bs=true ↔ ∀ i,(h:i + 1 < bs.length)->yg bs[i] bs[i + 1]=true
 |[]=>⟨fun _ i h=>by simp at h,fun _=>rfl⟩
 |[_]=>⟨fun _ i h=>by simp at h,fun _=>rfl⟩
 |b::c::l=>by
  rw [Jf,Am,yf (bs:=c::l)]
  constructor
  ·rintro ⟨h1,h2⟩ i hi
   cases i with
   |zero=>exact h1
   |succ i=>exact h2 i (by simpa using hi)
  ·intro h
   exact ⟨h 0 (by simp),fun i hi=>h (i + 1) (by simpa using hi)⟩
def adj (F:List Bar) (p:PV):Bool:=match p with
 | .int k=>yg (F.getD (k - 1).toNat (0,0,0)) (F.getD k.toNat (0,0,0))
 |_=>false
theorem ZZ {F:List Bar} {i:Nat} (h:i < F.length):F.getD i (0,0,0)=F[i]:=by rw [Af,AS h];rfl
theorem qCo {a:Ad} {F:List Bar} {st:qB} (h40:F.length≤900):wm a [.tup (F.map bP)] st = .ok (.bl (Jf F)) st:=by
 have e:=QK (caps:=[0]) (n:=1) (fi:=Yc (qA (vC (.int 1)) (qA (qE zR (qA (qC 0) qD)) qD))) (g:=qi 1) (f:=qG j6 (qG gIx (qC 0) (qG zS (qC 1) (vC (.int 1)))) (qG gIx (qC 0) (qC 1))) (r:=QA 1 [.tup (F.map bP)]) (st:=st) (w:=⟨zQ 1 (F.length:Int),fun _=>True⟩) (F:=fun p => .bl (adj F p)) (itR (by decide) (by decide) (by omega) (by omega) (qN rfl (qN (qM (l:=[.tup (F.map bP)]) rfl (YO rfl (by rw [AB]))) qY))) trivial (by unfold zQ;rw [AB,List.length_range];exact Qg (by omega)) fun p hp=>by
  obtain ⟨i,hi,rfl⟩:=AQ.mp hp
  have hi:=BR.mp hi
  have h0:i < F.length:=by omega
  have h1:i + 1 < F.length:=by omega
  have g1:gIx (.tup (F.map bP)) (.int (1 + (i:Int) - 1)) st = .ok (bP F[i]) st:=by rw [show (1:Int) + (i:Int) - 1=(i:Int) by omega];exact qIr h0
  have g2:gIx (.tup (F.map bP)) (.int (1 + (i:Int))) st = .ok (bP F[i + 1]) st:=by rw [show (1:Int) + (i:Int)=((i + 1:Nat):Int) by omega];exact qIr h1
  refine ⟨[some (.tup (F.map bP)),some (.int (1 + (i:Int)))],rfl,(qQ (qQ rfl (qQ rfl rfl qAJ) g1) (qQ rfl rfl g2) qJj).trans ?_⟩
  show _=Rs.ok (PV.bl (yg (F.getD (1 + (i:Int) - 1).toNat (0,0,0)) (F.getD (1 + (i:Int)).toNat (0,0,0)))) st
  rw [show (1 + (i:Int) - 1).toNat=i by omega,show (1 + (i:Int)).toNat=i + 1 by omega,ZZ h0,ZZ h1]
 have key:(zQ 1 (F.length:Int)).all (adj F)=Jf F:=by
  rw [Bool.eq_iff_iff,yf,BQ]
  constructor
  ·intro h i hi
   have:=h (.int (1 + (i:Int))) (AQ.mpr ⟨i,BR.mpr (by omega),rfl⟩)
   have this:yg (F.getD (1 + (i:Int) - 1).toNat (0,0,0)) (F.getD (1 + (i:Int)).toNat (0,0,0))=true:=this
   rw [show (1 + (i:Int) - 1).toNat=i by omega,show (1 + (i:Int)).toNat=i + 1 by omega,ZZ (by omega),ZZ hi] at this
   exact this
  ·intro h p hp
   obtain ⟨i,hi,rfl⟩:=AQ.mp hp
   have hi:=BR.mp hi
   have h1:i + 1 < F.length:=by omega
   show yg (F.getD (1 + (i:Int) - 1).toNat (0,0,0)) (F.getD (1 + (i:Int)).toNat (0,0,0))=true
   rw [show (1 + (i:Int) - 1).toNat=i by omega,show (1 + (i:Int)).toNat=i + 1 by omega,ZZ (by omega),ZZ h1]
   exact h i h1
 rw [← key]
 exact qq rfl (QI (qM (qN (wj e) qY) YC))
theorem Zf (l:List Bar):(Wd l).Perm l:=by
 unfold Wd
 have h:=(Qs (l.map bL)).map lB
 rw [Ag] at h
 have e:l.map (lB ∘ bL)=l:=(A0 fun b _=>rfl).trans (CS l)
 rw [e] at h
 exact h
theorem qBX (l:List Bar):(Wd l).map bL=srt (l.map bL):=by
 unfold Wd
 rw [Ag]
 refine (A0 fun x hx => ?_).trans (CS _)
 obtain ⟨c,_,rfl⟩:=AQ.mp ((Qs _).mem_iff.mp hx)
 rfl
theorem qH1 {b c:Bar} (h:lxb (bL c) (bL b)=false) (hne:b≠c):yg b c=true:=by
 obtain ⟨b1,b2,b3⟩:=b
 obtain ⟨c1,c2,c3⟩:=c
 have h:(if c1 < b1 then true else if b1 < c1 then false else if c2 < b2 then true else if b2 < c2 then false else if c3 < b3 then true else if b3 < c3 then false else false)=false:=h
 unfold yg
 dsimp only
 by_cases e1:b1=c1
 ·subst e1
  rw [AH (CH _),AH (CH _)] at h
  rw [AC rfl]
  by_cases e2:b2=c2
  ·subst e2
   rw [AH (CH _),AH (CH _)] at h
   rw [AC rfl]
   by_cases e3:c3 < b3
   ·rw [AC e3] at h;cases h
   ·have:b3≠c3:=fun z=>hne (by rw [z])
    exact AR (by omega)
  ·rw [AH e2]
   by_cases e3:c2 < b2
   ·rw [AC e3] at h;cases h
   ·exact AR (by omega)
 ·rw [AH e1]
  by_cases e3:c1 < b1
  ·rw [AC e3] at h;cases h
  ·exact AR (by omega)
theorem qDM {l:List Bar} (h:l.Nodup):Jf (Wd l)=true:=by
 rw [yf]
 intro i hi
 have hn:(Wd l).Nodup:=(Zf l).nodup_iff.mpr h
 have hp:=Jn (l.map bL)
 rw [← qBX,List.pairwise_map] at hp
 refine qH1 (BD.mp hp i (i + 1) (by omega) hi (by omega)) ?_
 exact BD.mp hn i (i + 1) (by omega) hi (by omega)
def wd (b:Bar):List Nat:=[(48 + b.1).toNat,(48 + b.2.1).toNat,if b.2.2=0 then 97 else 100]
def Q5 (bs:List Bar):List Nat:=if bs=[] then [110,111,110,101] else jn 32 (bs.map wd)
theorem qDv:Str.ofString "none" = tx [110,111,110,101]:=by decide +kernel
theorem s32:Str.ofString " " = ⟨#[32]⟩:=by decide +kernel
theorem sad:Str.ofString "ad" = tx [97,100]:=by decide +kernel
theorem qH6:Str.ofString "01234567" = tx [48,49,50,51,52,53,54,55]:=by decide +kernel
theorem Y7 {i:Int} (h0:0≤i) (h1:i≤7):∃ k:Fin 8,i=(k.val:Int):=⟨⟨i.toNat,by omega⟩,by show i=((i.toNat:Nat):Int);omega⟩
theorem qEf:∀ k:Fin 8,qIl (k.val:Int)=tx [(48 + (k.val:Int)).toNat]:=by decide +kernel
theorem qEq:∀ k:Fin 8,Str.ofString (toString (k.val:Int))=tx [(48 + (k.val:Int)).toNat]:=by decide +kernel
theorem qAv:∀ k:Fin 8,(k.val:Int).natAbs.log2 < 1920:=by decide +kernel
theorem qFa:∀ k:Fin 8,qAS ⟨#[(48 + (k.val:Int)).toNat]⟩ (tx [48,49,50,51,52,53,54,55])=true:=by decide +kernel
theorem qEe:∀ k:Fin 8,jc (tx [48,49,50,51,52,53,54,55]) ⟨#[(48 + (k.val:Int)).toNat]⟩=some k.val:=by decide +kernel
theorem qA2:qAS ⟨#[97]⟩ (tx [97,100])=true∧qAS ⟨#[100]⟩ (tx [97,100])=true:=by decide +kernel
theorem qBC:jc (tx [97,100]) ⟨#[97]⟩=some 0∧jc (tx [97,100]) ⟨#[100]⟩=some 1:=by decide +kernel
theorem qGH {i:Int} {f:FE} {r:qh} {st s1:qB} (h0:0≤i) (h1:i≤7) (h:f r st = .ok (.int i) s1):qAp f r st = .ok (.str (tx [(48 + i).toNat])) s1:=by
 obtain ⟨k,rfl⟩:=Y7 h0 h1
 unfold qAp
 rw [h]
 show (if (k.val:Int).natAbs.log2 < 1920 then _ else _)=_
 rw [AC (qAv k),qEf k]
theorem qGE {i:Int} {st:qB} (h0:0≤i) (h1:i≤7):qAH [.int i] st = .ok (.str (tx [(48 + i).toNat])) st:=by
 obtain ⟨k,rfl⟩:=Y7 h0 h1
 show (if (k.val:Int).natAbs.log2 < 1920 then _ else _)=_
 rw [AC (qAv k),qEq k]
theorem qF3 {w:Int} {st:qB} (h:w=0∨w=1):WK (.str (Str.ofString "ad")) (.int w) st = .ok (.str (tx [if w=0 then 97 else 100])) st:=by
 rw [sad]
 rcases h with rfl |rfl <;> rfl
theorem qHI {f:FE} {r:qh} {st s1:qB} {l:List Nat} (h:f r st = .ok (.str (tx l)) s1) (hl:l.length≤1000):JV f r st = .ok (.str (tx l)) s1:=by
 unfold JV
 rw [h]
 show (if (tx l).length≤sizeLine then _ else _)=_
 rw [AC (by rw [wo];exact Qg (by omega))]
theorem qHE {f:FE} {fs:List FE} {r:qh} {st s1:qB} {l m:List Nat} {R:Rs PV} (h:f r st = .ok (.str (tx m)) s1) (hl:l.length + m.length≤1000) (h2:vJ fs (tx (l++m)) r s1=R):vJ (f::fs) (tx l) r st=R:=by
 unfold vJ
 rw [h]
 show (if (tx l++tx m).length≤sizeLine then _ else _)=_
 rw [ZX,AC (by rw [wo,Ab];exact Qg (by omega))]
 exact h2
theorem qDh {r:qh} {st:qB} {l:List Nat} (hl:l.length≤1000):vJ [] (tx l) r st = .ok (.str (tx l)) st:=by
 unfold vJ
 rw [AC (by rw [wo];exact Qg (by omega))]
theorem qDC {l m:List Nat} {st:qB} (hl:l.length + m.length≤1000):Jw (.str (tx l)) (.str (tx m)) st = .ok (.str (tx (l++m))) st:=by
 show (if (tx l).length + (tx m).length≤sizeLine then _ else _)=_
 rw [AC (by rw [wo,wo];exact Qg (by omega)),ZX]
theorem YK {a:Ad} {bs:List Bar} {st:qB} (hl:bs.length≤1000):Wz a [.lst (bs.map fun b=>PV.str (tx (wd b)))] st = .ok (.str (tx (Q5 bs))) st:=by
 refine qq rfl (QI ?_)
 unfold Q5
 cases bs with
 |nil =>
  refine qBg (s1:=st) rfl ?_
  show Rs.ok (PV.str (Str.ofString "none")) st=_
  rw [qDv,AC rfl]
 |cons b bs =>
  rw [AH (by simp)]
  refine qAw (s1:=st) rfl (Yz (s1:=st) (B:=3) ?_ rfl (by show some _=some _;rw [Ag];rfl) (fun x hx => ?_) (by decide) (by rw [AB];exact hl))
  ·show Rs.ok (PV.str (Str.ofString " ")) st=_
   rw [s32]
  ·obtain ⟨c,_,rfl⟩:=AQ.mp hx
   exact AI _
theorem jU {a:Ad} {bs:List Bar} {st:qB} (hb:∀ b∈bs,OKB b) (hl:bs.length≤1000):WW a [.tup (bs.map bP)] st = .ok (.str (tx (Q5 bs))) st:=by
 have e:=QK (caps:=[]) (n:=3) (fi:=qx (qC 0)) (g:=wu 3 (qd (qi 0) (qd (qi 1) (qd (qi 2) w8)))) (f:=vJ [(qAp (qC 0)),(qAp (qC 1)),(JV (qG WK (vC (.str "ad")) (qC 2)))] Str.empty) (r:=QA 1 [.tup (bs.map bP)]) (st:=st) (w:=⟨bs.map bP,fun _=>True⟩) (F:=fun p => .str (tx (wd (unB p)))) (wc rfl) trivial (by rw [AB];exact Qg (by omega)) fun p hp=>by
  obtain ⟨b,hbb,rfl⟩:=AQ.mp hp
  have h:=hb b hbb
  refine ⟨[some (.int b.1),some (.int b.2.1),some (.int b.2.2)],rfl,?_⟩
  refine qHE (l:=[]) (qGH h.1 h.2.1 rfl) (A5 rfl) (qHE (qGH h.2.2.1 h.2.2.2.1 rfl) (A5 rfl) (qHE (qHI (qQ rfl rfl (qF3 h.2.2.2.2)) (A5 rfl)) (A5 rfl) ?_))
  exact qDh (l:=wd b) (A5 rfl)
 rw [Ag] at e
 exact qq rfl (QI (qM (qN (wj e) qY) (YK hl)))
theorem ZY {a:Ad} {bs:List Bar} {st:qB} (hb:∀ b∈bs,OKB b) (hl:bs.length≤1000):Q6 a [.tup (bs.map bP)] st = .ok (.str (tx (Q5 bs))) st:=by
 have e:=QK (caps:=[]) (n:=3) (fi:=qx (qC 0)) (g:=wu 3 (qd (qi 0) (qd (qi 1) (qd (qi 2) w8)))) (f:=qG Jw (qG Jw (qE qAH (qA (qC 0) qD)) (qE qAH (qA (qC 1) qD))) (qG WK (vC (.str "ad")) (qC 2))) (r:=QA 2 [.tup (bs.map bP)]) (st:=st) (w:=⟨bs.map bP,fun _=>True⟩) (F:=fun p => .str (tx (wd (unB p)))) (wc rfl) trivial (by rw [AB];exact Qg (by omega)) fun p hp=>by
  obtain ⟨b,hbb,rfl⟩:=AQ.mp hp
  have h:=hb b hbb
  exact ⟨[some (.int b.1),some (.int b.2.1),some (.int b.2.2)],rfl,qQ (qQ (qM (l:=[.int b.1]) rfl (qGE h.1 h.2.1)) (qM (l:=[.int b.2.1]) rfl (qGE h.2.2.1 h.2.2.2.1)) (qDC (A5 rfl))) (qQ rfl rfl (qF3 h.2.2.2.2)) (qDC (A5 rfl))⟩
 rw [Ag] at e
 refine qq rfl (qa (QU (wj e)) (QI ?_))
 have ej:wM (vC (.str " ")) (qC 1) ((QA 2 [.tup (bs.map bP)]).set 1 (some (.lst (bs.map fun b=>PV.str (tx (wd b)))))) st = .ok (.str (tx (jn 32 (bs.map wd)))) st:=by
  refine Yz (s1:=st) (B:=3) ?_ rfl (by show some _=some _;rw [Ag];rfl) (fun x hx => ?_) (by decide) (by rw [AB];exact hl)
  ·show Rs.ok (PV.str (Str.ofString " ")) st=_
   rw [s32]
  ·obtain ⟨c,_,rfl⟩:=AQ.mp hx
   exact AI _
 have hj:(jn 32 (bs.map wd)).length≤4 * bs.length:=by
  have:=qAL 32 (B:=3) (ls:=bs.map wd) fun x hx=>by obtain ⟨c,_,rfl⟩:=AQ.mp hx;exact AI _
  rwa [AB] at this
 have hw:∀ (l m:List Nat),(jn 32 (bs.map wd)=[] ↔ bs=[]):=fun _ _=>by
  constructor
  ·intro z
   match bs,z with
   |[],_=>rfl
   |[b],z=>cases z
   |b::c::l,z=>cases z
  ·intro z;rw [z];rfl
 unfold jq
 refine (B3 (fun q:Rs PV=>q.bind _) ej).trans ?_
 show (if (tx (jn 32 (bs.map wd))).length≤sizeLine then _ else _)=_
 rw [AC (by rw [wo];exact Qg (by omega)),wo]
 unfold Q5
 by_cases hn:bs=[]
 ·subst hn
  rw [AC rfl]
  show Rs.ok (PV.str (Str.ofString "none")) st=_
  rw [qDv]
 ·rw [AH hn]
  have h0:(((jn 32 (bs.map wd)).length:Int) != 0)=true:=by
   rw [bne_iff_ne]
   intro z
   exact hn ((hw [] []).mp (List.length_eq_zero_iff.mp (by omega)))
  rw [AC h0]
theorem ix0 {x y z:Nat} {st:qB}:WK (.str (tx [x,y,z])) (.int 0) st = .ok (.str ⟨#[x]⟩) st:=rfl
theorem ix1 {x y z:Nat} {st:qB}:WK (.str (tx [x,y,z])) (.int 1) st = .ok (.str ⟨#[y]⟩) st:=rfl
theorem ix2 {x y z:Nat} {st:qB}:WK (.str (tx [x,y,z])) (.int 2) st = .ok (.str ⟨#[z]⟩) st:=rfl
theorem jx0 {x y:Nat} {st:qB}:WK (.str (tx [x,y])) (.int 0) st = .ok (.str ⟨#[x]⟩) st:=rfl
theorem jx1 {x y:Nat} {st:qB}:WK (.str (tx [x,y])) (.int 1) st = .ok (.str ⟨#[y]⟩) st:=rfl
theorem qJc {x y z:Nat}:YI (tx [x,y,z]) none (some 2)=tx [x,y]:=by
 have e:Builtin.Str.strSliceIndices none (some 2) 1 3=[0,1]:=by decide +kernel
 unfold YI
 rw [show (tx [x,y,z]).length=3 from rfl,e]
 rfl
theorem qF2 {i:Int} {st:qB} (h0:0≤i) (h1:i≤7):qAD false (.str ⟨#[(48 + i).toNat]⟩) (.str (Str.ofString "01234567")) st = .ok (.bl true) st:=by
 obtain ⟨k,rfl⟩:=Y7 h0 h1
 show Rs.ok (PV.bl (qAS _ _)) st=_
 rw [qH6,qFa k]
theorem yw {a:Ad} {b:Bar} {st:qB} (h:OKB b):wg a [.str (tx (wd b))] st = .ok (.bl true) st:=by
 have hp:ww a [.str (tx [(48 + b.1).toNat,(48 + b.2.1).toNat])] st = .ok (.bl true) st :=
  qq rfl (QI (yo (qQ (p := .int 2) (qM (l:=[.str (tx [(48 + b.1).toNat,(48 + b.2.1).toNat])]) rfl rfl) rfl rfl) (yo (qQ (qQ rfl rfl jx0) rfl (qF2 h.1 h.2.1)) (qQ (qQ rfl rfl jx1) rfl (qF2 h.2.2.1 h.2.2.2.1)))))
 refine qq rfl (QI (yo (qQ (p := .int 3) (qM (l:=[.str (tx (wd b))]) rfl rfl) rfl rfl) (yo (qM (l:=[.str (tx [(48 + b.1).toNat,(48 + b.2.1).toNat])]) (qN ?_ qY) hp) (qQ (qQ rfl rfl ix2) rfl ?_))))
 ·show (if (YI (tx (wd b)) none (some 2)).length≤sizeLine then Rs.ok (PV.str (YI (tx (wd b)) none (some 2))) st else .no)=_
  unfold wd
  rw [qJc,AC (by rw [wo];exact sz rfl)]
 ·show Rs.ok (PV.bl (qAS _ (Str.ofString "ad"))) st=_
  rw [sad]
  rcases h.2.2.2.2 with z |z
  ·rw [AC z,qA2.1]
  ·rw [AH (by omega),qA2.2]
theorem qDn {fo f:FE} {r:qh} {st s1 s2:qB} {z y:Str} {j:Nat} (h:fo r st = .ok (.str z) s1) (h2:f r s1 = .ok (.str y) s2) (h3:jc z y=some j):yz fo f r st = .ok (.int (j:Int)) s2:=by
 unfold yz
 rw [h]
 show (f r s1).bind _=_
 rw [h2]
 show (match jc z y with |some j=>_ |none=>_)=_
 rw [h3]
theorem qIY {i:Int} {f:FE} {r:qh} {st s1:qB} (h0:0≤i) (h1:i≤7) (h:f r st = .ok (.str ⟨#[(48 + i).toNat]⟩) s1):yz (vC (.str "01234567")) f r st = .ok (.int i) s1:=by
 obtain ⟨k,rfl⟩:=Y7 h0 h1
 refine qDn (s1:=st) (z:=tx [48,49,50,51,52,53,54,55]) ?_ h (qEe k)
 show Rs.ok (PV.str (Str.ofString "01234567")) st=_
 rw [qH6]
theorem qCQ {a:Ad} {b:Bar} {st:qB} (h:OKB b):zD a [.str (tx (wd b))] st = .ok (bP b) st:=by
 have hp:zh a [.str (tx (wd b))] st = .ok (.tup [.int b.1,.int b.2.1]) st :=
  qq rfl (QI (Wh (qN (qIY h.1 h.2.1 (qQ rfl rfl ix0)) (qN (qIY h.2.2.1 h.2.2.2.1 (qQ rfl rfl ix1)) qY)) (sz rfl)))
 refine qq rfl (QI (qQ (qM (l:=[.str (tx (wd b))]) rfl hp) (Wh (l:=[.int b.2.2]) (qN ?_ qY) (sz rfl)) rfl))
 rcases h.2.2.2.2 with z |z
 ·have:=qDn (fo:=vC (.str "ad")) (f:=qG WK (qC 0) (vC (.int 2))) (r:=QA 1 [.str (tx (wd b))]) (st:=st) (s1:=st) (s2:=st) (z:=tx [97,100]) (y:=⟨#[97]⟩) (j:=0) (by show Rs.ok (PV.str (Str.ofString "ad")) st=_;rw [sad]) (qQ rfl rfl (by unfold wd;rw [AC z];rfl)) qBC.1
  rw [this,z];rfl
 ·have:=qDn (fo:=vC (.str "ad")) (f:=qG WK (qC 0) (vC (.int 2))) (r:=QA 1 [.str (tx (wd b))]) (st:=st) (s1:=st) (s2:=st) (z:=tx [97,100]) (y:=⟨#[100]⟩) (j:=1) (by show Rs.ok (PV.str (Str.ofString "ad")) st=_;rw [sad]) (qQ rfl rfl (by unfold wd;rw [AH (by omega)];rfl)) qBC.2
  rw [this,z];rfl
theorem Y1 {a:Ad} {bs:List Bar} {st:qB} (hb:∀ b∈bs,OKB b) (hr:Jf bs=true) (hl:bs.length≤900):WX a [.str (tx (Q5 bs))] st = .ok (.tup (bs.map bP)) st:=by
 refine qq rfl ?_
 unfold zL
 refine qa (Qd (w_not (b:=true) (Qy (qM (l:=[.str (tx (Q5 bs)),.ty "str"]) rfl rfl))) rfl) ?_
 have hq:vTB (qG gEq (qC 0) (vC (.str "none"))) (QA 3 [.str (tx (Q5 bs))]) st = .ok (decide (Q5 bs=[110,111,110,101])) st:=by
  refine w6 (qQ (q := .str (tx [110,111,110,101])) rfl ?_ qF1)
  show Rs.ok (PV.str (Str.ofString "none")) st=_
  rw [qDv]
 by_cases hn:bs=[]
 ·subst hn
  exact Qt (wV hq (QI (Wh qY (sz rfl))))
 ·have hne:¬ Q5 bs=[110,111,110,101]:=fun z=>by
   unfold Q5 at z
   rw [AH hn] at z
   have hfirst:∃ x t,jn 32 (bs.map wd)=x::t∧x≤55:=by
    match bs,hn,hb with
    |[b],_,hb =>
     have:=hb b AD
     unfold OKB at this
     exact ⟨_,_,rfl,by omega⟩
    |b::c::l,_,hb =>
     have:=hb b AD
     unfold OKB at this
     exact ⟨_,_,rfl,by omega⟩
   obtain ⟨x,t,e,hx⟩:=hfirst
   rw [e] at z
   have:=(BZ z).1
   omega
  rw [AO hne] at hq
  refine qa (Qd hq rfl) ?_
  have et:Q5 bs=jn 32 (bs.map wd):=by unfold Q5;rw [AH hn]
  have es:zp (qC 0) (vC (.str " ")) (QA 3 [.str (tx (Q5 bs))]) st = .ok ((bs.map wd).map fun l=>PV.str (tx l)) st:=by
   refine qBY (s1:=st) (c:=32) (B:=3) ?_ ?_ ?_ ?_ ?_ ?_
   ·show Rs.ok (PV.str (tx (Q5 bs))) st=_
    rw [et]
   ·show Rs.ok (PV.str (Str.ofString " ")) st=_
    rw [s32]
   ·intro z;exact hn (Bb.mp z)
   ·intro x hx z
    obtain ⟨b,hbb,rfl⟩:=AQ.mp hx
    have h:=hb b hbb
    unfold OKB at h
    unfold wd at z
    simp only [AL,Ae,Bt] at z
    rcases z with z |z |z
    ·omega
    ·omega
    ·split at z <;> omega
   ·intro x hx
    obtain ⟨b,_,rfl⟩:=AQ.mp hx
    exact AI _
   ·rw [AB];omega
  refine qa (QU (wj es)) ?_
  have ea:=QK (caps:=[]) (n:=1) (fi:=qx (qC 1)) (g:=qi 0) (f:=qE (wg a) (qA (qC 0) qD)) (r:=(QA 3 [.str (tx (Q5 bs))]).set 1 (some (.lst ((bs.map wd).map fun l=>PV.str (tx l))))) (st:=st) (w:=⟨(bs.map wd).map fun l=>PV.str (tx l),fun _=>True⟩) (F:=fun _ => .bl true) (wX rfl) trivial (by rw [AB,AB];exact Qg (by omega)) fun p hp=>by
   obtain ⟨l,hl,rfl⟩:=AQ.mp hp
   obtain ⟨b,hbb,rfl⟩:=AQ.mp hl
   exact ⟨[some (.str (tx (wd b)))],rfl,qM (l:=[.str (tx (wd b))]) rfl (yw (hb b hbb))⟩
  have eall:yv [.lst (((bs.map wd).map fun l=>PV.str (tx l)).map fun _=>PV.bl true)] st = .ok (.bl true) st:=by
   have:=YC (f:=fun _=>true) (l:=(bs.map wd).map fun l=>PV.str (tx l)) (st:=st)
   refine this.trans ?_
   congr 2
   exact BQ.mpr fun _ _=>rfl
  refine qa (Qd (w_not (b:=true) (Qy (qM (qN (wj ea) qY) eall))) rfl) ?_
  let G:PV->PV:=fun p=>match p with
   | .str x => .tup [.int ((x.cps.getD 0 0:Int) - 48),.int ((x.cps.getD 1 0:Int) - 48),.int (if x.cps.getD 2 0=97 then 0 else 1)]
   |_=>p
  have eG:∀ b,OKB b->G (.str (tx (wd b)))=bP b:=fun b h=>by
   unfold OKB at h
   have h1:((48 + b.1).toNat:Int) - 48=b.1:=by omega
   have h2:((48 + b.2.1).toNat:Int) - 48=b.2.1:=by omega
   obtain ⟨x,y,w⟩:=b
   rcases h.2.2.2.2 with z |z
   ·have z:w=0:=z
    subst z
    show PV.tup [.int (((48 + x).toNat:Int) - 48),.int (((48 + y).toNat:Int) - 48),.int 0]=PV.tup [.int x,.int y,.int 0]
    rw [h1,h2]
   ·have z:w=1:=z
    subst z
    show PV.tup [.int (((48 + x).toNat:Int) - 48),.int (((48 + y).toNat:Int) - 48),.int 1]=PV.tup [.int x,.int y,.int 1]
    rw [h1,h2]
  have eb:=QK (caps:=[]) (n:=1) (fi:=qx (qC 1)) (g:=qi 0) (f:=qE (zD a) (qA (qC 0) qD)) (r:=(QA 3 [.str (tx (Q5 bs))]).set 1 (some (.lst ((bs.map wd).map fun l=>PV.str (tx l))))) (st:=st) (w:=⟨(bs.map wd).map fun l=>PV.str (tx l),fun _=>True⟩) (F:=G) (wX rfl) trivial (by rw [AB,AB];exact Qg (by omega)) fun p hp=>by
   obtain ⟨l,hl,rfl⟩:=AQ.mp hp
   obtain ⟨b,hbb,rfl⟩:=AQ.mp hl
   refine ⟨[some (.str (tx (wd b)))],rfl,qM (l:=[.str (tx (wd b))]) rfl ?_⟩
   rw [eG b (hb b hbb)]
   exact qCQ (hb b hbb)
  have eb2:((bs.map wd).map fun l=>PV.str (tx l)).map G=bs.map bP:=by
   rw [Ag,Ag]
   exact A0 fun b hbb=>eG b (hb b hbb)
  have eb3:vFz (qp [] 1 (qx (qC 1)) (qi 0) [] [] (qE (zD a) (qA (qC 0) qD))) ((QA 3 [.str (tx (Q5 bs))]).set 1 (some (.lst ((bs.map wd).map fun l=>PV.str (tx l))))) st = .ok (.lst (bs.map bP)) st:=by
   rw [← eb2];exact wj eb
  refine qa (QU (qM (qN eb3 qY) (zN rfl))) ?_
  exact qa (Qd (w_not (b:=true) (Qy (qM (l:=[.tup (bs.map bP)]) rfl ((qCo hl).trans (by rw [hr]))))) rfl) (QI rfl)
def bK (b:Bar):List L2.Key:=(bL b).map Sum.inl
def dk (bs:List Bar):List (List L2.Key×PV):=bs.map fun b=>(bK b,.bl true)
theorem qHr {b c:Bar} (h:bK b=bK c):b=c:=by
 unfold bK bL at h
 simp only [AK,List.map_nil,List.cons.injEq,Sum.inl.injEq,and_true] at h
 exact Prod.ext h.1 (Prod.ext h.2.1 h.2.2)
theorem qGn {bs:List Bar} {b:Bar}:jk (dk bs) (bK b) (.bl true)=dk (if b∈bs then bs else bs++[b]):=by
 unfold jk
 have e:((dk bs).any fun kv=>decide (kv.1=bK b))=decide (b∈bs):=by
  by_cases h:b∈bs
  ·rw [AR h,List.any_eq_true]
   exact ⟨(bK b,.bl true),AQ.mpr ⟨b,h,rfl⟩,AR rfl⟩
  ·rw [AO h,Bool.eq_false_iff]
   intro z
   obtain ⟨kv,h1,h2⟩:=List.any_eq_true.mp z
   obtain ⟨c,hc,rfl⟩:=AQ.mp h1
   exact h (by rw [← qHr (BI h2)];exact hc)
 rw [e]
 by_cases h:b∈bs
 ·rw [AR h,AC rfl,AC h]
  refine (A0 fun kv hkv => ?_).trans (CS _)
  obtain ⟨c,hc,rfl⟩:=AQ.mp hkv
  show (if bK c=bK b then (bK c,PV.bl true) else (bK c,PV.bl true))=_
  split <;> rfl
 ·rw [AO h,AH Ap,AH h]
  unfold dk
  rw [A2];rfl
theorem qEv {bs:List Bar} {S:qB} {n:Nat} (h:S[n]? = some (.d (dk bs))) (hl:bs.length≤63):yT (.ref n) S = .ok (.lst ((Wd bs).map bP)) S:=by
 have ek:QC Wo ((dk bs).map fun kv=>yJ kv.1)=some (bs.map bL):=by
  have:((dk bs).map fun kv=>yJ kv.1)=bs.map bP:=by
   unfold dk
   rw [Ag];rfl
  rw [this,qAi]
 have es:(srt (bs.map bL)).map zC=(Wd bs).map bP:=by
  rw [← qBX,Ag];rfl
 unfold yT
 dsimp only
 rw [h]
 dsimp only
 rw [ek]
 dsimp only
 rw [AC (by rw [AB];omega),es]
def jS (a:Ad):FS:=(yh (qC 6) (Qr (qA (qE (qO a) (qA (qC 2) (qA (vC (.int 8)) qD))) (qA (qE (qO a) (qA (qC 2) (qA (vC (.int 8)) qD))) (qA (qE (qO a) (qA (qC 2) (qA (vC (.int 2)) qD))) qD)))) (vC (.bl true)))
theorem qBj {a:Ad} {st j:qB} {x0 x1 x3 x4 x5 x8 x9 x10:Option PV}:∀ (ks:List PV) (x:Int) (bs:List Bar) (x7:Option PV),bs.Nodup->(∀ b∈bs,OKB b)->bs.length + ks.length≤60 ->
  ∃ (y:Int) (bs':List Bar) (y7:Option PV),bs'.Nodup∧(∀ b∈bs',OKB b)∧bs'.length≤bs.length + ks.length∧Qh (fun _=>True) (QM 7) (jS a) ks [x0,x1,some (.ref st.length),x3,x4,x5,some (.ref (st.length + 1 + j.length)),x7,x8,x9,x10] (st ++ .l [.int x]::(j++[.d (dk bs)])) = .nx [x0,x1,some (.ref st.length),x3,x4,x5,some (.ref (st.length + 1 + j.length)),y7,x8,x9,x10] (st ++ .l [.int y]::(j++[.d (dk bs')]))
 |[],x,bs,x7,h1,h2,_=>⟨x,bs,x7,h1,h2,AI _,Qq trivial⟩
 |k::ks,x,bs,x7,h1,h2,hl=>by
  rw [AM] at hl
  have t1:=QN (a:=a) (st:=st) (j:=j++[.d (dk bs)]) (x:=x) (m:=8) ⟨by decide,by decide⟩
  have t2:=QN (a:=a) (st:=st) (j:=j++[.d (dk bs)]) (x:=x / 8) (m:=8) ⟨by decide,by decide⟩
  have t3:=QN (a:=a) (st:=st) (j:=j++[.d (dk bs)]) (x:=x / 8 / 8) (m:=2) ⟨by decide,by decide⟩
  have i1:=wC (x:=x) (m:=8) (by decide)
  have i2:=wC (x:=x / 8) (m:=8) (by decide)
  have i3:=wC (x:=x / 8 / 8) (m:=2) (by decide)
  generalize x % 8=p at t1 i1
  generalize x / 8 % 8=q at t2 i2
  generalize x / 8 / 8 % 2=w at t3 i3
  generalize x / 8 / 8 / 2=z at t3
  have hb:OKB (p,q,w):=⟨i1.1,by show p≤7;omega,i2.1,by show q≤7;omega,by show w=0∨w=1;omega⟩
  have e:jS a [x0,x1,some (.ref st.length),x3,x4,x5,some (.ref (st.length + 1 + j.length)),some k,x8,x9,x10] (st ++ .l [.int x]::(j++[.d (dk bs)])) = .nx [x0,x1,some (.ref st.length),x3,x4,x5,some (.ref (st.length + 1 + j.length)),some k,x8,x9,x10] (st ++ .l [.int z]::(j++[.d (dk (if (p,q,w)∈bs then bs else bs++[(p,q,w)]))])):=by
   have eb:(Qr (qA (qE (qO a) (qA (qC 2) (qA (vC (.int 8)) qD))) (qA (qE (qO a) (qA (qC 2) (qA (vC (.int 8)) qD))) (qA (qE (qO a) (qA (qC 2) (qA (vC (.int 2)) qD))) qD)))) [x0,x1,some (.ref st.length),x3,x4,x5,some (.ref (st.length + 1 + j.length)),some k,x8,x9,x10] (st ++ .l [.int x]::(j++[.d (dk bs)])) = .ok (bP (p,q,w)) (st ++ .l [.int z]::(j++[.d (dk bs)])):=Yv (qM (l:=[.ref st.length,.int 8]) rfl t1) (qM (l:=[.ref st.length,.int 8]) rfl t2) (qM (l:=[.ref st.length,.int 2]) rfl t3)
   unfold jS
   have ed:=qHF (k:=bK (p,q,w)) (n:=st.length + 1 + j.length) (p := .bl true) (f:=vC (.bl true)) (fb:=qC 6) (s1:=st ++ .l [.int x]::(j++[.d (dk bs)])) (s2:=st ++ .l [.int x]::(j++[.d (dk bs)])) rfl rfl eb rfl ZE (by unfold dk;rw [AB];exact Ai (by omega:bs.length < 1000) (Qg (by omega)))
   rw [qBe,qGn] at ed
   exact ed
  have hn:(if (p,q,w)∈bs then bs else bs++[(p,q,w)]).Nodup:=by
   split
   ·exact h1
   ·rename_i hm
    refine Bn.mpr ⟨h1,BK.mpr ⟨Ae,Bc⟩,fun u hu v hv e => ?_⟩
    rw [AY.mp hv] at e
    exact hm (e ▸ hu)
  have ho:∀ b∈(if (p,q,w)∈bs then bs else bs++[(p,q,w)]),OKB b:=by
   split
   ·exact h2
   ·intro b hb'
    rcases Ah.mp hb' with u |u
    ·exact h2 b u
    ·rw [AY.mp u];exact hb
  have hlen:(if (p,q,w)∈bs then bs else bs++[(p,q,w)]).length≤bs.length + 1:=by
   split
   ·omega
   ·rw [Ab];exact AI _
  obtain ⟨y,bs',y7,g1,g2,g3,g4⟩:=qBj (a:=a) (st:=st) (j:=j) (x0:=x0) (x1:=x1) (x3:=x3) (x4:=x4) (x5:=x5) (x8:=x8) (x9:=x9) (x10:=x10) ks z _ (some k) hn ho (by omega)
  exact ⟨y,bs',y7,g1,g2,by rw [AM];omega,zH trivial rfl e g4⟩
def FOK (F:List qU):Prop:=(∀ c∈F,In8 c)∧F.Pairwise clt∧F.length≤40
theorem FOK.cut {F:List qU} (h:FOK F) (a b:Nat):FOK ((F.drop a).take b) :=
 ⟨fun c hc=>h.1 c (List.mem_of_mem_drop (List.mem_of_mem_take hc)),(h.2.1.sublist (List.drop_sublist _ _)).sublist (List.take_sublist _ _),by rw [B9,List.length_drop];have:=h.2.2;omega⟩
theorem Jh {cs:List qU} (h:cs.Nodup):(Qf cs).Pairwise clt:=by
 have h1:=Jn (cs.map cL)
 have hn:(srt (cs.map cL)).Nodup:=(Qs _).nodup_iff.mpr (List.Pairwise.map _ (fun a b hab z=>hab (by rw [← Yd a,z,Yd])) h)
 unfold Qf
 rw [List.pairwise_map]
 refine List.Pairwise.imp_of_mem ?_ (h1.and hn)
 intro x y hx hy hxy
 obtain ⟨c,_,rfl⟩:=AQ.mp ((Qs _).mem_iff.mp hx)
 obtain ⟨d,_,rfl⟩:=AQ.mp ((Qs _).mem_iff.mp hy)
 rw [Yd,Yd]
 have h2:=hxy.1
 have h3:=hxy.2
 rw [qIX] at h2
 have h2:=of_decide_eq_false h2
 have h3:c≠d:=fun z=>h3 (by rw [z])
 unfold clt at h2 ⊢
 have:¬ (c.1=d.1∧c.2=d.2):=fun z=>h3 (Prod.ext z.1 z.2)
 omega
theorem qBK {p:PV} {st:qB} (hr:res st p=p) (h1:zT p p=true) (h2:peq p p=true):gNe p p st = .ok (.bl false) st:=by
 unfold gNe
 rw [hr,AC h1,h2];rfl
theorem qDJ:∀ bs:List Bar,peqs (bs.map bP) (bs.map bP)=true
 |[]=>rfl
 |b::bs=>by
  rw [AK]
  unfold peqs
  rw [qDJ bs,CG]
  show ((b.1==b.1)&&((b.2.1==b.2.1)&&((b.2.2==b.2.2)&&true)))=true
  simp
theorem qDU {F:List qU} {st:qB}:gNe (.tup (F.map cP)) (.tup (F.map cP)) st = .ok (.bl false) st:=by
 refine qBK rfl ?_ ?_
 ·show (nrs (F.map cP)&&nrs (F.map cP)&&decide (deps (F.map cP) + 1≤Zx))=true
  rw [JO,AR (Aa (Bu (yp F)) (by decide))];rfl
 ·show peqs (F.map cP) (F.map cP)=true
  rw [qC4];exact AR rfl
theorem qFl {F:List Bar} {st:qB}:gNe (.tup (F.map bP)) (.tup (F.map bP)) st = .ok (.bl false) st:=by
 refine qBK rfl ?_ (qDJ F)
 show (nrs (F.map bP)&&nrs (F.map bP)&&decide (deps (F.map bP) + 1≤Zx))=true
 rw [qD3,AR (Aa (Bu (J4 F)) (by decide))];rfl
def qDw (a:Ad):FS:=(qS (qc 9 (qE (wJ a) (qA (qC 8) qD))) (Q4 (Wi (wQ (QE (qE (WJ (kit a)) (qA (qC 9) (qA (vC (.ty "str")) qD))))) (Wi (vTB (qG gNe (qC 9) (qE (W0 a) (qA (qC 8) qD)))) (vTB (qG gNe (qE (w4 a) (qA (qC 9) qD)) (qC 8))))) (qo (vC (.bl false))) QY))
theorem JT {a:Ad} {x0 x1 x2 x3 x4 x5 x6 x7 x10:Option PV}:∀ (Fs:List (List qU)) (x8 x9:Option PV) (S:qB),(∀ F∈Fs,FOK F) ->
  ∃ y8 y9 g,Qh (fun _=>True) (QM 8) (qDw a) (Fs.map fun F => .tup (F.map cP)) [x0,x1,x2,x3,x4,x5,x6,x7,x8,x9,x10] S = .nx [x0,x1,x2,x3,x4,x5,x6,x7,y8,y9,x10] (S++g)
 |[],x8,x9,S,_=>⟨x8,x9,[],by rw [A6];exact Qq trivial⟩
 |F::Fs,x8,x9,S,h=>by
  obtain ⟨hF,hr,hl⟩:=h F AD
  obtain ⟨g,e⟩:=j4 (a:=a) (st:=S) hF hr (by omega)
  obtain ⟨y8,y9,g2,e2⟩:=JT (a:=a) (x0:=x0) (x1:=x1) (x2:=x2) (x3:=x3) (x4:=x4) (x5:=x5) (x6:=x6) (x7:=x7) (x10:=x10) Fs (some (.tup (F.map cP))) (some (.str (tx (Q7 F)))) (S++g) fun G hG=>h G (AG _ hG)
  refine ⟨y8,y9,g++g2,?_⟩
  rw [← Av]
  refine zH trivial rfl (qa (QU (qM (l:=[.tup (F.map cP)]) rfl (zV hF (by omega)))) (Qd (We (w_not (b:=true) (Qy (qM (l:=[.str (tx (Q7 F)),.ty "str"]) rfl rfl))) (We (w6 (qQ rfl (qM (l:=[.tup (F.map cP)]) rfl e) qCq)) (w6 (qQ (qM (l:=[.str (tx (Q7 F))]) rfl (YN hF hr hl)) rfl qDU)))) rfl)) e2
def qEI (a:Ad):FS:=(qS (qc 9 (qE (WW a) (qA (qC 10) qD))) (Q4 (Wi (wQ (QE (qE (WJ (kit a)) (qA (qC 9) (qA (vC (.ty "str")) qD))))) (Wi (vTB (qG gNe (qC 9) (qE (Q6 a) (qA (qC 10) qD)))) (vTB (qG gNe (qE (WX a) (qA (qC 9) qD)) (qC 10))))) (qo (vC (.bl false))) QY))
def BOK (bs:List Bar):Prop:=(∀ b∈bs,OKB b)∧Jf bs=true∧bs.length≤100
theorem jh {a:Ad} {x0 x1 x2 x3 x4 x5 x6 x7 x8:Option PV} {S:qB}:∀ (Bs:List (List Bar)) (x9 x10:Option PV),(∀ F∈Bs,BOK F) ->
  ∃ y9 y10,Qh (fun _=>True) (QM 10) (qEI a) (Bs.map fun F => .tup (F.map bP)) [x0,x1,x2,x3,x4,x5,x6,x7,x8,x9,x10] S = .nx [x0,x1,x2,x3,x4,x5,x6,x7,x8,y9,y10] S
 |[],x9,x10,_=>⟨x9,x10,Qq trivial⟩
 |F::Fs,x9,x10,h=>by
  obtain ⟨hF,hr,hl⟩:=h F AD
  obtain ⟨y9,y10,e2⟩:=jh (a:=a) (x0:=x0) (x1:=x1) (x2:=x2) (x3:=x3) (x4:=x4) (x5:=x5) (x6:=x6) (x7:=x7) (x8:=x8) (S:=S) Fs (some (.str (tx (Q5 F)))) (some (.tup (F.map bP))) fun G hG=>h G (AG _ hG)
  refine ⟨y9,y10,?_⟩
  refine zH trivial rfl (qa (QU (qM (l:=[.tup (F.map bP)]) rfl (jU hF (by omega)))) (Qd (We (w_not (b:=true) (Qy (qM (l:=[.str (tx (Q5 F)),.ty "str"]) rfl rfl))) (We (w6 (qQ rfl (qM (l:=[.tup (F.map bP)]) rfl (ZY hF (by omega))) qCq)) (w6 (qQ (qM (l:=[.str (tx (Q5 F))]) rfl (Y1 hF hr (by omega))) rfl qFl)))) rfl)) e2
def yK (a:Ad):FS:=(qS (qc 2 (qE (zO a) (qA (qC 0) (qA (qC 1) qD)))) (qS (qc 3 (qG qt (vC (.int 2)) (qE (qO a) (qA (qC 2) (qA (vC (.int 4)) qD))))) (qS (Zk (qE (wa a) (qA (qC 2) (qA (qC 3) (qA (qG ji (vC (.int 40)) (qC 3)) qD)))) (wu 2 (qd (QM 4) (qd (QM 5) w8)))) (qS (qc 6 qEC) (qS (WQ (Q1 (qA (qE (qO a) (qA (qC 2) (qA (vC (.int 9)) qD))) qD)) (QM 7) (jS a)) (qS (WQ (qx (vFz (wt (qA (qC 4) (qA (qE (wG a) (qA (qC 2) (qA (qC 3) (qA (vC (.int 40)) qD)))) (qA (Zy (qC 4) (Q2 (vC (.int 1))) wY) (qA (Zy (qC 4) wY (Q2 (zi (vC (.int 1))))) (qA (Zy (qC 4) (Q2 (vC (.int 3))) wY) (qA (Qr qD) qD))))))))) (QM 8) (qDw a)) (WQ (qx (vFz (wt (qA (qC 5) (qA (qE wH (qA (ZP (qC 6)) qD)) (qA (Qr qD) qD)))))) (QM 10) (qEI a))))))))
theorem qFX {f:FE} {r:qh} {st s1:qB} {p:PV} {R:Rs PV} (h:f r st = .ok p s1) (h2:yT p s1=R):ZP f r st=R:=by unfold ZP;rw [h];exact h2
theorem jM {F:List qU} {lo hi:Option Int}:∃ p q,zY (F.map cP) lo hi=((F.drop p).take q).map cP:=by
 unfold zY
 exact ⟨_,_,by rw [List.map_take,List.map_drop]⟩
theorem qEA {L:Int} {bars:List Bar} {cells:List qU} (h:qAb L bars cells) (hl:cells.length≤40):FOK (Qf cells) :=
 ⟨fun c hc=>h.2.2.2.2 c (mem_srtC.mp hc),Jh h.2.1,by rw [yc];exact hl⟩
theorem jX {bs:List Bar} (h1:bs.Nodup) (h2:∀ b∈bs,OKB b) (hl:bs.length≤100):BOK (Wd bs) :=
 ⟨fun b hb=>h2 b ((Zf bs).mem_iff.mp hb),qDM h1,by rw [(Zf bs).length_eq];exact hl⟩
theorem qEo {a:Ad} {ns:List Int} {k:Int} {st:qB} {x2 x3 x4 x5 x6 x7 x8 x9 x10:Option PV} (hb:∀ n∈ns,Builtin.Int.intBits n≤2 ^ 20) (h0:0≤k) (h00:k < 100) :
  ∃ y2 y3 y4 y5 y6 y7 y8 y9 y10 st',yK a [some (.lst (ns.map PV.int)),some (.int k),x2,x3,x4,x5,x6,x7,x8,x9,x10] st = .nx [some (.lst (ns.map PV.int)),some (.int k),y2,y3,y4,y5,y6,y7,y8,y9,y10] st':=by
 obtain ⟨x,ex⟩:=qHx (a:=a) (ns:=ns) (k:=k) (st:=st) hb h0 h00
 have t1:=QN (a:=a) (st:=st) (j:=[]) (x:=x) (m:=4) ⟨by decide,by decide⟩
 have hL:=wC (x:=x) (m:=4) (by decide)
 have hL1:2≤2 + x % 4:=by omega
 have hL2:2 + x % 4≤5:=by omega
 generalize hLe:2 + x % 4=L at hL1 hL2
 have hT:1≤40 / L∧L * (40 / L)≤40∧40 / L≤20:=by
  have:L=2∨L=3∨L=4∨L=5:=by omega
  rcases this with rfl |rfl |rfl |rfl <;> decide
 obtain ⟨bb,bc,y,g,hI,hC,hB,el⟩:=qAq (a:=a) (st:=st) (j:=[]) (x:=x / 4) (L:=L) (T:=40 / L) hL1 hL2 hT.1 (by omega)
 rw [List.nil_append] at el
 have t2:=QN (a:=a) (st:=st) (j:=g++[.d (dk [])]) (x:=y) (m:=9) ⟨by decide,by decide⟩
 have i2:=wC (x:=y) (m:=9) (by decide)
 obtain ⟨z,ds,y7,d1,d2,d3,ed⟩:=qBj (a:=a) (st:=st) (j:=g) (x0:=some (.lst (ns.map PV.int))) (x1:=some (.int k)) (x3:=some (.int L)) (x4:=some (.tup ((Qf bc).map cP))) (x5:=some (.tup ((Wd bb).map bP))) (x8:=x8) (x9:=x9) (x10:=x10) ((QQ (y % 9)).map PV.int) (y / 9) [] x7 Bc (fun b h=>by cases h) (by rw [AB,qr];show 0 + _≤60;omega)
 rw [AB,qr] at d3
 have d3:ds.length≤0 + (y % 9).toNat:=d3
 obtain ⟨F2,z2,g2,f1,f2,⟨cs,n,f3,f4⟩,ef⟩:=qDl (a:=a) (st:=st) (j:=g++[.d (dk ds)]) (x:=z) (L:=L) (M:=40) hL1 hL2 (by decide) (by decide)
 have k1:FOK (Qf bc):=qEA hI (by omega)
 have k2:FOK F2:=⟨f2,by rw [f4];exact (Jh f3).sublist (List.take_sublist _ _),by omega⟩
 obtain ⟨p3,q3,c3⟩:=jM (F:=Qf bc) (lo:=some 1) (hi:=none)
 obtain ⟨p4,q4,c4⟩:=jM (F:=Qf bc) (lo:=none) (hi:=some (-1))
 obtain ⟨p5,q5,c5⟩:=jM (F:=Qf bc) (lo:=some 3) (hi:=none)
 obtain ⟨y8,y9,g3,efl⟩:=JT (a:=a) (x0:=some (.lst (ns.map PV.int))) (x1:=some (.int k)) (x2:=some (.ref st.length)) (x3:=some (.int L)) (x4:=some (.tup ((Qf bc).map cP))) (x5:=some (.tup ((Wd bb).map bP))) (x6:=some (.ref (st.length + 1 + g.length))) (x7:=y7) (x10:=x10) [Qf bc,F2,((Qf bc).drop p3).take q3,((Qf bc).drop p4).take q4,((Qf bc).drop p5).take q5,[]] x8 x9 (st ++ .l [.int z2]::((g++[.d (dk ds)])++g2)) (fun F hF=>by
  simp only [AL,Ae,Bt] at hF
  rcases hF with rfl |rfl |rfl |rfl |rfl |rfl
  ·exact k1
  ·exact k2
  ·exact k1.cut _ _
  ·exact k1.cut _ _
  ·exact k1.cut _ _
  ·exact ⟨fun c hc=>(by cases hc),List.Pairwise.nil,BG _⟩)
 have hS:((st ++ .l [.int z2]::((g++[.d (dk ds)])++g2))++g3)[st.length + 1 + g.length]? = some (.d (dk ds)):=by
  rw [Av,List.cons_append,Av,Av,A1 (by omega),show st.length + 1 + g.length - st.length=g.length + 1 by omega,List.getElem?_cons_succ,A1 (AI _),Nat.sub_self]
  rfl
 have es:=qEv hS (by omega)
 obtain ⟨w9,w10,ebr⟩:=jh (a:=a) (x0:=some (.lst (ns.map PV.int))) (x1:=some (.int k)) (x2:=some (.ref st.length)) (x3:=some (.int L)) (x4:=some (.tup ((Qf bc).map cP))) (x5:=some (.tup ((Wd bb).map bP))) (x6:=some (.ref (st.length + 1 + g.length))) (x7:=y7) (x8:=y8) (S:=(st ++ .l [.int z2]::((g++[.d (dk ds)])++g2))++g3) [Wd bb,Wd ds,[]] y9 x10 (fun F hF=>by
  simp only [AL,Ae,Bt] at hF
  rcases hF with rfl |rfl |rfl
  ·exact jX hI.2.2.1 hI.2.2.2.1 (by omega)
  ·exact jX d1 d2 (by omega)
  ·exact ⟨fun c hc=>(by cases hc),rfl,BG _⟩)
 have e4:(vFz (wt (qA (qC 4) (qA (qE (wG a) (qA (qC 2) (qA (qC 3) (qA (vC (.int 40)) qD)))) (qA (Zy (qC 4) (Q2 (vC (.int 1))) wY) (qA (Zy (qC 4) wY (Q2 (zi (vC (.int 1))))) (qA (Zy (qC 4) (Q2 (vC (.int 3))) wY) (qA (Qr qD) qD)))))))) [some (.lst (ns.map PV.int)),some (.int k),some (.ref st.length),some (.int L),some (.tup ((Qf bc).map cP)),some (.tup ((Wd bb).map bP)),some (.ref (st.length + 1 + g.length)),y7,x8,x9,x10] (st ++ .l [.int z]::(g++[.d (dk ds)])) = .ok (.lst ([Qf bc,F2,((Qf bc).drop p3).take q3,((Qf bc).drop p4).take q4,((Qf bc).drop p5).take q5,[]].map fun F => .tup (F.map cP))) (st ++ .l [.int z2]::((g++[.d (dk ds)])++g2)):=by
  refine wj (yb ?_ (sz rfl))
  show _=Rs.ok [PV.tup ((Qf bc).map cP),PV.tup (F2.map cP),PV.tup ((((Qf bc).drop p3).take q3).map cP),PV.tup ((((Qf bc).drop p4).take q4).map cP),PV.tup ((((Qf bc).drop p5).take q5).map cP),PV.tup []] _
  rw [← c3,← c4,← c5]
  exact qN rfl (qN (qM (l:=[.ref st.length,.int L,.int 40]) rfl ef) (qN (qCp rfl rfl rfl) (qN (qCp rfl rfl rfl) (qN (qCp rfl rfl rfl) (qN (Wh qY (sz rfl)) qY)))))
 have e5:(vFz (wt (qA (qC 5) (qA (qE wH (qA (ZP (qC 6)) qD)) (qA (Qr qD) qD))))) [some (.lst (ns.map PV.int)),some (.int k),some (.ref st.length),some (.int L),some (.tup ((Qf bc).map cP)),some (.tup ((Wd bb).map bP)),some (.ref (st.length + 1 + g.length)),y7,y8,y9,x10] ((st ++ .l [.int z2]::((g++[.d (dk ds)])++g2))++g3) = .ok (.lst ([Wd bb,Wd ds,[]].map fun F=>PV.tup (F.map bP))) ((st ++ .l [.int z2]::((g++[.d (dk ds)])++g2))++g3):=by
  generalize (st++SO.l [.int z2]::((g++[.d (dk ds)])++g2))++g3=S at es
  exact wj (yb (qN rfl (qN (qM (qN (qFX rfl es) qY) (zN rfl)) (qN (Wh qY (sz rfl)) qY))) (sz rfl))
 refine ⟨some (.ref st.length),some (.int L),some (.tup ((Qf bc).map cP)),some (.tup ((Wd bb).map bP)),some (.ref (st.length + 1 + g.length)),y7,y8,w9,w10,(st ++ .l [.int z2]::((g++[.d (dk ds)])++g2))++g3,?_⟩
 unfold yK
 refine qa (QU (p := .ref st.length) (s1:=st++[.l [.int x]]) (qM (qN rfl (qN rfl qY)) ex)) ?_
 refine qa (QU (p := .int L) (qQ rfl (qM (l:=[.ref st.length,.int 4]) rfl t1) (by rw [wE,hLe]))) ?_
 refine qa (qA8 (r1:=[some (.lst (ns.map PV.int)),some (.int k),some (.ref st.length),some (.int L),some (.tup ((Qf bc).map cP)),some (.tup ((Wd bb).map bP)),x6,x7,x8,x9,x10]) (qM (l:=[.ref st.length,.int L,.int (40 / L)]) (qN rfl (qN rfl (qN (qQ rfl rfl (qDi ⟨by omega,by omega⟩)) qY))) el) rfl) ?_
 refine qa (QU (p := .ref (st.length + 1 + g.length)) (s1:=st ++ .l [.int y]::(g++[.d (dk [])])) (by
  show Rs.ok (PV.ref (st ++ .l [.int y]::g).length) ((st ++ .l [.int y]::g)++[.d []])=_
  rw [qBd,qBc];rfl)) ?_
 refine qa (Zg (itN (L:=y % 9) (by omega) (by omega) (qN (qM (l:=[.ref st.length,.int 9]) rfl t2) qY)) ed) ?_
 refine qa (Zg (wX e4) efl) ?_
 exact Zg (wX e5) ebr
theorem jw {a:Ad} {ns:List Int} (hb:∀ n∈ns,Builtin.Int.intBits n≤2 ^ 20):∀ (ks:List Int) (x1 x2 x3 x4 x5 x6 x7 x8 x9 x10:Option PV) (st:qB),(∀ k∈ks,0≤k∧k < 100) -> ∃ e st',Qh (fun _=>True) (QM 1) (yK a) (ks.map PV.int) [some (.lst (ns.map PV.int)),x1,x2,x3,x4,x5,x6,x7,x8,x9,x10] st = .nx e st'
 |[],x1,x2,x3,x4,x5,x6,x7,x8,x9,x10,st,_=>⟨_,st,Qq trivial⟩
 |k::ks,x1,x2,x3,x4,x5,x6,x7,x8,x9,x10,st,h=>by
  obtain ⟨y2,y3,y4,y5,y6,y7,y8,y9,y10,st1,e⟩:=qEo (a:=a) (ns:=ns) (k:=k) (st:=st) (x2:=x2) (x3:=x3) (x4:=x4) (x5:=x5) (x6:=x6) (x7:=x7) (x8:=x8) (x9:=x9) (x10:=x10) hb (h k AD).1 (h k AD).2
  obtain ⟨e',st',e2⟩:=jw (a:=a) (ns:=ns) hb ks (some (.int k)) y2 y3 y4 y5 y6 y7 y8 y9 y10 st1 fun q hq=>h q (AG _ hq)
  exact ⟨e',st',zH trivial rfl e e2⟩
theorem law_true:∀ (a:Ad) (ns:List Int),qAN a->ns.length≤63->(∀ k∈ns,Builtin.Int.intBits k≤2 ^ 20) -> ∃ st,jy a [.lst (ns.map PV.int)] [] = .ok (.bl true) st:=by
 intro a ns hd hl hb
 obtain ⟨n,hn0,hn4,hn⟩:∃ n:Int,0≤n∧n≤6∧qE qAI (qA (vC (.int 1)) (qA (qE yY (qA (qE zR (qA (qC 0) qD)) (qA (vC (.int 6)) qD))) qD)) (QA 11 [.lst (ns.map PV.int)]) [] = .ok (.int n) []:=by
  refine ⟨if (if (6:Int) < ns.length then 6 else (ns.length:Int)) > 1 then (if (6:Int) < ns.length then 6 else (ns.length:Int)) else 1,?_,?_,?_⟩
  ·split <;> (try split) <;> omega
  ·split <;> (try split) <;> omega
  ·exact qM (qN rfl (qN (qM (l:=[.int ns.length,.int 6]) (qN (qM (qN rfl qY) (YO (l:=ns.map PV.int) rfl (by rw [AB]))) (qN rfl qY)) rfl) qY)) rfl
 obtain ⟨e,st',h⟩:=jw (a:=a) hb (QQ n) none none none none none none none none none none [] fun k hk=>by have:=upto_mem.mp hk;omega
 exact ⟨st',qq rfl (qa (Zg (itN hn0 (by omega) (qN hn qY)) h) (QI rfl))⟩
end K91
end
section

end
noncomputable section
namespace K91
open PySem PySem.Spec PyProof.Rows L2 EX EV
theorem qCC {K:W.Frag}:∀ p∈kitTab,W.kitOne K (.type p.1.1) (.type p.1.2)=some p.2:=by
 intro p hp
 unfold kitTab at hp
 simp only [AL,Ae,Bt] at hp
 rcases hp with rfl |rfl |rfl |rfl |rfl |rfl |rfl |rfl |rfl |rfl |rfl |rfl |rfl |rfl |rfl |rfl |rfl |rfl |rfl |rfl |rfl |rfl |rfl |rfl |rfl |rfl |rfl |rfl <;> rfl
theorem JS {s T:String} {b:Bool}:∀ {l:List ((String×String)×Bool)},l.lookup (s,T)=some b->((s,T),b)∈l
 |[],h=>by cases h
 |(q,k)::l,h=>by
  rw [An] at h
  split at h
  ·rename_i e;cases h;rw [CU e];exact AD
  ·exact AG _ (JS h)
theorem qFu {K:W.Frag} {s T:String} {b:Bool} (h:qIe s T=some b):W.kitOne K (.type s) (.type T)=some b:=qCC _ (JS h)
theorem qE1 {P:Program} {w:World} {K:W.Frag} {mg:Str->Option Value} {base:Heap} {CX:CXT} {k:Nat} {f:Addr} {fd:FuncData} {ps:List Str} {sp sp':Sp} (F:FnOk P w K mg base CX k f fd ps sp) (h:∀ vs H Q E,sp' vs H Q E->sp vs H Q E):FnOk P w K mg base CX k f fd ps sp' :=
 ⟨fun vs H Q E q=>F.len vs H Q E (h vs H Q E q),fun A outer s H args us vs Q E hr e b v q=>F.run A outer s H args us vs Q E hr e b v (h vs H Q E q)⟩
def spL (K:W.Frag):Sp:=fun vs H Q E => ∀ a,qAN a->spG K 1 (jy a) vs H Q E
theorem all_mk {l:W.OpenLaw} {w:World} {K:W.Frag} {h:Heap} {mg:Str->Option Value} {fa:Addr} (X:K.In h) (G:h.Ns mainGlobals mg) (hfa:mg "law" = some (.ref fa))
  {c_Z9 ff0 ff1 ff2 ff3 ff4 ff5 ff6 ff7 ff8 ff9 ff10 ff11 ff12 ff13 ff14 ff15 ff16 ff17 ff18 ff19 ff20 ff21 ff22 ff23 ff24:Addr}
  {t_MOST_CELLS:Tok}
  {t_LAST_LINE:Tok}
  {t_CELL:Tok}
  {t_GAP:Tok}
  {t_NO_CELLS:Tok}
  {t_NONE:Tok}
  {t_FIGURES:Tok}
  {t_WAY_SIGNS:Tok}
  (aa0:W.nsIn K mainGlobals "is_whole" = some (some (.ref ff0)))
  (ll0:K.lookup ff0=some ⟨oc0,od0,.func (W.fnOf "is_whole" "is_whole" (qe wS) (qb wS) (qH wS) .none kV0 dc0 pm0 an0 cd0 ct0),sl0⟩)
  (dd0:W.codeIn K cd0 "is_whole" = true)
  (kk0:W.keepIn K (.ref ff0)=true)
  (aa1:W.nsIn K mainGlobals "is_whole_within" = some (some (.ref ff1)))
  (ll1:K.lookup ff1=some ⟨oc1,od1,.func (W.fnOf "is_whole_within" "is_whole_within" (qe QD) (qb QD) (qH QD) .none kV1 dc1 pm1 an1 cd1 ct1),sl1⟩)
  (dd1:W.codeIn K cd1 "is_whole_within" = true)
  (kk1:W.keepIn K (.ref ff1)=true)
  (aa2:W.nsIn K mainGlobals "is_rising" = some (some (.ref ff2)))
  (ll2:K.lookup ff2=some ⟨oc2,od2,.func (W.fnOf "is_rising" "is_rising" (qe wD) (qb wD) (qH wD) .none kV2 dc2 pm2 an2 cd2 ct2),sl2⟩)
  (dd2:W.codeIn K cd2 "is_rising" = true)
  (kk2:W.keepIn K (.ref ff2)=true)
  (aa3:W.nsIn K mainGlobals "is_cell" = some (some (.ref ff3)))
  (ll3:K.lookup ff3=some ⟨oc3,od3,.func (W.fnOf "is_cell" "is_cell" (qe WC) (qb WC) (qH WC) .none kV3 dc3 pm3 an3 cd3 ct3),sl3⟩)
  (dd3:W.codeIn K cd3 "is_cell" = true)
  (kk3:W.keepIn K (.ref ff3)=true)
  (aa4:W.nsIn K mainGlobals "is_floor" = some (some (.ref ff4)))
  (ll4:K.lookup ff4=some ⟨oc4,od4,.func (W.fnOf "is_floor" "is_floor" (qe wU) (qb wU) (qH wU) .none kV4 dc4 pm4 an4 cd4 ct4),sl4⟩)
  (dd4:W.codeIn K cd4 "is_floor" = true)
  (kk4:W.keepIn K (.ref ff4)=true)
  (aa5:W.nsIn K mainGlobals "row_text" = some (some (.ref ff5)))
  (ll5:K.lookup ff5=some ⟨oc5,od5,.func (W.fnOf "row_text" "row_text" (qe wT) (qb wT) (qH wT) .none kV5 dc5 pm5 an5 cd5 ct5),sl5⟩)
  (dd5:W.codeIn K cd5 "row_text" = true)
  (kk5:W.keepIn K (.ref ff5)=true)
  (aa6:W.nsIn K mainGlobals "floor_text" = some (some (.ref ff6)))
  (ll6:K.lookup ff6=some ⟨oc6,od6,.func (W.fnOf "floor_text" "floor_text" (qe Qc) (qb Qc) (qH Qc) .none kV6 dc6 pm6 an6 cd6 ct6),sl6⟩)
  (dd6:W.codeIn K cd6 "floor_text" = true)
  (kk6:W.keepIn K (.ref ff6)=true)
  (aa7:W.nsIn K mainGlobals "floor_read" = some (some (.ref ff7)))
  (ll7:K.lookup ff7=some ⟨oc7,od7,.func (W.fnOf "floor_read" "floor_read" (qe Qe) (qb Qe) (qH Qe) .none kV7 dc7 pm7 an7 cd7 ct7),sl7⟩)
  (dd7:W.codeIn K cd7 "floor_read" = true)
  (kk7:W.keepIn K (.ref ff7)=true)
  (aa8:W.nsIn K mainGlobals "words_text" = some (some (.ref ff8)))
  (ll8:K.lookup ff8=some ⟨oc8,od8,.func (W.fnOf "words_text" "words_text" (qe Qz) (qb Qz) (qH Qz) .none kV8 dc8 pm8 an8 cd8 ct8),sl8⟩)
  (dd8:W.codeIn K cd8 "words_text" = true)
  (kk8:W.keepIn K (.ref ff8)=true)
  (aa9:W.nsIn K mainGlobals "bars_text" = some (some (.ref ff9)))
  (ll9:K.lookup ff9=some ⟨oc9,od9,.func (W.fnOf "bars_text" "bars_text" (qe Qu) (qb Qu) (qH Qu) .none kV9 dc9 pm9 an9 cd9 ct9),sl9⟩)
  (dd9:W.codeIn K cd9 "bars_text" = true)
  (kk9:W.keepIn K (.ref ff9)=true)
  (aa10:W.nsIn K mainGlobals "is_place_word" = some (some (.ref ff10)))
  (ll10:K.lookup ff10=some ⟨oc10,od10,.func (W.fnOf "is_place_word" "is_place_word" (qe QS) (qb QS) (qH QS) .none kV10 dc10 pm10 an10 cd10 ct10),sl10⟩)
  (dd10:W.codeIn K cd10 "is_place_word" = true)
  (kk10:W.keepIn K (.ref ff10)=true)
  (aa11:W.nsIn K mainGlobals "is_bar_word" = some (some (.ref ff11)))
  (ll11:K.lookup ff11=some ⟨oc11,od11,.func (W.fnOf "is_bar_word" "is_bar_word" (qe Qk) (qb Qk) (qH Qk) .none kV11 dc11 pm11 an11 cd11 ct11),sl11⟩)
  (dd11:W.codeIn K cd11 "is_bar_word" = true)
  (kk11:W.keepIn K (.ref ff11)=true)
  (aa12:W.nsIn K mainGlobals "place_of" = some (some (.ref ff12)))
  (ll12:K.lookup ff12=some ⟨oc12,od12,.func (W.fnOf "place_of" "place_of" (qe wZ) (qb wZ) (qH wZ) .none kV12 dc12 pm12 an12 cd12 ct12),sl12⟩)
  (dd12:W.codeIn K cd12 "place_of" = true)
  (kk12:W.keepIn K (.ref ff12)=true)
  (aa13:W.nsIn K mainGlobals "bar_of" = some (some (.ref ff13)))
  (ll13:K.lookup ff13=some ⟨oc13,od13,.func (W.fnOf "bar_of" "bar_of" (qe Wm) (qb Wm) (qH Wm) .none kV13 dc13 pm13 an13 cd13 ct13),sl13⟩)
  (dd13:W.codeIn K cd13 "bar_of" = true)
  (kk13:W.keepIn K (.ref ff13)=true)
  (aa14:W.nsIn K mainGlobals "bars_read" = some (some (.ref ff14)))
  (ll14:K.lookup ff14=some ⟨oc14,od14,.func (W.fnOf "bars_read" "bars_read" (qe wF) (qb wF) (qH wF) .none kV14 dc14 pm14 an14 cd14 ct14),sl14⟩)
  (dd14:W.codeIn K cd14 "bars_read" = true)
  (kk14:W.keepIn K (.ref ff14)=true)
  (aa15:W.nsIn K mainGlobals "_law_cell" = some (some (.ref ff15)))
  (ll15:K.lookup ff15=some ⟨oc15,od15,.func (W.fnOf "_law_cell" "_law_cell" (qe wR) (qb wR) (qH wR) .none kV15 dc15 pm15 an15 cd15 ct15),sl15⟩)
  (dd15:W.codeIn K cd15 "_law_cell" = true)
  (kk15:W.keepIn K (.ref ff15)=true)
  (aa16:W.nsIn K mainGlobals "_law_mix" = some (some (.ref ff16)))
  (ll16:K.lookup ff16=some ⟨oc16,od16,.func (W.fnOf "_law_mix" "_law_mix" (qe WD) (qb WD) (qH WD) .none kV16 dc16 pm16 an16 cd16 ct16),sl16⟩)
  (dd16:W.codeIn K cd16 "_law_mix" = true)
  (kk16:W.keepIn K (.ref ff16)=true)
  (aa17:W.nsIn K mainGlobals "_law_box" = some (some (.ref ff17)))
  (ll17:K.lookup ff17=some ⟨oc17,od17,.func (W.fnOf "_law_box" "_law_box" (qe WH) (qb WH) (qH WH) .none kV17 dc17 pm17 an17 cd17 ct17),sl17⟩)
  (dd17:W.codeIn K cd17 "_law_box" = true)
  (kk17:W.keepIn K (.ref ff17)=true)
  (aa18:W.nsIn K mainGlobals "_law_take" = some (some (.ref ff18)))
  (ll18:K.lookup ff18=some ⟨oc18,od18,.func (W.fnOf "_law_take" "_law_take" (qe wA) (qb wA) (qH wA) .none kV18 dc18 pm18 an18 cd18 ct18),sl18⟩)
  (dd18:W.codeIn K cd18 "_law_take" = true)
  (kk18:W.keepIn K (.ref ff18)=true)
  (aa19:W.nsIn K mainGlobals "_law_cover" = some (some (.ref ff19)))
  (ll19:K.lookup ff19=some ⟨oc19,od19,.func (W.fnOf "_law_cover" "_law_cover" (qe Qv) (qb Qv) (qH Qv) .none kV19 dc19 pm19 an19 cd19 ct19),sl19⟩)
  (dd19:W.codeIn K cd19 "_law_cover" = true)
  (kk19:W.keepIn K (.ref ff19)=true)
  (aa20:W.nsIn K mainGlobals "_law_laid" = some (some (.ref ff20)))
  (ll20:K.lookup ff20=some ⟨oc20,od20,.func (W.fnOf "_law_laid" "_law_laid" (qe Q9) (qb Q9) (qH Q9) .none kV20 dc20 pm20 an20 cd20 ct20),sl20⟩)
  (dd20:W.codeIn K cd20 "_law_laid" = true)
  (kk20:W.keepIn K (.ref ff20)=true)
  (aa21:W.nsIn K mainGlobals "_law_floor" = some (some (.ref ff21)))
  (ll21:K.lookup ff21=some ⟨oc21,od21,.func (W.fnOf "_law_floor" "_law_floor" (qe Qw) (qb Qw) (qH Qw) .none kV21 dc21 pm21 an21 cd21 ct21),sl21⟩)
  (dd21:W.codeIn K cd21 "_law_floor" = true)
  (kk21:W.keepIn K (.ref ff21)=true)
  (aa22:W.nsIn K mainGlobals "_law_text" = some (some (.ref ff22)))
  (ll22:K.lookup ff22=some ⟨oc22,od22,.func (W.fnOf "_law_text" "_law_text" (qe Q8) (qb Q8) (qH Q8) .none kV22 dc22 pm22 an22 cd22 ct22),sl22⟩)
  (dd22:W.codeIn K cd22 "_law_text" = true)
  (kk22:W.keepIn K (.ref ff22)=true)
  (aa23:W.nsIn K mainGlobals "_law_bars_text" = some (some (.ref ff23)))
  (ll23:K.lookup ff23=some ⟨oc23,od23,.func (W.fnOf "_law_bars_text" "_law_bars_text" (qe QG) (qb QG) (qH QG) .none kV23 dc23 pm23 an23 cd23 ct23),sl23⟩)
  (dd23:W.codeIn K cd23 "_law_bars_text" = true)
  (kk23:W.keepIn K (.ref ff23)=true)
  (aa24:W.nsIn K mainGlobals "law" = some (some (.ref ff24)))
  (ll24:K.lookup ff24=some ⟨oc24,od24,.func (W.fnOf "law" "law" (qe W7) (qb W7) (qH W7) .none kV24 dc24 pm24 an24 cd24 ct24),sl24⟩)
  (dd24:W.codeIn K cd24 "law" = true)
  (kk24:W.keepIn K (.ref ff24)=true)
  (n_all:W.nsIn K mainGlobals "all" = some none)
  (n_bool:W.nsIn K mainGlobals "bool" = some none)
  (n_divmod:W.nsIn K mainGlobals "divmod" = some none)
  (n_enumerate:W.nsIn K mainGlobals "enumerate" = some none)
  (n_int:W.nsIn K mainGlobals "int" = some none)
  (n_isinstance:W.nsIn K mainGlobals "isinstance" = some none)
  (n_len:W.nsIn K mainGlobals "len" = some none)
  (n_max:W.nsIn K mainGlobals "max" = some none)
  (n_min:W.nsIn K mainGlobals "min" = some none)
  (n_range:W.nsIn K mainGlobals "range" = some none)
  (n_sorted:W.nsIn K mainGlobals "sorted" = some none)
  (n_str:W.nsIn K mainGlobals "str" = some none)
  (n_tuple:W.nsIn K mainGlobals "tuple" = some none)
  (g_MOST_CELLS:W.nsIn K mainGlobals "MOST_CELLS" = some (some (.int 40 t_MOST_CELLS)))
  (g_LAST_LINE:W.nsIn K mainGlobals "LAST_LINE" = some (some (.int 7 t_LAST_LINE)))
  (g_CELL:W.nsIn K mainGlobals "CELL" = some (some (.str "#" t_CELL)))
  (g_GAP:W.nsIn K mainGlobals "GAP" = some (some (.str "." t_GAP)))
  (g_NO_CELLS:W.nsIn K mainGlobals "NO_CELLS" = some (some (.str "-" t_NO_CELLS)))
  (g_NONE:W.nsIn K mainGlobals "NONE" = some (some (.str "none" t_NONE)))
  (g_FIGURES:W.nsIn K mainGlobals "FIGURES" = some (some (.str "01234567" t_FIGURES)))
  (g_WAY_SIGNS:W.nsIn K mainGlobals "WAY_SIGNS" = some (some (.str "ad" t_WAY_SIGNS)))
  (q_Z9:W.nsIn K mainGlobals "NoText" = some (some (.ref c_Z9)))
  (ds:qAN ⟨c_Z9,ff0,ff1,ff2,ff3,ff4,ff5,ff6,ff7,ff8,ff9,ff10,ff11,ff12,ff13,ff14,ff15,ff16,ff17,ff18,ff19,ff20,ff21,ff22,ff23,ff24⟩) :
  ∃ fd:FuncData,(∀ (s:Shared) (v:Value),BindsTo s fd ⟨[v],[]⟩ [("_law_script",v)]) ∧ ∀ base:Heap,K.In base->base.Ns mainGlobals mg->FnOk l.prog w K mg base (CXF l.prog w) 7 fa fd ["_law_script"] (spL K):=by
 have e:ff24=fa:=Value.ref.inj (AW ((AX X G aa24).symm.trans hfa))
 subst e
 have V:Env K mg ⟨c_Z9,ff0,ff1,ff2,ff3,ff4,ff5,ff6,ff7,ff8,ff9,ff10,ff11,ff12,ff13,ff14,ff15,ff16,ff17,ff18,ff19,ff20,ff21,ff22,ff23,ff24⟩:=by
  refine { kit:=⟨fun t c b hk => ?_,fun x c b hk => ?_⟩,nk:=qDo _,n_all:=Ao X G n_all,n_bool:=Ao X G n_bool,n_divmod:=Ao X G n_divmod,n_enumerate:=Ao X G n_enumerate,n_int:=Ao X G n_int,n_isinstance:=Ao X G n_isinstance,n_len:=Ao X G n_len,n_max:=Ao X G n_max,n_min:=Ao X G n_min,n_range:=Ao X G n_range,n_sorted:=Ao X G n_sorted,n_str:=Ao X G n_str,n_tuple:=Ao X G n_tuple,c_MOST_CELLS:=⟨_,AX X G g_MOST_CELLS⟩,c_LAST_LINE:=⟨_,AX X G g_LAST_LINE⟩,c_CELL:=⟨_,AX X G g_CELL⟩,c_GAP:=⟨_,AX X G g_GAP⟩,c_NO_CELLS:=⟨_,AX X G g_NO_CELLS⟩,c_NONE:=⟨_,AX X G g_NONE⟩,c_FIGURES:=⟨_,AX X G g_FIGURES⟩,c_WAY_SIGNS:=⟨_,AX X G g_WAY_SIGNS⟩,k_Z9:=AX X G q_Z9,m_is_whole:=AX X G aa0,f_is_whole:=⟨_,q8 (st:=wS) ll0 dd0 kk0⟩,m_is_whole_within:=AX X G aa1,f_is_whole_within:=⟨_,q8 (st:=QD) ll1 dd1 kk1⟩,m_is_rising:=AX X G aa2,f_is_rising:=⟨_,q8 (st:=wD) ll2 dd2 kk2⟩,m_is_cell:=AX X G aa3,f_is_cell:=⟨_,q8 (st:=WC) ll3 dd3 kk3⟩,m_is_floor:=AX X G aa4,f_is_floor:=⟨_,q8 (st:=wU) ll4 dd4 kk4⟩,m_row_text:=AX X G aa5,f_row_text:=⟨_,q8 (st:=wT) ll5 dd5 kk5⟩,m_floor_text:=AX X G aa6,f_floor_text:=⟨_,q8 (st:=Qc) ll6 dd6 kk6⟩,m_floor_read:=AX X G aa7,f_floor_read:=⟨_,q8 (st:=Qe) ll7 dd7 kk7⟩,m_words_text:=AX X G aa8,f_words_text:=⟨_,q8 (st:=Qz) ll8 dd8 kk8⟩,m_bars_text:=AX X G aa9,f_bars_text:=⟨_,q8 (st:=Qu) ll9 dd9 kk9⟩,m_is_place_word:=AX X G aa10,f_is_place_word:=⟨_,q8 (st:=QS) ll10 dd10 kk10⟩,m_is_bar_word:=AX X G aa11,f_is_bar_word:=⟨_,q8 (st:=Qk) ll11 dd11 kk11⟩,m_place_of:=AX X G aa12,f_place_of:=⟨_,q8 (st:=wZ) ll12 dd12 kk12⟩,m_bar_of:=AX X G aa13,f_bar_of:=⟨_,q8 (st:=Wm) ll13 dd13 kk13⟩,m_bars_read:=AX X G aa14,f_bars_read:=⟨_,q8 (st:=wF) ll14 dd14 kk14⟩,m_law_cell:=AX X G aa15,f_law_cell:=⟨_,q8 (st:=wR) ll15 dd15 kk15⟩,m_law_mix:=AX X G aa16,f_law_mix:=⟨_,q8 (st:=WD) ll16 dd16 kk16⟩,m_law_box:=AX X G aa17,f_law_box:=⟨_,q8 (st:=WH) ll17 dd17 kk17⟩,m_law_take:=AX X G aa18,f_law_take:=⟨_,q8 (st:=wA) ll18 dd18 kk18⟩,m_law_cover:=AX X G aa19,f_law_cover:=⟨_,q8 (st:=Qv) ll19 dd19 kk19⟩,m_law_laid:=AX X G aa20,f_law_laid:=⟨_,q8 (st:=Q9) ll20 dd20 kk20⟩,m_law_floor:=AX X G aa21,f_law_floor:=⟨_,q8 (st:=Qw) ll21 dd21 kk21⟩,m_law_text:=AX X G aa22,f_law_text:=⟨_,q8 (st:=Q8) ll22 dd22 kk22⟩,m_law_bars_text:=AX X G aa23,f_law_bars_text:=⟨_,q8 (st:=QG) ll23 dd23 kk23⟩,m_law:=AX X G aa24,f_law:=⟨_,q8 (st:=W7) ll24 dd24 kk24⟩ }
  ·unfold kit at hk
   split at hk
   ·exact qFu hk
   ·cases hk
  ·cases c <;> cases hk
 refine ⟨W.fnOf "law" "law" (qe W7) (qb W7) (qH W7) .none kV24 dc24 pm24 an24 cd24 ct24,fun s v => .of_eq rfl,fun base _ _ => ?_⟩
 exact qE1 (qJB V (q8 (st:=W7) ll24 dd24 kk24)) fun vs H Q E q=>q _ ds
theorem qEO {l:W.OpenLaw} {n k:Nat} {q:Program} {loose:List Str} {XP:(Str->Option Value)->Heap->Prop} {YP:World->Heap->Prop} {d:DefRec} {K:Params->W.Frag} {CX:World->CXT} {sp:World->Sp} {x:Str}
  (hn:l.most=some n) (hn2:n≤sizeLine) (hdf:d.params.defaults=[]) (hr:Room k callerA)
  (hY:∀ (w:World) (h:Heap),YP w h->(K w.params).In h)
  (F:∀ (w:World) (mg:Str->Option Value) (fa:Addr) (h:Heap),(K w.params).In h->h.Ns mainGlobals mg->XP mg h->mg d.name=some (.ref fa) ->
   ∃ fd:FuncData,(∀ (s:Shared) (u:Value),BindsTo s fd ⟨[u],[]⟩ [(x,u)]) ∧
    ∀ base:Heap,(K w.params).In base->base.Ns mainGlobals mg->FnOk l.prog w (K w.params) mg base (CX w) k fa fd [x] (sp w))
  (hsp:∀ (w:World) (H:Hp) (a:Addr) (ns:List Int),ns.length≤n->(∀ k∈ns,Builtin.Int.intBits k≤2 ^ 20)->qG4 H->SqL (K w.params) H a (ns.map V.int)->sp w [.ref a] H (fun v _=>v = .bl true) fun _ _ _=>False)
  (hCX:∀ (w:World) (H:Hp) (s:Shared) (e:Value) (s':Shared),CX w [] H s (fun _ _ _=>False) e s'->False) :
  W.WalkO q loose XP YP l.row.toRowW d [] (fun f vs=>PySem.call f vs):=by
 refine Att.attach_callB hn hdf fun w s₀ s₁ mg mb fa o pm cd doc a vs ns G Y ho hd hcd hmg hobj hints hlen hbits hg => ?_
 have KX:=hY w _ Y
 obtain ⟨fd,hb,hF⟩:=F w mg fa _ KX G.T.g G.X hmg
 exact qDd KX G.T.g G.T.b G.T.builtins G.T.nolimit hg hobj hints (Aa hlen hn2) hr hF hb (fun H hO hS=>hsp w H a ns hlen hbits hO hS) fun H e s'=>hCX w H s₁ e s'
theorem Wq {K:W.Frag} {H:Hp} {b:Bz}:∀ ns:List Int,RVs K H b (ns.map PV.int) (ns.map V.int)
 |[]=>RVs.nil
 |n::ns=>RVs.cons QR (Wq ns)
theorem qC7 (key:∀ (a:Ad) (ns:List Int),qAN a->ns.length≤63->(∀ k∈ns,Builtin.Int.intBits k≤2 ^ 20) -> ∃ st,jy a [.lst (ns.map PV.int)] [] = .ok (.bl true) st) {K:W.Frag} {H:Hp} {a:Addr} {ns:List Int} (hl:ns.length≤63) (hb:∀ k∈ns,Builtin.Int.intBits k≤2 ^ 20) (hS:SqL K H a (ns.map V.int)):spL K [.ref a] H (fun v _=>v = .bl true) fun _ _ _=>False:=by
 intro ad hd
 obtain ⟨st,e⟩:=key ad ns hd hl hb
 refine ⟨rfl,⟨[],[]⟩,[.lst (ns.map PV.int)],[],⟨rfl,Bc,fun i x h=>by simp at h,fun a ha=>(Ae ha).elim,fun a ha=>(Ae ha).elim⟩,RVs.cons ?_ RVs.nil,?_⟩
 ·unfold RV
  exact ⟨a,_,rfl,hS.imp (fun h=>⟨h,Ae,Ae⟩) id,Wq ns⟩
 ·rw [e]
  intro v H' b' _ _ r
  unfold RV at r
  exact r
theorem walk31 (key:∀ (a:Ad) (ns:List Int),qAN a->ns.length≤63->(∀ k∈ns,Builtin.Int.intBits k≤2 ^ 20) -> ∃ st,jy a [.lst (ns.map PV.int)] [] = .ok (.bl true) st) {l:W.OpenLaw} {q:Program} {loose:List Str} {XP:(Str->Option Value)->Heap->Prop} {YP:World->Heap->Prop} {d:DefRec} {K:Params->W.Frag} (hn:l.most=some 63) (hdf:d.params.defaults=[])
  (hY:∀ (w:World) (h:Heap),YP w h->(K w.params).In h)
  (F:∀ (w:World) (mg:Str->Option Value) (fa:Addr) (h:Heap),(K w.params).In h->h.Ns mainGlobals mg->XP mg h->mg d.name=some (.ref fa) ->
   ∃ fd:FuncData,(∀ (s:Shared) (u:Value),BindsTo s fd ⟨[u],[]⟩ [("_law_script",u)]) ∧ ∀ base:Heap,(K w.params).In base->base.Ns mainGlobals mg->FnOk l.prog w (K w.params) mg base (CXF l.prog w) 7 fa fd ["_law_script"] (spL (K w.params))) :
  W.WalkO q loose XP YP l.row.toRowW d [] (fun f vs=>PySem.call f vs) :=
 qEO (n:=63) (k:=7) (x := "_law_script") (CX:=fun w=>CXF l.prog w) (sp:=fun w=>spL (K w.params)) hn (by decide) hdf ⟨fun _=>rfl,by decide,by decide,rfl⟩ hY F (fun _ _ a ns hl hb _ hS=>qC7 key hl hb hS) fun _ _ _ _ _ z=>by
  obtain ⟨_,_,_,_,_,_,_,_,_,_,_,_,q⟩:=z
  exact q
end K91
end
section
namespace PySem.W.Fast
def tw12967438857114034020:=0
def tw16696733019264619849:=0
def tw6998654993663168095:=0
def tw13565781117561889083:=0
def tw12011727351241358551:=0
def tw1731944827351907616:=0
def tw10316388877306055457:=0
def tw9328756748817567639:=0
def tw15522631811609352741:=0
def tw16358652136649068186:=0
def tw821137509985740500:=0
def tw17752461761966567232:=0
def tw1228217828950837594:=0
def tw12908514520183094041:=0
def tw17183493197806795252:=0
def tw5960747337615651119:=0
def tw15538830848892913533:=0
def tw3080215021469233743:=0
def tw14784559180777173659:=0
def tw4706435162465118033:=0
def tw15570737359831753847:=0
def tw1138259532783280177:=0
def tw16845210069917557499:=0
def tw4824986796093086775:=0
def tw11459627123930724673:=0
def tw5177326861937121474:=0
def tw13547688638796995007:=0
def tw3613507971166486000:=0
end PySem.W.Fast
open PySem PySem.W PyProof.Rows
set_option maxRecDepth 100000 in
set_option maxHeartbeats 0 in
theorem PySem.Challenge.cw_barfloors_k91_floors_and_bars_written_holds : PySem.Challenge.rw_barfloors_k91_floors_and_bars_written.Holds := by
  w_on; o_law; k_head; (case hw => w_witness2)
  k_fill
  refine K91.walk31 K91.law_true (l := PySem.Challenge.rw_barfloors_k91_floors_and_bars_written) rfl rfl (fun w h Y => PySem.W.kIn_of Y) ?F
  case F =>
    intro w mg fa h KX G XX hmg
    refine' K91.all_mk KX G hmg ?zzA ?zzB ?zzC ?zzD ?zzE ?zzF ?zzG ?zzH ?zzI ?zzJ ?zzK ?zzL ?zzM ?zzN ?zzO ?zzP ?zzQ ?zzR ?zzS ?zzT ?zzU ?zzV ?zzW ?zzX ?zzY ?zzZ ?zza ?zzb ?zzc ?zzd ?zze ?zzf ?zzg ?zzh ?zzi ?zzj ?zzk ?zzl ?zzm ?zzn ?zzo ?zzp ?zzq ?zzr ?zzs ?zzt ?zzu ?zzv ?zzw ?zzx ?zzy ?zzz ?zyA ?zyB ?zyC ?zyD ?zyE ?zyF ?zyG ?zyH ?zyI ?zyJ ?zyK ?zyL ?zyM ?zyN ?zyO ?zyP ?zyQ ?zyR ?zyS ?zyT ?zyU ?zyV ?zyW ?zyX ?zyY ?zyZ ?zya ?zyb ?zyc ?zyd ?zye ?zyf ?zyg ?zyh ?zyi ?zyj ?zyk ?zyl ?zym ?zyn ?zyo ?zyp ?zyq ?zyr ?zys ?zyt ?zyu ?zyv ?zyw ?zyx ?zyy ?zyz ?zxA ?zxB ?zxC ?zxD ?zxE ?zxF ?zxG ?zxH ?zxI ?zxJ ?zxK ?zxL ?zxM ?zxN ?zxO ?zxP ?zxQ ?zxR ?zxS
    (case zzA|zzB|zzC|zzD|zzE|zzF|zzG|zzH|zzI|zzJ|zzK|zzL|zzM|zzN|zzO|zzP|zzQ|zzR|zzS|zzT|zzU|zzV|zzW|zzX|zzY|zzZ|zza|zzb|zzc|zzd|zze|zzf|zzg|zzh|zzi|zzj|zzk|zzl|zzm|zzn|zzo|zzp|zzq|zzr|zzs|zzt|zzu|zzv|zzw|zzx|zzy|zzz|zyA|zyB|zyC|zyD|zyE|zyF|zyG|zyH|zyI|zyJ|zyK|zyL|zyM|zyN|zyO|zyP|zyQ|zyR|zyS|zyT|zyU|zyV|zyW|zyX|zyY|zyZ|zya|zyb|zyc|zyd|zye|zyf|zyg|zyh|zyi|zyj|zyk|zyl|zym|zyn|zyo|zyp|zyq|zyr|zys|zyt|zyu|zyv|zyw|zyx|zyy|zyz|zxA|zxB|zxC|zxD|zxE|zxF|zxG|zxH|zxI|zxJ|zxK|zxL|zxM|zxN|zxO|zxP|zxQ|zxR => k_is)
    (case zxS => decide)
end
